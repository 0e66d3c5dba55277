/- Quotients of the code, rounded down and up; joins of enclosures. -/
import Derived.Test.YtgmpipciinphiaaMnx
import Derived.IntWalk
import Derived.OneCell
import Derived.Lib.Hide
namespace Go.Proofs.Ytgmpipciinphiaa
set_option linter.unusedSimpArgs false
set_option linter.unusedVariables false
open Go.RowKit

/-- a by b, rounded up -/
def upD (a b : Int) : Int := -((-a) / b)

theorem neg_parts (a b : Int) (hb : 0 < b) : ∃ q r : Int, (-a) / b = q ∧ (-a) % b = r ∧ 0 ≤ r ∧ r < b ∧ a = -(b * q) - r ∧ a / b = if 0 < r then -q - 1 else -q := by
  refine ⟨(-a) / b, (-a) % b, rfl, rfl, Int.emod_nonneg _ (by omega), Int.emod_lt_of_pos _ hb, ?_, ?_⟩
  · have := Int.mul_ediv_add_emod (-a) b; omega
  · have h := Int.mul_ediv_add_emod (-a) b
    have h0 := Int.emod_nonneg (-a) (show b ≠ 0 by omega)
    have h1 := Int.emod_lt_of_pos (-a) hb
    generalize (-a) / b = q at *
    generalize (-a) % b = r at *
    split
    · exact ((Int.ediv_emod_unique hb (r := b - r)).2 ⟨by rw [Int.mul_sub, Int.mul_neg]; omega, by omega, by omega⟩).1
    · exact ((Int.ediv_emod_unique hb (r := 0)).2 ⟨by rw [Int.mul_neg]; omega, by omega, by omega⟩).1
theorem pos_parts (a b : Int) (hb : 0 < b) : ∃ q r : Int, a / b = q ∧ a % b = r ∧ 0 ≤ r ∧ r < b ∧ upD a b = if 0 < r then q + 1 else q := by
  obtain ⟨q, r, h1, h2, h3, h4, h5, h6⟩ := neg_parts (-a) b hb
  rw [Int.neg_neg] at h1 h2
  refine ⟨q, r, h1, h2, h3, h4, ?_⟩
  unfold upD; rw [h6]; split <;> omega

theorem q_bd (a b : Int) (hb : 0 < b) (h0 : -9100000000000000000 ≤ a) (h1 : a ≤ 9100000000000000000) : -9100000000000000000 ≤ a / b ∧ a / b ≤ 9100000000000000000 := by
  constructor
  · exact Int.le_ediv_of_mul_le hb (by have := Int.mul_le_mul_of_nonneg_left (show (1:Int) ≤ b by omega) (show (0:Int) ≤ 9100000000000000000 by decide); omega)
  · by_cases c : 0 ≤ a
    · exact Int.le_trans (Int.ediv_le_self _ c) h1
    · have := Int.ediv_neg_of_neg_of_pos (show a < 0 by omega) hb; omega

set_option maxHeartbeats 400000 in
theorem down_any (a b : Int) (w : World) (hb : 0 < b) (hb1 : b ≤ 9100000000000000000) (h0 : -9100000000000000000 ≤ a) (h1 : a ≤ 9100000000000000000) :
    Calls Try.prog 57 #[.int .i64 a, .int .i64 b] w fun e w' => e = .returned (.int .i64 (a / b)) ∧ w = w' := by
  by_cases ha : 0 ≤ a
  · obtain ⟨q, r, e1, e2, e3, e4, _⟩ := pos_parts a b hb
    have b1 := q_bd a b hb h0 h1
    rw [e1] at b1
    have hr : ¬ r < 0 := by omega
    have H1 : Hid (a / b = q) := e1
    clear e1
    go_enter Try.func57, Try.ntmps57
    go_wp2
    go_ret
    exact ⟨rfl, rfl⟩
  · obtain ⟨q, r, e1, e2, e3, e4, e5, e6⟩ := neg_parts a b hb
    have b1 := q_bd a b hb h0 h1
    have t1 : a.tdiv b = -q := by rw [← e1, ← Int.tdiv_eq_ediv_of_nonneg (by omega), Int.neg_tdiv, Int.neg_neg]
    have t2 : a.tmod b = -r := by rw [← e2, ← Int.tmod_eq_emod_of_nonneg (by omega), Int.neg_tmod, Int.neg_neg]
    have hne : b ≠ 0 := by omega
    rw [e6] at b1 ⊢
    clear e1 e2 e5 e6
    by_cases hr : 0 < r
    · rw [if_pos hr] at b1 ⊢
      go_enter Try.func57, Try.ntmps57
      go_wp2
      go_ret
      exact ⟨rfl, rfl⟩
    · rw [if_neg hr] at b1 ⊢
      go_enter Try.func57, Try.ntmps57
      go_wp2
      go_ret
      exact ⟨rfl, rfl⟩

theorem up_bd (a b : Int) (hb : 0 < b) (h0 : -9100000000000000000 ≤ a) (h1 : a ≤ 9100000000000000000) : -9100000000000000000 ≤ upD a b ∧ upD a b ≤ 9100000000000000000 := by
  have := q_bd (-a) b hb (by omega) (by omega)
  unfold upD; omega

set_option maxHeartbeats 400000 in
theorem up_any (a b : Int) (w : World) (hb : 0 < b) (hb1 : b ≤ 9100000000000000000) (h0 : -9100000000000000000 ≤ a) (h1 : a ≤ 9100000000000000000) :
    Calls Try.prog 58 #[.int .i64 a, .int .i64 b] w fun e w' => e = .returned (.int .i64 (upD a b)) ∧ w = w' := by
  by_cases ha : 0 ≤ a
  · obtain ⟨q, r, e1, e2, e3, e4, e5⟩ := pos_parts a b hb
    have b1 := q_bd a b hb h0 h1
    rw [e1] at b1
    rw [e5]
    clear e5
    have t1 : a.tdiv b = q := by rw [← e1, ← Int.tdiv_eq_ediv_of_nonneg ha]
    have t2 : a.tmod b = r := by rw [← e2, ← Int.tmod_eq_emod_of_nonneg ha]
    by_cases hr : 0 < r
    · rw [if_pos hr]
      go_enter Try.func58, Try.ntmps58
      go_wp2
      go_ret
      exact ⟨rfl, rfl⟩
    · rw [if_neg hr]
      go_enter Try.func58, Try.ntmps58
      go_wp2
      go_ret
      exact ⟨rfl, rfl⟩
  · obtain ⟨q, r, e1, e2, e3, e4, e5, e6⟩ := neg_parts a b hb
    have b1 := q_bd (-a) b hb (by omega) (by omega)
    rw [e1] at b1
    have t1 : a.tdiv b = -q := by rw [← e1, ← Int.tdiv_eq_ediv_of_nonneg (by omega), Int.neg_tdiv, Int.neg_neg]
    have t2 : a.tmod b = -r := by rw [← e2, ← Int.tmod_eq_emod_of_nonneg (by omega), Int.neg_tmod, Int.neg_neg]
    have hne : b ≠ 0 := by omega
    have hr : ¬ 0 < -r := by omega
    unfold upD
    rw [e1]
    clear e1 e2 e5 e6
    go_enter Try.func58, Try.ntmps58
    go_wp2
    go_ret
    exact ⟨rfl, rfl⟩

/-- the least of some numbers, and the greatest -/
def jLo (l : Int) (f : Nat → Int) : Nat → Int
  | 0 => l
  | n+1 => if f n < jLo l f n then f n else jLo l f n
def jHi (l : Int) (f : Nat → Int) : Nat → Int
  | 0 => l
  | n+1 => if jHi l f n < f n then f n else jHi l f n
set_option maxHeartbeats 1000000 in
theorem join_off (l h : Int) (n c b d : Nat) (f g : Nat → Int) (w : World) (hn : n ≤ 1000000) (hb : b < w.heap.size)
    (hf : ∀ j, j < n → w.cell? ⟨b, d + j*2, none⟩ = some (.int .i64 (f j))) (hg : ∀ j, j < n → w.cell? ⟨b, d + j*2+1, none⟩ = some (.int .i64 (g j))) :
    Calls Try.prog 87 #[encl l h, .slice (some ⟨b, d, none⟩) n c] w fun e w' => e = .returned (encl (jLo l f n) (jHi h g n)) ∧ Own w.heap.size w w' := by
  go_enter Try.func87, Try.ntmps87
  go_wp2_with fail
  go_loopw [9] (fun i wr => ∃ k : Nat, k ≤ n ∧ i = .int .i64 k ∧ Own w.heap.size w wr ∧ w.heap.size + 1 < wr.heap.size ∧
      wr.cell? ⟨w.heap.size, 0, none⟩ = some (.int .i64 (jLo l f k)) ∧ wr.cell? ⟨w.heap.size, 1, none⟩ = some (.int .i64 (jHi h g k)) ∧
      wr.frozen? ⟨w.heap.size, 0, none⟩ = false ∧ wr.frozen? ⟨w.heap.size, 1, none⟩ = false ∧
      wr.cell? ⟨w.heap.size+1, 0, none⟩ = some (.int .i64 0) ∧ wr.cell? ⟨w.heap.size+1, 1, none⟩ = some (.int .i64 0) ∧
      wr.frozen? ⟨w.heap.size+1, 0, none⟩ = false ∧ wr.frozen? ⟨w.heap.size+1, 1, none⟩ = false) (fun i _ => n - (intOf i).toNat)
  case atStart =>
    refine ⟨0, by omega, rfl, ?_, ?_, ?_⟩
    · exact ((Own.refl _ _).alloc (Nat.le_refl _) _).alloc (by simp) _
    · simp
    · simp [jLo, jHi, go_sem]
  case round =>
    obtain ⟨k, hk, rfl, hbw, hsz, c0, c1, z0, z1, d0, d1, y0, y1⟩ := hrel
    have hz : w.heap.size < wr.heap.size := by omega
    have hz1 : w.heap.size + 1 < wr.heap.size := by omega
    by_cases hlt : k < n
    · have e1 : wr.cell? ⟨b, d + k*2, none⟩ = some (.int .i64 (f k)) := by rw [hbw.cell (p := ⟨b, d + k*2, none⟩) hb]; exact hf k hlt
      have e2 : wr.cell? ⟨b, d + k*2+1, none⟩ = some (.int .i64 (g k)) := by rw [hbw.cell (p := ⟨b, d + k*2+1, none⟩) hb]; exact hg k hlt
      have hb2 : b < wr.heap.size := by omega
      clear hf hg
      go_wp2
      go_roundw
      case rel =>
        refine ⟨k + 1, by omega, by go_num, ?_, ?_, ?_⟩
        · refine Own.alloc (Own.setCell (Own.setCell hbw ?_ _) ?_ _) ?_ _ <;> first | exact Nat.le_refl _ | (simp; omega)
        · simp; omega
        · simp [jLo, jHi, go_sem, c0, c1, z0, z1, d0, d1, y0, y1, hz, hz1]
          try (refine ⟨?_, ?_⟩ <;> (split <;> omega))
      case measure => simp [intOf]; omega
    · obtain rfl : k = n := by omega
      go_wp2
      refine bodyPost_ret (v := encl _ _) (by simp [results, Try.results87, go_sem, d0, d1]) rfl ⟨rfl, ?_⟩
      refine Own.setCell (Own.setCell hbw ?_ _) ?_ _ <;> simp

end Go.Proofs.Ytgmpipciinphiaa
