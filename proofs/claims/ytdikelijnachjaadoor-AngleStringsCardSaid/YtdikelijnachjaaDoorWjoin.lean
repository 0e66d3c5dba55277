/- Joins of enclosures, as the code computes them. -/
import Derived.Test.YtdikelijnachjaaDoorWsin
import Derived.OneCell
namespace Go.Proofs.YtdikelijnachjaaDoor
set_option linter.unusedSimpArgs false
set_option linter.unusedVariables false
open Go.RowKit SineNear

set_option maxHeartbeats 1000000 in
theorem join_any (l h : Int) (n b : Nat) (f g : Nat → Int) (w : World) (hn : n ≤ 10) (hb : b < w.heap.size)
    (hf : ∀ j, j < n → w.cell? ⟨b, j*2, none⟩ = some (.int .i64 (f j))) (hg : ∀ j, j < n → w.cell? ⟨b, j*2+1, none⟩ = some (.int .i64 (g j))) :
    Calls Tryd.prog 55 #[encl l h, .slice (some ⟨b, 0, none⟩) n n] w fun e w' => e = .returned (encl (jLo l f n) (jHi h g n)) ∧ Own w.heap.size w w' := by
  go_enter Tryd.func55, Tryd.ntmps55
  go_wp2_with fail
  go_loopw [9] (fun i wr => ∃ k : Nat, k ≤ n ∧ i = .int .i64 k ∧ Own w.heap.size w wr ∧ w.heap.size + 1 < wr.heap.size ∧
      wr.cell? ⟨w.heap.size, 0, none⟩ = some (.int .i64 (jLo l f k)) ∧ wr.cell? ⟨w.heap.size, 1, none⟩ = some (.int .i64 (jHi h g k)) ∧
      wr.frozen? ⟨w.heap.size, 0, none⟩ = false ∧ wr.frozen? ⟨w.heap.size, 1, none⟩ = false ∧
      wr.cell? ⟨w.heap.size+1, 0, none⟩ = some (.int .i64 0) ∧ wr.cell? ⟨w.heap.size+1, 1, none⟩ = some (.int .i64 0) ∧
      wr.frozen? ⟨w.heap.size+1, 0, none⟩ = false ∧ wr.frozen? ⟨w.heap.size+1, 1, none⟩ = false) (fun i _ => n - (intOf i).toNat)
  case atStart =>
    refine ⟨0, by omega, rfl, ?_, ?_, ?_⟩
    · exact ((Own.refl _ _).alloc (Nat.le_refl _) _).alloc (by simp) _
    · simp
    · simp [jLo, jHi, go_sem]
  case round =>
    obtain ⟨k, hk, rfl, hbw, hsz, c0, c1, z0, z1, d0, d1, y0, y1⟩ := hrel
    have hz : w.heap.size < wr.heap.size := by omega
    have hz1 : w.heap.size + 1 < wr.heap.size := by omega
    by_cases hlt : k < n
    · have e1 : wr.cell? ⟨b, k*2, none⟩ = some (.int .i64 (f k)) := by rw [hbw.cell (p := ⟨b, k*2, none⟩) hb]; exact hf k hlt
      have e2 : wr.cell? ⟨b, k*2+1, none⟩ = some (.int .i64 (g k)) := by rw [hbw.cell (p := ⟨b, k*2+1, none⟩) hb]; exact hg k hlt
      have hb2 : b < wr.heap.size := by omega
      clear hf hg
      go_wp2
      go_roundw
      case rel =>
        refine ⟨k + 1, by omega, by go_num, ?_, ?_, ?_⟩
        · refine Own.alloc (Own.setCell (Own.setCell hbw ?_ _) ?_ _) ?_ _ <;> first | exact Nat.le_refl _ | (simp; omega)
        · simp; omega
        · simp [jLo, jHi, go_sem, c0, c1, z0, z1, d0, d1, y0, y1, hz, hz1]
      case measure => simp [intOf]; omega
    · obtain rfl : k = n := by omega
      go_wp2
      refine bodyPost_ret (v := encl _ _) (by simp [results, Tryd.results55, go_sem, d0, d1]) rfl ⟨rfl, ?_⟩
      refine Own.setCell (Own.setCell hbw ?_ _) ?_ _ <;> simp

theorem passes_pas (lo hi a : Int) (w : World) (b1 : -8000000000 ≤ lo) (b2 : lo ≤ 8000000000) (b5 : -8000000000 ≤ a) (b6 : a ≤ 8000000000) :
    Calls Tryd.prog 80 #[.int .i64 lo, .int .i64 hi, .int .i64 a] w fun e w' => e = .returned (.bool (pas lo hi a)) ∧ w = w' :=
  passes_any lo hi a w b1 b2 b5 b6

set_option maxHeartbeats 1000000 in
theorem sines_any (lo hi : Int) (w : World) (b1 : -8000000000 ≤ lo) (b2 : lo ≤ 8000000000) (b3 : -8000000000 ≤ hi) (b4 : hi ≤ 8000000000) :
    Calls Tryd.prog 51 #[.int .i64 lo, .int .i64 hi] w fun e w' => e = .returned (encl (siLo lo hi) (siHi lo hi)) ∧ Own w.heap.size w w' := by
  unfold siLo siHi
  cases h1 : pas lo hi 90000000 <;> cases h2 : pas lo hi (-90000000)
  all_goals
    simp only [Bool.false_eq_true, if_false, if_true]
    go_enter Tryd.func51, Tryd.ntmps51
    go_wp2_with fail
    refine (sine_any lo _ (by omega) (by omega)).mono ?_
    rintro e w1 ⟨rfl, hb1⟩
    have hz1 : w.heap.size < w1.heap.size := by have := hb1.size; simp at this; omega
    go_wp2_with fail
    refine (sine_any hi _ (by omega) (by omega)).mono ?_
    rintro e w2 ⟨rfl, hb2⟩
    have hz2 : w.heap.size < w2.heap.size := by have := hb2.size; omega
    go_wp2_with fail
    refine (join_any (sinLo lo) (sinHi lo) 1 w2.heap.size (fun _ => sinLo hi) (fun _ => sinHi hi) _ (by omega) (by simp) ?_ ?_).mono ?_
    · intro j hj; obtain rfl : j = 0 := by omega
      simp [go_sem]
    · intro j hj; obtain rfl : j = 0 := by omega
      simp [go_sem]
    rintro e w3 ⟨rfl, hb3⟩
    have hc : ∀ o, w3.cell? ⟨w.heap.size, o, none⟩ = (w.alloc (.cells #[.int .i64 0, .int .i64 0] 23)).cell? ⟨w.heap.size, o, none⟩ := by
      intro o
      rw [hb3.cell (p := ⟨w.heap.size, o, none⟩) (by simp; omega), World.cell?_alloc_old _ _ _ (by simp; omega), hb2.cell (p := ⟨w.heap.size, o, none⟩) (by simp; omega), hb1.cell (p := ⟨w.heap.size, o, none⟩) (by simp)]
    have hf : ∀ o, w3.frozen? ⟨w.heap.size, o, none⟩ = (w.alloc (.cells #[.int .i64 0, .int .i64 0] 23)).frozen? ⟨w.heap.size, o, none⟩ := by
      intro o
      rw [hb3.frozen (p := ⟨w.heap.size, o, none⟩) (by simp; omega), frozen?_alloc_cells, hb2.frozen (p := ⟨w.heap.size, o, none⟩) (by simp; omega), hb1.frozen (p := ⟨w.heap.size, o, none⟩) (by simp)]
    have hz3 : w.heap.size < w3.heap.size := by have := hb3.size; simp at this; omega
    have hbw : Own w.heap.size w w3 := (((((Own.refl _ _).alloc (Nat.le_refl _) _).trans (hb1.mono (by simp))).trans (hb2.mono (by omega))).alloc (by omega) _).trans (hb3.mono (by simp; omega))
    go_wp2_with fail
    refine (passes_pas lo hi 90000000 _ (by omega) (by omega) (by omega) (by omega)).mono ?_
    rintro e w4 ⟨rfl, rfl⟩
    go_wp2_with fail
    refine (passes_pas lo hi (-90000000) _ (by omega) (by omega) (by omega) (by omega)).mono ?_
    rintro e w4 ⟨rfl, rfl⟩
    go_wp2_with fail
    refine bodyPost_ret (v := encl _ _) (by simp [results, Tryd.results51, go_sem, hc, hz3]) rfl ⟨rfl, ?_⟩
    repeat' (first | exact hbw | exact Nat.le_refl _ | refine Own.setCell ?_ ?_ _ | refine Own.alloc ?_ ?_ _)
    all_goals (first | (simp; done) | (simp; omega))
end Go.Proofs.YtdikelijnachjaaDoor
