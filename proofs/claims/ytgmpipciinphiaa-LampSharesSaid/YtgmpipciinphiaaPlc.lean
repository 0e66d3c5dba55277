/- Places among tangents; whether a span is in a list of tangents. -/
import Derived.Test.YtgmpipciinphiaaItp
namespace Go.Proofs.Ytgmpipciinphiaa
set_option linter.unusedSimpArgs false
set_option linter.unusedVariables false
open Go.RowKit
attribute [local go_sem ↓] Go.wp_at_zero Go.wp_at_succ

theorem mulh {a h : Int} (a0 : -5000 ≤ a) (a1 : a ≤ 5000) (h0 : 1 ≤ h) (h1 : h ≤ 30000) : -150000000 ≤ a * h ∧ a * h ≤ 150000000 := by
  have h2 : (0 : Int) ≤ h := by omega
  have e1 := Int.mul_le_mul_of_nonneg_right a1 h2
  have e2 := Int.mul_le_mul_of_nonneg_right a0 h2
  omega

/-- at which tangent a place begins -/
def plcI (us : List Int) (x h : Int) : Nat → Nat → Nat
  | i, 0 => i
  | i, n + 1 => if nth us (i + 1) * h ≤ x then plcI us x h (i + 1) n else i
def plcAt (us : List Int) (x h : Int) : Nat := plcI us x h 0 (us.length - 2)
def plc (us : List Int) (x h : Int) : Plc := ⟨plcAt us x h, nth us (plcAt us x h + 1) * h - x, x - nth us (plcAt us x h) * h, nth us (plcAt us x h + 1) * h - nth us (plcAt us x h) * h⟩

theorem plcI_le (us : List Int) (x h : Int) : ∀ (n i : Nat), i ≤ plcI us x h i n ∧ plcI us x h i n ≤ i + n
  | 0, i => by simp [plcI]
  | n + 1, i => by
    unfold plcI
    split
    · have := plcI_le us x h n (i + 1); omega
    · omega
theorem plcI_lo (us : List Int) (x h : Int) : ∀ (n i : Nat), nth us i * h ≤ x → nth us (plcI us x h i n) * h ≤ x
  | 0, i, h0 => h0
  | n + 1, i, h0 => by
    unfold plcI
    split
    · rename_i h1; exact plcI_lo us x h n (i + 1) h1
    · exact h0
theorem plcI_hi (us : List Int) (x h : Int) : ∀ (n i : Nat), plcI us x h i n < i + n → x < nth us (plcI us x h i n + 1) * h
  | 0, i, h0 => by simp [plcI] at h0
  | n + 1, i, h0 => by
    unfold plcI at h0 ⊢
    split
    · rename_i h1; rw [if_pos h1] at h0; exact plcI_hi us x h n (i + 1) (by omega)
    · rename_i h1; omega

/-- x is from the first tangent to the last one -/
def inB2 (us : List Int) (h a b : Int) : Bool := decide (nth us 0 * h ≤ a ∧ b ≤ nth us (us.length - 1) * h)

theorem plc_ok {us : List Int} (ok : ListOk us) {x h : Int} (h0 : 1 ≤ h) (h1 : h ≤ 30000) (hx : inB2 us h x x = true) :
    PlcOk (plc us x h) ∧ plcAt us x h + 1 < us.length ∧ nth us (plcAt us x h) * h ≤ x ∧ x ≤ nth us (plcAt us x h + 1) * h := by
  have n0 := ok.n0
  obtain ⟨hx0, hx1⟩ := of_decide_eq_true hx
  have k1 := plcI_le us x h (us.length - 2) 0
  have k2 := plcI_lo us x h (us.length - 2) 0 hx0
  have k3 := plcI_hi us x h (us.length - 2) 0
  have e : plcI us x h 0 (us.length - 2) = plcAt us x h := rfl
  rw [e] at k1 k2 k3
  have hlt : plcAt us x h + 1 < us.length := by omega
  have hhi : x ≤ nth us (plcAt us x h + 1) * h := by
    by_cases hc : plcAt us x h < us.length - 2
    · exact Int.le_of_lt (k3 (by omega))
    · rw [show plcAt us x h + 1 = us.length - 1 by omega]; exact hx1
  have up := ok.up (plcAt us x h) hlt
  have m1 := mulh (ok.lo (plcAt us x h) (by omega)) (ok.hi (plcAt us x h) (by omega)) h0 h1
  have m2 := mulh (ok.lo (plcAt us x h + 1) hlt) (ok.hi (plcAt us x h + 1) hlt) h0 h1
  have hp : nth us (plcAt us x h) * h < nth us (plcAt us x h + 1) * h := Int.mul_lt_mul_of_pos_right up (by omega)
  refine ⟨⟨?_, ?_, ?_, ?_, ?_⟩, hlt, k2, hhi⟩ <;> simp only [plc] <;> omega

set_option maxHeartbeats 1000000 in
theorem placeOf_any (A : Option Addr) (c : Nat) (us : List Int) (x h : Int) (w : World) (hu : IntsIn w.heap.size A us w) (ok : ListOk us) (h0 : 1 ≤ h) (h1 : h ≤ 30000) (x0 : -200000000 ≤ x) (x1 : x ≤ 200000000) :
    Calls Try.prog 85 #[.slice A us.length c, .int .i64 x, .int .i64 h] w fun e w' => e = .returned (.agg #[.int .i64 (plc us x h).i, .int .i64 (plc us x h).f, .int .i64 (plc us x h).s, .int .i64 (plc us x h).al]) ∧ Own w.heap.size w w' := by
  have hm := hu.1
  unfold maxLen at hm
  have n0 := ok.n0
  have n1 := ok.n1
  obtain ⟨b, o, rfl, hb, hc⟩ := hu.2 (by omega)
  have HC := Lib.hid hc
  clear hc hu
  have hne : b ≠ w.heap.size := by omega
  have ew : IntKind.i64.wrap ((us.length : Int) - 2) = (us.length : Int) - 2 := IntWalk.i64_in _ (by omega)
  have own0 : Own w.heap.size w (w.alloc (.cells #[.int .i64 0, .int .i64 0, .int .i64 0, .int .i64 0] 123)) := (Own.refl _ _).alloc (Nat.le_refl _) _
  go_enter Try.func85, Try.ntmps85
  go_wp2_with fail
  go_loopg [7] (us.length - 2) (fun n i' wr => ∃ i : Nat, i ≤ us.length - 2 ∧ n = us.length - 2 - i ∧ i' = .int .i64 i ∧ Hid (plcAt us x h = plcI us x h i (us.length - 2 - i)) ∧ wr = w.alloc (.cells #[.int .i64 0, .int .i64 0, .int .i64 0, .int .i64 0] 123))
  case atStart => exact ⟨0, by omega, by omega, rfl, rfl, rfl⟩
  case round =>
    obtain ⟨i, hi, hn0, rfl, ha, rfl⟩ := hrel
    have HN := Lib.hid hn0
    clear hn0
    have c0 := HC.out i (by omega)
    have c1 := HC.out (i + 1) (by omega)
    have m0 := mulh (ok.lo i (by omega)) (ok.hi i (by omega)) h0 h1
    have m1 := mulh (ok.lo (i + 1) (by omega)) (ok.hi (i + 1) (by omega)) h0 h1
    obtain ⟨m00, m01⟩ := m0
    obtain ⟨m10, m11⟩ := m1
    have e1 : IntKind.i64.wrap (nth us i * h) = nth us i * h := IntWalk.i64_in _ (by omega)
    have e2 : IntKind.i64.wrap (nth us (i + 1) * h) = nth us (i + 1) * h := IntWalk.i64_in _ (by omega)
    have e3 : IntKind.i64.wrap ((i : Int) + 1) = (i : Int) + 1 := IntWalk.i64_in _ (by omega)
    have e4 : (0 : Int) ≤ (i : Int) + 1 := by omega
    have e5 : ((i : Int) + 1).toNat = i + 1 := by omega
    have e6 : (i : Int) + 1 < (us.length : Int) := by omega
    have e7 : (i : Int) < (us.length : Int) := by omega
    by_cases hgo : i < us.length - 2 ∧ nth us (i + 1) * h ≤ x
    · obtain ⟨hlt, hle⟩ := hgo
      have hlt' : (i : Int) < (us.length : Int) - 2 := by omega
      have ha' : Hid (plcAt us x h = plcI us x h (i + 1) (us.length - 2 - (i + 1))) := ha.out.trans (by rw [show us.length - 2 - i = (us.length - 2 - (i + 1)) + 1 by omega]; exact if_pos hle)
      go_wp2_with fail
      go_roundg (us.length - 2 - (i + 1))
      case measure => have := HN.out; omega
      case rel => exact ⟨i + 1, by omega, rfl, by go_num, ha', rfl⟩
    · have hp : Hid (plcAt us x h = i) := by
        show plcAt us x h = i
        rw [ha.out]
        by_cases hlt : i < us.length - 2
        · rw [show us.length - 2 - i = (us.length - 2 - (i + 1)) + 1 by omega]
          exact if_neg (fun hle => hgo ⟨hlt, hle⟩)
        · rw [show us.length - 2 - i = 0 by omega]; rfl
      have hv : Hid ((.agg #[.int .i64 (plc us x h).i, .int .i64 (plc us x h).f, .int .i64 (plc us x h).s, .int .i64 (plc us x h).al] : Value) = .agg #[.int .i64 i, .int .i64 (nth us (i + 1) * h - x), .int .i64 (x - nth us i * h), .int .i64 (nth us (i + 1) * h - nth us i * h)]) := by
        show _ = _
        simp only [plc, hp.out]
      by_cases hlt : i < us.length - 2
      · have hlt' : (i : Int) < (us.length : Int) - 2 := by omega
        have hle : ¬ nth us (i + 1) * h ≤ x := fun hh => hgo ⟨hlt, hh⟩
        clear hgo
        go_wp2_with fail
        go_quiet (fail)
        go_wp2_with fail
        refine bodyPost_ret (v := .agg #[.int .i64 i, .int .i64 (nth us (i + 1) * h - x), .int .i64 (x - nth us i * h), .int .i64 (nth us (i + 1) * h - nth us i * h)]) (by simp [results, Try.results85, go_sem]) rfl ⟨by rw [hv.out], ?_⟩
        repeat' (first | exact own0 | exact Nat.le_refl _ | refine Own.setCell ?_ ?_ _ | refine Own.drewN ?_ _ | refine Own.alloc ?_ ?_ _)
      · have hlt' : ¬ (i : Int) < (us.length : Int) - 2 := by omega
        clear hgo
        go_wp2_with fail
        go_quiet (fail)
        go_wp2_with fail
        refine bodyPost_ret (v := .agg #[.int .i64 i, .int .i64 (nth us (i + 1) * h - x), .int .i64 (x - nth us i * h), .int .i64 (nth us (i + 1) * h - nth us i * h)]) (by simp [results, Try.results85, go_sem]) rfl ⟨by rw [hv.out], ?_⟩
        repeat' (first | exact own0 | exact Nat.le_refl _ | refine Own.setCell ?_ ?_ _ | refine Own.drewN ?_ _ | refine Own.alloc ?_ ?_ _)

set_option maxHeartbeats 1000000 in
theorem isIn_any (A : Option Addr) (c : Nat) (us : List Int) (f t h : Int) (w : World) (hu : IntsIn w.heap.size A us w) (ok : ListOk us) (h0 : 1 ≤ h) (h1 : h ≤ 30000) :
    Calls Try.prog 86 #[.agg #[.int .i64 f, .int .i64 t], .slice A us.length c, .int .i64 h] w fun e w' => e = .returned (.bool (inB2 us h f t)) ∧ Own w.heap.size w w' := by
  have hm := hu.1
  unfold maxLen at hm
  have n0 := ok.n0
  have n1 := ok.n1
  obtain ⟨b, o, rfl, hb, hc⟩ := hu.2 (by omega)
  have c0 := hc 0 (by omega)
  have c1 := hc (us.length - 1) (by omega)
  clear hc hu
  rw [Nat.add_zero] at c0
  have hne : b ≠ w.heap.size := by omega
  obtain ⟨m00, m01⟩ := mulh (ok.lo 0 (by omega)) (ok.hi 0 (by omega)) h0 h1
  obtain ⟨m10, m11⟩ := mulh (ok.lo (us.length - 1) (by omega)) (ok.hi (us.length - 1) (by omega)) h0 h1
  have e1 : IntKind.i64.wrap (nth us 0 * h) = nth us 0 * h := IntWalk.i64_in _ (by omega)
  have e2 : IntKind.i64.wrap (nth us (us.length - 1) * h) = nth us (us.length - 1) * h := IntWalk.i64_in _ (by omega)
  have e3 : IntKind.i64.wrap ((us.length : Int) - 1) = ((us.length - 1 : Nat) : Int) := by rw [IntWalk.i64_in _ (by omega)]; omega
  have e4 : (0 : Int) ≤ ((us.length - 1 : Nat) : Int) := by omega
  have e5 : (((us.length - 1 : Nat) : Int)).toNat = us.length - 1 := by omega
  have e6 : ((us.length - 1 : Nat) : Int) < (us.length : Int) := by omega
  have e7 : (0 : Int) < (us.length : Int) := by omega
  have own0 : Own w.heap.size w (w.alloc (.cells #[.int .i64 f, .int .i64 t] 115)) := (Own.refl _ _).alloc (Nat.le_refl _) _
  by_cases g0 : nth us 0 * h ≤ f
  · by_cases g1 : t ≤ nth us (us.length - 1) * h
    · have HF : Hid (inB2 us h f t = true) := decide_eq_true ⟨g0, g1⟩
      go_enter Try.func86, Try.ntmps86
      go_wp2_with fail
      go_quiet (fail)
      go_wp2_with fail
      go_ret
      exact ⟨by rw [HF.out]; rfl, own0.drewN _⟩
    · have HF : Hid (inB2 us h f t = false) := decide_eq_false (fun hh => g1 hh.2)
      have d1 : decide (t ≤ nth us (us.length - 1) * h) = false := decide_eq_false g1
      go_enter Try.func86, Try.ntmps86
      go_wp2_with fail
      go_quiet (fail)
      go_wp2_with fail
      go_ret
      exact ⟨by rw [HF.out]; rfl, own0.drewN _⟩
  · have HF : Hid (inB2 us h f t = false) := decide_eq_false (fun hh => g0 hh.1)
    have d0 : decide (nth us 0 * h ≤ f) = false := decide_eq_false g0
    go_enter Try.func86, Try.ntmps86
    go_wp2_with fail
    go_quiet (fail)
    go_wp2_with fail
    go_ret
    exact ⟨by rw [HF.out]; rfl, own0.drewN _⟩
end Go.Proofs.Ytgmpipciinphiaa
