/- Awake: that some calls return what the document says of them. -/
import Derived.Test.YtdikelijnachjaaDoorArcs
import Derived.Test.YtdikelijnachjaaDoorWwrt
namespace Go.Proofs.YtdikelijnachjaaDoor
set_option linter.unusedSimpArgs false
set_option linter.unusedVariables false
open Go.RowKit SineNear

set_option maxHeartbeats 400000 in
theorem x_any (lo hi : Int) (w : World) :
    Calls Tryd.prog 47 #[.int .i64 lo, .int .i64 hi] w fun e w' => e = .returned (encl lo hi) ∧ Own w.heap.size w w' := by
  go_enter Tryd.func47, Tryd.ntmps47
  go_wp2
  refine bodyPost_ret (v := encl lo hi) (by simp [results, Tryd.results47, go_sem]) rfl ⟨rfl, ?_⟩
  exact (Own.refl _ _).alloc (Nat.le_refl _) _

theorem awake_sin (w : World) : Calls Tryd.prog 15 #[.int .i64 45000000] w fun e w' => e = .returned (enclE 70710678 70710679 0) ∧ Own w.heap.size w w' := by
  have h := sin_any 45000000 w
  rw [show sofLo 45000000 45000000 = 70710678 by decide +kernel, show sofHi 45000000 45000000 = 70710679 by decide +kernel, show angE 45000000 45000000 = 0 by decide +kernel] at h
  exact h
theorem awake_no (w : World) : Calls Tryd.prog 15 #[.int .i64 3600000001] w fun e w' => e = .returned (enclE 0 0 7) ∧ Own w.heap.size w w' := by
  have h := sin_any 3600000001 w
  rw [show sofLo 3600000001 3600000001 = 0 by decide +kernel, show sofHi 3600000001 3600000001 = 0 by decide +kernel, show angE 3600000001 3600000001 = 7 by decide +kernel] at h
  exact h
theorem awake_arc (w : World) : Calls Tryd.prog 24 #[encl 50000000 100000000] w fun e w' => e = .returned (enclE 0 60000000 0) ∧ Own w.heap.size w w' := by
  have h := arccos_yes 50000000 100000000 w (by decide +kernel)
  have a1 : arcA 100000000 = 90000000 := arcA_is _ _ (by decide) (by decide) (Or.inr (by decide +kernel)) (Or.inl rfl)
  have a2 : arcA (-50000000) = -30000000 := arcA_is _ _ (by decide) (by decide) (Or.inr (by decide +kernel)) (Or.inr (by decide +kernel))
  rw [a1, a2] at h
  exact h
theorem awake_write (w : World) (t : Tabs w) : Calls Tryd.prog 40 #[.int .i64 51507400, .int .i64 0] w fun e w' => e = .returned (strE [53, 49, 46, 53, 48, 55, 52, 78] 0) ∧ Below w.heap.size w w' := by
  have h := write_any 51507400 0 w t
  have d51 : Lib.decDigits 51 = [53, 49] := by rw [Lib.decDigits_two (by decide) (by decide)]; rfl
  have d1 : Lib.decDigits 1507400 = [49, 53, 48, 55, 52, 48, 48] := by
    rw [Lib.decDigits, dif_neg (by decide), Lib.decDigits, dif_neg (by decide), Lib.decDigits, dif_neg (by decide), Lib.decDigits, dif_neg (by decide), Lib.decDigits, dif_neg (by decide), Lib.decDigits_two (by decide) (by decide)]
    rfl
  have e1 : wsz 51507400 = [53, 49, 46, 53, 48, 55, 52] := by
    unfold wsz
    rw [if_neg (by decide)]
    unfold Lib.itoa
    rw [if_neg (by decide), if_neg (by decide)]
    show Lib.decDigits 51 ++ [46] ++ Lib.trimRightB (Lib.decDigits 1507400).tail 48 = _
    rw [d51, d1]
    decide
  have e2 : wE 51507400 0 = 0 := by decide
  have e3 : wS 51507400 0 = [53, 49, 46, 53, 48, 55, 52, 78] := by
    unfold wS
    rw [e2, if_pos rfl]
    show wsz 51507400 ++ [wLetter 51507400 0] = _
    rw [e1]; rfl
  rw [e2, e3] at h
  exact h

/-- two enclosures in their boxes, and all that a region leaves as it was -/
def KpA (W : World) (b c : Nat) (l h l2 h2 : Int) (w : World) : Prop :=
  w.cell? ⟨b, 0, none⟩ = some (.int .i64 l) ∧ w.cell? ⟨b, 1, none⟩ = some (.int .i64 h) ∧ w.cell? ⟨c, 0, none⟩ = some (.int .i64 l2) ∧ w.cell? ⟨c, 1, none⟩ = some (.int .i64 h2) ∧ (b < w.heap.size ∧ c < w.heap.size) ∧ Below W.heap.size W w

theorem KpA.call {W w w1 : World} {b c : Nat} {l h l2 h2 : Int} (k : KpA W b c l h l2 h2 w) (o : Below w.heap.size w w1) : KpA W b c l h l2 h2 w1 := by
  obtain ⟨k0, k1, k2, k3, ⟨hb', hc'⟩, k6⟩ := k
  have hsz := o.size
  refine ⟨?_, ?_, ?_, ?_, ⟨by omega, by omega⟩, k6.trans (o.mono k6.size)⟩
  · rw [o.cell (p := ⟨b, 0, none⟩) hb']; exact k0
  · rw [o.cell (p := ⟨b, 1, none⟩) hb']; exact k1
  · rw [o.cell (p := ⟨c, 0, none⟩) hc']; exact k2
  · rw [o.cell (p := ⟨c, 1, none⟩) hc']; exact k3

set_option maxRecDepth 100000 in
set_option maxHeartbeats 1000000 in
theorem awake_any (w : World) (t : Tabs w) :
    Calls Tryd.prog 23 #[] w fun e w' => e = .returned (.bool true) ∧ Below w.heap.size w w' := by
  go_enter Tryd.func23, Tryd.ntmps23
  go_wp2_with fail
  refine (awake_sin w).mono ?_
  rintro e w1 ⟨rfl, hb1⟩
  have hz1 := hb1.size
  go_wp2_with fail
  refine (x_any 50000000 100000000 _).mono ?_
  rintro e w2 ⟨rfl, hb2⟩
  have hz2 : w1.heap.size < w2.heap.size := by have := hb2.size; simp at this; omega
  go_wp2_with fail
  refine (awake_arc w2).mono ?_
  rintro e w3 ⟨rfl, hb3⟩
  have hz3 : w2.heap.size ≤ w3.heap.size := hb3.size
  go_wp2_with fail
  have t3 : Below w.heap.size w w3 := ((hb1.below.alloc hz1 _).trans (hb2.below.mono (by simp; omega))).trans (hb3.below.mono (by omega))
  refine (awake_write _ (t.below (t3.alloc (by omega) _))).mono ?_
  rintro e w4 ⟨rfl, hb4⟩
  have hz4 : w3.heap.size < w4.heap.size := by have := hb4.size; simp at this; omega
  go_wp2_with fail
  refine (awake_no w4).mono ?_
  rintro e w5 ⟨rfl, hb5⟩
  have hz5 : w4.heap.size ≤ w5.heap.size := hb5.size
  go_wp2_with fail
  obtain ⟨W, hW⟩ : ∃ W, W = w5.alloc (.cells #[.int .i64 0, .int .i64 0] 23) := ⟨_, rfl⟩
  rw [← hW]
  have B1 : Below (w1.heap.size + 1) (w1.alloc (.cells #[.int .i64 70710678, .int .i64 70710679] 23)) W := by
    rw [hW]
    exact ((((((hb2.below.mono (by simp)).trans (hb3.below.mono (by omega))).alloc (by omega) _).trans (hb4.mono (by simp; omega))).trans (hb5.below.mono (by omega))).alloc (by omega) _)
  have B3 : Below (w3.heap.size + 1) (w3.alloc (.cells #[.int .i64 0, .int .i64 60000000] 23)) W := by
    rw [hW]
    exact (((hb4.mono (by simp)).trans (hb5.below.mono (by omega))).alloc (by omega) _)
  have B0 : Below w.heap.size w W := ((hb1.below.alloc hz1 _).trans (B1.mono (by omega)))
  have zW : w3.heap.size + 1 ≤ W.heap.size := by have := B3.size; simp at this; omega
  have hS : KpA w w1.heap.size w3.heap.size 70710678 70710679 0 60000000 W := by
    refine ⟨?_, ?_, ?_, ?_, ⟨by omega, by omega⟩, B0⟩
    · rw [B1.cell (p := ⟨w1.heap.size, 0, none⟩) (by simp)]; simp [go_sem]
    · rw [B1.cell (p := ⟨w1.heap.size, 1, none⟩) (by simp)]; simp [go_sem]
    · rw [B3.cell (p := ⟨w3.heap.size, 0, none⟩) (by simp)]; simp [go_sem]
    · rw [B3.cell (p := ⟨w3.heap.size, 1, none⟩) (by simp)]; simp [go_sem]
  clear hW B1 B3
  go_region_held3 (fun w' => w'.cell? ⟨w1.heap.size, 0, none⟩ = some (.int .i64 70710678) ∧ w'.cell? ⟨w1.heap.size, 1, none⟩ = some (.int .i64 70710679) ∧ w'.cell? ⟨w3.heap.size, 0, none⟩ = some (.int .i64 0) ∧ w'.cell? ⟨w3.heap.size, 1, none⟩ = some (.int .i64 60000000) ∧ (w1.heap.size < w'.heap.size ∧ w3.heap.size < w'.heap.size) ∧ Below w.heap.size w w')
    (first | exact KpA.call hS (Below.refl _ _).drew | exact KpA.call (by assumption) hbq.below)
    (first | (go_at_call 47; with_reducible refine (x_any _ _ _).mono ?_; rintro e wq ⟨rfl, hbq⟩))
  go_wp2
  go_ret
  exact ⟨rfl, (show KpA w w1.heap.size w3.heap.size 70710678 70710679 0 60000000 wq by assumption).2.2.2.2.2⟩
end Go.Proofs.YtdikelijnachjaaDoor
