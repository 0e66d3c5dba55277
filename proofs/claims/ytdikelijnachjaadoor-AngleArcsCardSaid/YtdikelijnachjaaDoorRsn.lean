/- The reference's sines and cosines. -/
import Derived.Test.YtdikelijnachjaaDoorSte
import Derived.Test.YtdikelijnachjaaDoorRal
import Derived.IntWalk
import Derived.BigRegion
import Derived.Deep.LoopGhost
import Derived.Deep.DrawnRows
namespace Go.Proofs.YtdikelijnachjaaDoor
set_option linter.unusedSimpArgs false
set_option linter.unusedVariables false
open Go.RowKit SineNear
attribute [local go_sem ↓] Go.wp_at_zero Go.wp_at_succ


theorem rneg_any (l h : Int) (h0 : -9100000000000000000 ≤ l) (h1 : l ≤ 9100000000000000000) (h2 : -9100000000000000000 ≤ h) (h3 : h ≤ 9100000000000000000) : RetL 69 #[encl l h] (encl (-h) (-l)) :=
  fun w => negative_any l h h0 h1 h2 h3 w

set_option maxHeartbeats 1000000 in
theorem rsine_low (a : Int) (w : World) (h0 : -9000000000 ≤ a) (h1 : a ≤ 9000000000) (hl : a % 360000000 < 180000000) :
    Calls Tryd.prog 49 #[.int .i64 a] w fun e w' => e = .returned (encl (sLo (min (a % 360000000) (180000000 - a % 360000000))) (sHi (min (a % 360000000) (180000000 - a % 360000000)))) ∧ Own w.heap.size w w' := by
  obtain ⟨r, hr⟩ : ∃ r, r = a % 360000000 := ⟨_, rfl⟩
  have d1 : (a.tmod 360000000 + 360000000).tmod 360000000 = r := by
    rw [Int.tmod_eq_emod_of_nonneg (by rw [Int.tmod_eq_emod]; split <;> omega), Int.tmod_eq_emod]
    split <;> omega
  have b0 : -360000000 < a.tmod 360000000 ∧ a.tmod 360000000 < 360000000 := by rw [Int.tmod_eq_emod]; split <;> omega
  have w1 : IntKind.i64.wrap (a.tmod 360000000 + 360000000) = a.tmod 360000000 + 360000000 := IntWalk.i64_in _ (by omega)
  have w0 : IntKind.i64.wrap (a.tmod 360000000) = a.tmod 360000000 := IntWalk.i64_in _ (by omega)
  rw [← hr] at hl ⊢
  have r0 : 0 ≤ r := by omega
  have w2 : IntKind.i64.wrap r = r := IntWalk.i64_in _ (by omega)
  have w3 : IntKind.i64.wrap (180000000 - r) = 180000000 - r := IntWalk.i64_in _ (by omega)
  obtain ⟨m, hm⟩ : ∃ m, m = min r (180000000 - r) := ⟨_, rfl⟩
  have m0 : 0 ≤ m ∧ m ≤ 90000000 := by omega
  rw [← hm]
  have hm' := hm.symm
  clear hr hm
  go_enter Tryd.func49, Tryd.ntmps49
  go_wp2_with fail
  refine (steep_any m _ m0.1 m0.2).mono ?_
  rintro e w1 ⟨rfl, hb1⟩
  have br := (Box.fresh w 0 0 23).below hb1.below
  have o1 : Own w.heap.size w w1 := ((Own.refl _ _).alloc (Nat.le_refl _) _).trans (hb1.mono (by simp))
  obtain ⟨c0, c1, c2, c3, c4⟩ := br
  go_wp2_with fail
  refine bodyPost_ret (v := encl _ _) (by simp [results, Tryd.results49, go_sem, c0, c1]) rfl ⟨rfl, ?_⟩
  exact (o1.put (Nat.le_refl _) _).put (Nat.le_refl _) _

set_option maxHeartbeats 1000000 in
theorem rsine_high (a : Int) (w : World) (h0 : -9000000000 ≤ a) (h1 : a ≤ 9000000000) (hl : ¬ a % 360000000 < 180000000) :
    Calls Tryd.prog 49 #[.int .i64 a] w fun e w' => e = .returned (encl (- sHi (min (a % 360000000 - 180000000) (180000000 - (a % 360000000 - 180000000)))) (- sLo (min (a % 360000000 - 180000000) (180000000 - (a % 360000000 - 180000000))))) ∧ Own w.heap.size w w' := by
  obtain ⟨r, hr⟩ : ∃ r, r = a % 360000000 := ⟨_, rfl⟩
  have d1 : (a.tmod 360000000 + 360000000).tmod 360000000 = r := by
    rw [Int.tmod_eq_emod_of_nonneg (by rw [Int.tmod_eq_emod]; split <;> omega), Int.tmod_eq_emod]
    split <;> omega
  have b0 : -360000000 < a.tmod 360000000 ∧ a.tmod 360000000 < 360000000 := by rw [Int.tmod_eq_emod]; split <;> omega
  have w1 : IntKind.i64.wrap (a.tmod 360000000 + 360000000) = a.tmod 360000000 + 360000000 := IntWalk.i64_in _ (by omega)
  have w0 : IntKind.i64.wrap (a.tmod 360000000) = a.tmod 360000000 := IntWalk.i64_in _ (by omega)
  rw [← hr] at hl ⊢
  have r1 : r < 360000000 := by omega
  have hl' : 180000000 ≤ r := by omega
  have w2 : IntKind.i64.wrap r = r := IntWalk.i64_in _ (by omega)
  have w3 : IntKind.i64.wrap (r - 180000000) = r - 180000000 := IntWalk.i64_in _ (by omega)
  have C := rsine_low (r - 180000000)
  have e1 : (r - 180000000) % 360000000 = r - 180000000 := by omega
  rw [e1] at C
  have L := hidden (fun w => C w (by omega) (by omega) (by omega))
  obtain ⟨m, hm⟩ : ∃ m, m = min (r - 180000000) (180000000 - (r - 180000000)) := ⟨_, rfl⟩
  have m0 : 0 ≤ m ∧ m ≤ 90000000 := by omega
  have b1 := sLo_bd m m0.1 m0.2
  have b2 := sHi_bd m m0.1 m0.2
  rw [← hm] at L ⊢
  clear hr hm C e1
  go_enter Tryd.func49, Tryd.ntmps49
  go_wp2_with fail
  refine (L.out _).mono ?_
  rintro e w1 ⟨rfl, hb1⟩
  have br := (Box.fresh w 0 0 23).below hb1.below
  have o1 : Own w.heap.size w w1 := ((Own.refl _ _).alloc (Nat.le_refl _) _).trans (hb1.mono (by simp))
  go_wp2_with fail
  refine ((rneg_any (sLo m) (sHi m) (by omega) (by omega) (by omega) (by omega)).at _).mono ?_
  rintro e w2 ⟨rfl, hb2⟩
  have br := br.below hb2.below
  have o2 := o1.trans (hb2.mono o1.size)
  obtain ⟨c0, c1, c2, c3, c4⟩ := br
  go_wp2_with fail
  refine bodyPost_ret (v := encl _ _) (by simp [results, Tryd.results49, go_sem, c0, c1]) rfl ⟨rfl, ?_⟩
  exact (o2.put (Nat.le_refl _) _).put (Nat.le_refl _) _

theorem rsine_any (a : Int) (h0 : -9000000000 ≤ a) (h1 : a ≤ 9000000000) : RetL 49 #[.int .i64 a] (encl (sinLo a) (sinHi a)) := by
  intro w
  unfold sinLo sinHi
  by_cases hl : a % 360000000 < 180000000
  · rw [if_pos hl, if_pos hl]; exact rsine_low a w h0 h1 hl
  · rw [if_neg hl, if_neg hl]; exact rsine_high a w h0 h1 hl
end Go.Proofs.YtdikelijnachjaaDoor
