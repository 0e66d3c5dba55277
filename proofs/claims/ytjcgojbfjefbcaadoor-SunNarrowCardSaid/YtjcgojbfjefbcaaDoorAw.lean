/- Awake: that some calls return what the document says of them. -/
import Derived.Test.YtjcgojbfjefbcaaDoorLv
import Derived.Test.YtjcgojbfjefbcaaDoorAe
namespace Go.Proofs.YtjcgojbfjefbcaaDoor
set_option linter.unusedSimpArgs false
set_option linter.unusedVariables false
open Go.RowKit SineNear

set_option maxHeartbeats 1000000 in
theorem lx_T (lo hi : Int) : RetT 39 #[.int .i64 lo, .int .i64 hi] (en (lo, hi)) := by
  intro w
  go_enter Tryd.func39, Tryd.ntmps39
  go_wp2
  refine bodyPost_ret (v := en (lo, hi)) (by simp [results, Tryd.results39, go_sem]) rfl ⟨rfl, ?_⟩
  exact (Below.refl _ _).alloc (Nat.le_refl _) _

set_option maxHeartbeats 1000000 in
theorem polar_T : RetT 53 #[] (cv 80000000 0 0 (-900000, -800000)) := by
  intro w
  have C := Lib.hid (lx_T (-900000) (-800000))
  go_enter Tryd.func53, Tryd.ntmps53
  go_wp2_with fail
  refine (C.out _).mono ?_
  rintro e v1 ⟨rfl, hq⟩
  have hb : Below w.heap.size w v1 := ((Below.refl _ _).alloc (Nat.le_refl _) _).trans (hq.mono (by simp))
  have hz : w.heap.size < v1.heap.size := by have := hq.size; simp at this; omega
  obtain ⟨hc, hf⟩ := bcellB hq
  clear hq
  go_wp2_with fail
  exact bodyPost_ret (v := cv 80000000 0 0 (-900000, -800000)) (by simp [results, Tryd.results53, go_sem, hc, hz]) rfl ⟨rfl, ((((hb.setCell (by simp) _).setCell (by simp) _).setCell (by simp) _).setCell (by simp) _).setCell (by simp) _⟩

set_option maxHeartbeats 2000000 in
theorem dimming_new (w : World) : Calls Tryd.prog 54 #[] w fun e w' => ∃ A : Addr, e = .returned (dimV (some A) 3 3 200 100) ∧ RowsIn (some A) [(0, 300), (100, 600), (500, 1000)] w' ∧ Below w.heap.size w w' := by
  go_enter Tryd.func54, Tryd.ntmps54
  go_wp2
  refine bodyPost_ret (v := dimV (some ⟨w.heap.size + 1, 0, none⟩) 3 3 200 100) (by simp [results, Tryd.results54, go_sem]) rfl ⟨⟨w.heap.size + 1, 0, none⟩, rfl, ?_, ((Below.refl _ _).alloc (Nat.le_refl _) _).alloc (by simp) _⟩
  refine fun _ => ⟨w.heap.size + 1, 0, rfl, by simp, fun j hj => ?_⟩
  have hj : j < 3 := hj
  have : j = 0 ∨ j = 1 ∨ j = 2 := by omega
  rcases this with rfl | rfl | rfl <;> constructor <;> simp [go_sem, nt]

theorem aw_day : dyV 2100 2 28 = 36583 ∧ dyE 2100 2 28 = 0 := by
  constructor <;> decide +kernel
theorem aw_set : psK 80000000 0 0 (-900000, -800000) 355 false = 1 ∧ erE 80000000 0 0 (-900000, -800000) 355 40000 = 0 := by
  constructor
  · unfold psK
    rw [show (okB 80000000 0 0 (-900000, -800000) && frB 355 0 40000) = true by decide +kernel, if_pos rfl, aw_pa]
  · decide +kernel
theorem aw_lev : leV [(0, 300), (100, 600), (500, 1000)] 200 100 100 = 600 ∧ leE [(0, 300), (100, 600), (500, 1000)] 200 100 100 = 0 := by
  constructor <;> decide +kernel
theorem aw_chk : chE 0 0 0 (0, -1) = 7 := by decide +kernel

set_option maxRecDepth 100000 in
set_option maxHeartbeats 2000000 in
theorem awake_any (ea : Addr) (w : World) (td : TabD ea w) (te : TabE w) :
    Calls Tryd.prog 23 #[] w fun e w' => e = .returned (.bool true) ∧ Below w.heap.size w w' := by
  have hb : Below w.heap.size w w := Below.refl _ _
  have C1 := day_T ea 2100 2 28
  rw [aw_day.1, aw_day.2] at C1
  have C1 := Lib.hid C1
  have C2 := fun W te => set_any 80000000 0 0 (-900000, -800000) 355 W te
  rw [aw_set.1, aw_set.2] at C2
  have C2 := Lib.hid C2
  have C3 : ∀ (A : Addr) W, RowsIn (some A) [(0, 300), (100, 600), (500, 1000)] W → Calls Tryd.prog 28 #[dimV (some A) 3 3 200 100, .int .i64 100] W fun e w' => e = .returned (.tuple #[.int .i64 600, .int .i64 0]) ∧ Below W.heap.size W w' := fun A W r => by
    have h := level_any (some A) 3 [(0, 300), (100, 600), (500, 1000)] 200 100 100 W r
    rw [aw_lev.1, aw_lev.2] at h
    exact h
  have C3 := Lib.hid C3
  have C4 := check_T 0 0 0 (0, -1)
  rw [aw_chk] at C4
  have C4 := Lib.hid C4
  have CP := Lib.hid polar_T
  have CX := Lib.hid (lx_T 0 (-1))
  have CD := Lib.hid dimming_new
  obtain ⟨pz, hpz⟩ : ∃ z, psP 80000000 0 0 (-900000, -800000) 355 false = z := ⟨_, rfl⟩
  rw [hpz] at C2
  clear hpz
  obtain ⟨pl, ph⟩ := pz
  go_enter Tryd.func23, Tryd.ntmps23
  go_wp2_with fail
  refine (C1.out _ td).mono ?_
  rintro e v1 ⟨rfl, hq⟩
  have td := td.below hq
  have te := te.below hq
  have hb := hb.trans (hq.mono hb.size)
  clear hq
  go_wp2_with fail
  refine (CP.out _).mono ?_
  rintro e v2 ⟨rfl, hq⟩
  have te := te.below hq
  have hb := hb.trans (hq.mono hb.size)
  clear hq td
  go_wp2_with fail
  refine (C2.out _ te).mono ?_
  rintro e v3 ⟨rfl, hq⟩
  have hb := hb.trans (hq.mono hb.size)
  clear hq te
  go_wp2_with fail
  refine fresh_call (fun W => Below w.heap.size w W) (hb.alloc hb.size _) ?_
  clear hb
  intro v4 hb
  refine (CD.out _).mono ?_
  rintro e v5 ⟨A, rfl, ri, hq⟩
  have hb := hb.trans (hq.mono hb.size)
  clear hq
  go_wp2_with fail
  refine (C3.out A _ ri).mono ?_
  rintro e v6 ⟨rfl, hq⟩
  have hb := hb.trans (hq.mono hb.size)
  clear hq ri
  go_wp2_with fail
  refine (CX.out _).mono ?_
  rintro e v7 ⟨rfl, hq⟩
  have hb := hb.trans (hq.mono hb.size)
  clear hq
  go_wp2_with fail
  refine (C4.out _).mono ?_
  rintro e v8 ⟨rfl, hq⟩
  have hb := hb.trans (hq.mono hb.size)
  clear hq
  go_wp2_with fail
  go_ret
  exact ⟨rfl, hb⟩
end Go.Proofs.YtjcgojbfjefbcaaDoor
