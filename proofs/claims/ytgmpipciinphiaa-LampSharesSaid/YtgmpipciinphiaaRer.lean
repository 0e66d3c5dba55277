/- The reference's errors of a catalogue with the index of a table, or of a lamp. -/
import Derived.Test.YtgmpipciinphiaaRck
namespace Go.Proofs.Ytgmpipciinphiaa
set_option linter.unusedSimpArgs false
set_option linter.unusedVariables false
open Go.RowKit
attribute [local go_sem ↓] Go.wp_at_zero Go.wp_at_succ

set_option maxHeartbeats 1000000 in
theorem rlamped_any (c : Cat) (i : Int) (w : World) (h : CatIn w.heap.size c w) :
    Calls Try.prog 64 #[.agg #[c.tv, c.lv], .int .i64 i] w fun e w' => e = .returned (.int .i64 (errOf c i c.lamps.length)) ∧ Own w.heap.size w w' := by
  have hn := h.lamps.1
  unfold maxLen at hn
  have own0 : Own w.heap.size w (w.alloc (.cells #[c.tv, c.lv] 25)) := (Own.refl _ _).alloc (Nat.le_refl _) _
  have sz0 : w.heap.size < (w.alloc (.cells #[c.tv, c.lv] 25)).heap.size := by simp
  have H1 := Lib.hid ((h.keep own0.below (Nat.le_refl _)).more (Nat.le_of_lt sz0))
  clear h
  have k := rcheck_any c _ H1.out
  have K := Lib.hid k
  clear k
  have t0 : (w.alloc (.cells #[c.tv, c.lv] 25)).cell? ⟨w.heap.size, 0, none⟩ = some (.slice c.ta c.tabs.length c.tc) := by simp [go_sem, Cat.tv]
  have t1 : (w.alloc (.cells #[c.tv, c.lv] 25)).cell? ⟨w.heap.size, 1, none⟩ = some (.slice c.la c.lamps.length c.lc) := by simp [go_sem, Cat.lv]
  unfold Cat.tv Cat.lv at *
  have T0 := Lib.hid t0
  have T1 := Lib.hid t1
  clear t0 t1
  by_cases hz : chkE c = 0
  · have ew : IntKind.i64.wrap ((c.lamps.length : Int) - 1) = (c.lamps.length : Int) - 1 := IntWalk.i64_in _ (by omega)
    have b1 : (chkE c == 0) = true := by simpa using hz
    have HZ := Lib.hid hz
    cases hi : inB i 0 ((c.lamps.length : Int) - 1)
    · have HF : Hid (errOf c i c.lamps.length = 4) := by show errOf c i _ = 4; unfold errOf; rw [if_neg (fun hh => hh hz), if_pos hi]
      have HI := Lib.hid hi
      clear hi hz
      go_enter Try.func64, Try.ntmps64
      go_wp2_with fail
      refine K.out.mono ?_
      unfold chkV
      rintro e w1 ⟨rfl, hb1⟩
      have hb2 := own0.trans (hb1.mono (Nat.le_of_lt sz0))
      have r1 := (hb1.cell (p := ⟨w.heap.size, 1, none⟩) sz0).trans T1.out
      go_wp2_with fail
      refine (rin_is HI.out _).mono ?_
      rintro e w2 ⟨rfl, rfl⟩
      go_wp2_with fail
      go_ret
      exact ⟨by rw [HF.out]; rfl, hb2⟩
    · have HF : Hid (errOf c i c.lamps.length = chkE c) := by show errOf c i _ = _; unfold errOf; rw [if_neg (fun hh => hh hz), if_neg (by rw [hi]; decide), hz]
      have HI := Lib.hid hi
      clear hi hz
      go_enter Try.func64, Try.ntmps64
      go_wp2_with fail
      refine K.out.mono ?_
      unfold chkV
      rintro e w1 ⟨rfl, hb1⟩
      have hb2 := own0.trans (hb1.mono (Nat.le_of_lt sz0))
      have r1 := (hb1.cell (p := ⟨w.heap.size, 1, none⟩) sz0).trans T1.out
      go_wp2_with fail
      refine (rin_is HI.out _).mono ?_
      rintro e w2 ⟨rfl, rfl⟩
      go_wp2_with fail
      go_ret
      exact ⟨by rw [HF.out]; rfl, hb2⟩
  · have b1 : (chkE c == 0) = false := by simpa using hz
    have HF : Hid (errOf c i c.lamps.length = chkE c) := by show errOf c i _ = _; unfold errOf; rw [if_pos hz]
    clear hz
    go_enter Try.func64, Try.ntmps64
    go_wp2_with fail
    refine K.out.mono ?_
    unfold chkV
    rintro e w1 ⟨rfl, hb1⟩
    have hb2 := own0.trans (hb1.mono (Nat.le_of_lt sz0))
    go_wp2_with fail
    go_ret
    exact ⟨by rw [HF.out]; rfl, hb2⟩

set_option maxHeartbeats 1000000 in
theorem rtabled_any (c : Cat) (i : Int) (w : World) (h : CatIn w.heap.size c w) :
    Calls Try.prog 45 #[.agg #[c.tv, c.lv], .int .i64 i] w fun e w' => e = .returned (.int .i64 (errOf c i c.tabs.length)) ∧ Own w.heap.size w w' := by
  have hn := h.tabs.1
  unfold maxLen at hn
  have own0 : Own w.heap.size w (w.alloc (.cells #[c.tv, c.lv] 25)) := (Own.refl _ _).alloc (Nat.le_refl _) _
  have sz0 : w.heap.size < (w.alloc (.cells #[c.tv, c.lv] 25)).heap.size := by simp
  have H1 := Lib.hid ((h.keep own0.below (Nat.le_refl _)).more (Nat.le_of_lt sz0))
  clear h
  have k := rcheck_any c _ H1.out
  have K := Lib.hid k
  clear k
  have t0 : (w.alloc (.cells #[c.tv, c.lv] 25)).cell? ⟨w.heap.size, 0, none⟩ = some (.slice c.ta c.tabs.length c.tc) := by simp [go_sem, Cat.tv]
  have t1 : (w.alloc (.cells #[c.tv, c.lv] 25)).cell? ⟨w.heap.size, 1, none⟩ = some (.slice c.la c.lamps.length c.lc) := by simp [go_sem, Cat.lv]
  unfold Cat.tv Cat.lv at *
  have T0 := Lib.hid t0
  have T1 := Lib.hid t1
  clear t0 t1
  by_cases hz : chkE c = 0
  · have ew : IntKind.i64.wrap ((c.tabs.length : Int) - 1) = (c.tabs.length : Int) - 1 := IntWalk.i64_in _ (by omega)
    have b1 : (chkE c == 0) = true := by simpa using hz
    have HZ := Lib.hid hz
    cases hi : inB i 0 ((c.tabs.length : Int) - 1)
    · have HF : Hid (errOf c i c.tabs.length = 4) := by show errOf c i _ = 4; unfold errOf; rw [if_neg (fun hh => hh hz), if_pos hi]
      have HI := Lib.hid hi
      clear hi hz
      go_enter Try.func45, Try.ntmps45
      go_wp2_with fail
      refine K.out.mono ?_
      unfold chkV
      rintro e w1 ⟨rfl, hb1⟩
      have hb2 := own0.trans (hb1.mono (Nat.le_of_lt sz0))
      have r0 := (hb1.cell (p := ⟨w.heap.size, 0, none⟩) sz0).trans T0.out
      go_wp2_with fail
      refine (rin_is HI.out _).mono ?_
      rintro e w2 ⟨rfl, rfl⟩
      go_wp2_with fail
      go_ret
      exact ⟨by rw [HF.out]; rfl, hb2⟩
    · have HF : Hid (errOf c i c.tabs.length = chkE c) := by show errOf c i _ = _; unfold errOf; rw [if_neg (fun hh => hh hz), if_neg (by rw [hi]; decide), hz]
      have HI := Lib.hid hi
      clear hi hz
      go_enter Try.func45, Try.ntmps45
      go_wp2_with fail
      refine K.out.mono ?_
      unfold chkV
      rintro e w1 ⟨rfl, hb1⟩
      have hb2 := own0.trans (hb1.mono (Nat.le_of_lt sz0))
      have r0 := (hb1.cell (p := ⟨w.heap.size, 0, none⟩) sz0).trans T0.out
      go_wp2_with fail
      refine (rin_is HI.out _).mono ?_
      rintro e w2 ⟨rfl, rfl⟩
      go_wp2_with fail
      go_ret
      exact ⟨by rw [HF.out]; rfl, hb2⟩
  · have b1 : (chkE c == 0) = false := by simpa using hz
    have HF : Hid (errOf c i c.tabs.length = chkE c) := by show errOf c i _ = _; unfold errOf; rw [if_pos hz]
    clear hz
    go_enter Try.func45, Try.ntmps45
    go_wp2_with fail
    refine K.out.mono ?_
    unfold chkV
    rintro e w1 ⟨rfl, hb1⟩
    have hb2 := own0.trans (hb1.mono (Nat.le_of_lt sz0))
    go_wp2_with fail
    go_ret
    exact ⟨by rw [HF.out]; rfl, hb2⟩

end Go.Proofs.Ytgmpipciinphiaa
