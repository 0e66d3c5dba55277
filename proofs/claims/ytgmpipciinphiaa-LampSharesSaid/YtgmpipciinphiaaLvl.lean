/- Level of the code. -/
import Derived.Test.YtgmpipciinphiaaFac
import Derived.Test.YtgmpipciinphiaaMnx
namespace Go.Proofs.Ytgmpipciinphiaa
set_option linter.unusedSimpArgs false
set_option linter.unusedVariables false
open Go.RowKit
attribute [local go_sem ↓] Go.wp_at_zero Go.wp_at_succ

/-- the level of a lamp, when one is asked for -/
def lvl (c : Cat) (n want : Int) : Int := if want ≤ 0 then 0 else min (max want (lmpAt c.lamps n.toNat).dim) 1000
def lvlN (c : Cat) (n want : Int) : Int := if errOf c n c.lamps.length ≠ 0 then 0 else lvl c n want

theorem lmpAt_cells {B : Nat} {c : Cat} {w : World} (h : CatIn B c w) {n : Nat} (hn : n < c.lamps.length) : ∃ b o, c.la = some ⟨b, o, none⟩ ∧ b < B ∧ LmpIn B b (o + n * 14) (lmpAt c.lamps n) w := by
  obtain ⟨b, o, ha, hb, hc⟩ := h.lamps.2 (by omega)
  exact ⟨b, o, ha, hb, hc n hn⟩

set_option maxHeartbeats 1000000 in
theorem level_any (c : Cat) (n want : Int) (w : World) (h : CatIn w.heap.size c w) :
    Calls Try.prog 31 #[.agg #[c.tv, c.lv], .int .i64 n, .int .i64 want] w fun e w' => e = .returned (intE (lvlN c n want) (errOf c n c.lamps.length)) ∧ Own w.heap.size w w' := by
  have own0 : Own w.heap.size w (w.alloc (.cells #[c.tv, c.lv] 25)) := (Own.refl _ _).alloc (Nat.le_refl _) _
  have sz0 : w.heap.size < (w.alloc (.cells #[c.tv, c.lv] 25)).heap.size := by simp
  have b1 : (w.alloc (.cells #[c.tv, c.lv] 25)).cell? ⟨w.heap.size, 1, none⟩ = some (.slice c.la c.lamps.length c.lc) := by simp [go_sem, Cat.lv]
  have B1 := Lib.hid b1
  clear b1
  have hml := h.lamps.1
  have H1 := Lib.hid ((h.keep own0.below (Nat.le_refl _)).more (Nat.le_of_lt sz0))
  clear h
  have k := errorOf_any c n c.lamps.length _ H1.out hml
  have K := Lib.hid k
  clear k
  unfold maxLen at hml
  unfold Cat.tv Cat.lv at *
  by_cases hz : errOf c n c.lamps.length = 0
  · obtain ⟨ok, hn0, hn1⟩ := errOf_ok hz
    have HE := Lib.hid hz
    obtain ⟨m, rfl⟩ := Int.eq_ofNat_of_zero_le hn0
    have hm : m < c.lamps.length := by omega
    have HN : Hid (lvlN c m want = lvl c m want) := by show lvlN c m want = _; unfold lvlN; rw [if_neg (fun hh => hh hz)]
    clear hz
    by_cases hw : want ≤ 0
    · have HF : Hid (lvlN c m want = 0) := HN.out.trans (if_pos hw)
      go_enter Try.func31, Try.ntmps31
      go_wp2_with fail
      refine K.out.mono ?_
      rintro e w1 ⟨rfl, hb1⟩
      have hb2 := own0.trans (hb1.mono (Nat.le_of_lt sz0))
      rw [HE.out]
      go_wp2_with fail
      go_ret2
      exact ⟨by rw [HF.out]; first | rfl | (rw [HE.out]; rfl), hb2⟩
    · have HF : Hid (lvlN c m want = min (max want (lmpAt c.lamps m).dim) 1000) := HN.out.trans (if_neg hw)
      go_enter Try.func31, Try.ntmps31
      go_wp2_with fail
      refine K.out.mono ?_
      rintro e w1 ⟨rfl, hb1⟩
      have hb2 := own0.trans (hb1.mono (Nat.le_of_lt sz0))
      obtain ⟨b, o, ha, hb, hl⟩ := lmpAt_cells (H1.out.keep hb1.below (Nat.le_refl _)) hm
      have r1 : w1.cell? ⟨w.heap.size, 1, none⟩ = some (.slice c.la c.lamps.length c.lc) := by rw [hb1.cell (p := ⟨w.heap.size, 1, none⟩) sz0]; exact B1.out
      rw [ha] at r1
      have c12 := hl.c12
      clear hl ha
      rw [HE.out]
      go_wp2_with fail
      go_ret2
      exact ⟨by rw [HF.out]; first | rfl | (rw [HE.out]; rfl), hb2⟩
  · have HF : Hid (lvlN c n want = 0) := by show lvlN c n want = 0; unfold lvlN; rw [if_pos hz]
    have b2 : (errOf c n c.lamps.length != 0) = true := by simpa using hz
    clear hz
    go_enter Try.func31, Try.ntmps31
    go_wp2_with fail
    refine K.out.mono ?_
    rintro e w1 ⟨rfl, hb1⟩
    have hb2 := own0.trans (hb1.mono (Nat.le_of_lt sz0))
    go_wp2_with fail
    go_ret2
    exact ⟨by rw [HF.out]; first | rfl | (rw [HE.out]; rfl), hb2⟩
end Go.Proofs.Ytgmpipciinphiaa
