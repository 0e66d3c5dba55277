/- Check of the reference; its errors of a catalogue with an index. -/
import Derived.Test.YtgmpipciinphiaaRlm
namespace Go.Proofs.Ytgmpipciinphiaa
set_option linter.unusedSimpArgs false
set_option linter.unusedVariables false
open Go.RowKit
attribute [local go_sem ↓] Go.wp_at_zero Go.wp_at_succ

set_option maxHeartbeats 2000000 in
theorem rcheck_any (c : Cat) (w : World) (h : CatIn w.heap.size c w) :
    Calls Try.prog 17 #[.agg #[c.tv, c.lv]] w fun e w' => e = .returned (chkV c) ∧ Own w.heap.size w w' := by
  have hmt := h.tabs.1
  have hml := h.lamps.1
  unfold maxLen at hmt hml
  have H := Lib.hid h
  clear h
  by_cases hl1 : c.tabs.length > 10
  · have HF := Lib.hid (chk_long (c := c) (.inl hl1))
    have hl1' : (10 : Int) < (c.tabs.length : Int) := by omega
    unfold Cat.tv Cat.lv
    go_enter Try.func17, Try.ntmps17
    go_wp2_with fail
    go_ret3
    exact ⟨by rw [HF.out]; rfl, (Own.refl _ _).alloc (Nat.le_refl _) _⟩
  · by_cases hl2 : c.lamps.length > 20
    · have HF := Lib.hid (chk_long (c := c) (.inr hl2))
      unfold Cat.tv Cat.lv
      go_enter Try.func17, Try.ntmps17
      go_wp2_with fail
      go_ret3
      exact ⟨by rw [HF.out]; rfl, (Own.refl _ _).alloc (Nat.le_refl _) _⟩
    · have HN := Lib.hid (show ¬ (c.tabs.length > 10 ∨ c.lamps.length > 20) from fun hh => hh.elim hl1 hl2)
      have own0 : Own w.heap.size w (w.alloc (.cells #[c.tv, c.lv] 25)) := (Own.refl _ _).alloc (Nat.le_refl _) _
      have sz0 : w.heap.size < (w.alloc (.cells #[c.tv, c.lv] 25)).heap.size := by simp
      have b0 : (w.alloc (.cells #[c.tv, c.lv] 25)).cell? ⟨w.heap.size, 0, none⟩ = some (.slice c.ta c.tabs.length c.tc) := by simp [go_sem, Cat.tv]
      have b1 : (w.alloc (.cells #[c.tv, c.lv] 25)).cell? ⟨w.heap.size, 1, none⟩ = some (.slice c.la c.lamps.length c.lc) := by simp [go_sem, Cat.lv]
      have B0 := Lib.hid b0
      have B1 := Lib.hid b1
      have H1 := Lib.hid ((H.out.keep own0.below (Nat.le_refl _)).more (Nat.le_of_lt sz0))
      clear b0 b1
      unfold Cat.tv Cat.lv at *
      go_enter Try.func17, Try.ntmps17
      go_wp2_with fail
      generalize w.alloc (.cells #[.slice c.ta c.tabs.length c.tc, .slice c.la c.lamps.length c.lc] 25) = W0 at *
      go_loopg [5] c.tabs.length (fun n i' wr => ∃ i : Nat, i ≤ c.tabs.length ∧ n = c.tabs.length - i ∧ i' = .int .i64 i ∧ Hid (tabsE c = firstErr (tabErr c.tabs) i (c.tabs.length - i)) ∧ Own W0.heap.size W0 wr)
      case atStart => exact ⟨0, by omega, by omega, rfl, rfl, Own.refl _ _⟩
      case round =>
        obtain ⟨i, hi, hn0, rfl, ha, hb⟩ := hrel
        have HNN := Lib.hid hn0
        clear hn0
        have hsz := hb.size
        have r0 : wr.cell? ⟨w.heap.size, 0, none⟩ = some (.slice c.ta c.tabs.length c.tc) := by rw [hb.cell (p := ⟨w.heap.size, 0, none⟩) sz0]; exact B0.out
        have r1 : wr.cell? ⟨w.heap.size, 1, none⟩ = some (.slice c.la c.lamps.length c.lc) := by rw [hb.cell (p := ⟨w.heap.size, 1, none⟩) sz0]; exact B1.out
        have H2 := Lib.hid ((H1.out.keep hb.below (Nat.le_refl _)).more hsz)
        by_cases hlt : i < c.tabs.length
        · have he : c.tabs.length - i = (c.tabs.length - (i + 1)) + 1 := by omega
          by_cases hz : tabErr c.tabs i = 0
          · have ha' : Hid (tabsE c = firstErr (tabErr c.tabs) (i + 1) (c.tabs.length - (i + 1))) := ha.out.trans (by rw [he, firstErr_no hz])
            have HZ := Lib.hid hz
            clear hz he
            go_wp2_with fail
            refine (rtable_any c i _ H2.out hlt).mono ?_
            rintro e w1 ⟨rfl, hb1⟩
            rw [HZ.out]
            have hb2 := hb.trans (hb1.mono hsz)
            go_wp2_with fail
            go_roundg (c.tabs.length - (i + 1))
            case measure => have := HNN.out; omega
            case rel => exact ⟨i + 1, by omega, rfl, by go_num, ha', hb2⟩
          · have HF := Lib.hid (chk_tab HN.out (ha.out.trans (by rw [he, firstErr_at hz])) hz)
            have hb3 : (tabErr c.tabs i != 0) = true := by simpa using hz
            clear hz he
            go_wp2_with fail
            refine (rtable_any c i _ H2.out hlt).mono ?_
            rintro e w1 ⟨rfl, hb1⟩
            have hb2 := own0.trans ((hb.trans (hb1.mono hsz)).mono (Nat.le_of_lt sz0))
            go_wp2_with fail
            go_ret3
            exact ⟨by rw [HF.out]; rfl, hb2⟩
        · obtain rfl : i = c.tabs.length := by omega
          have HT : Hid ((tabsE c).2 = 0) := by show (tabsE c).2 = 0; rw [ha.out, Nat.sub_self]; rfl
          clear ha HNN
          go_wp2_with fail
          obtain ⟨wo, rfl⟩ : ∃ wo : World, wo = wr := ⟨_, rfl⟩
          clear r0 r1
          go_loopg [7] c.lamps.length (fun n i' wr => ∃ i : Nat, i ≤ c.lamps.length ∧ n = c.lamps.length - i ∧ i' = .int .i64 i ∧ Hid (lmpsE c = firstErr (lmpErr c.tabs.length c.lamps) i (c.lamps.length - i)) ∧ Own W0.heap.size W0 wr)
          case atStart => exact ⟨0, by omega, by omega, rfl, rfl, hb⟩
          case round =>
            clear hb H2 hsz
            obtain ⟨i, hi, hn0, rfl, ha, hb⟩ := hrel
            have HNN := Lib.hid hn0
            clear hn0
            have hsz := hb.size
            have r0 : wr.cell? ⟨w.heap.size, 0, none⟩ = some (.slice c.ta c.tabs.length c.tc) := by rw [hb.cell (p := ⟨w.heap.size, 0, none⟩) sz0]; exact B0.out
            have r1 : wr.cell? ⟨w.heap.size, 1, none⟩ = some (.slice c.la c.lamps.length c.lc) := by rw [hb.cell (p := ⟨w.heap.size, 1, none⟩) sz0]; exact B1.out
            have H2 := Lib.hid ((H1.out.keep hb.below (Nat.le_refl _)).more hsz)
            by_cases hlt : i < c.lamps.length
            · have he : c.lamps.length - i = (c.lamps.length - (i + 1)) + 1 := by omega
              by_cases hz : lmpErr c.tabs.length c.lamps i = 0
              · have ha' : Hid (lmpsE c = firstErr (lmpErr c.tabs.length c.lamps) (i + 1) (c.lamps.length - (i + 1))) := ha.out.trans (by rw [he, firstErr_no hz])
                have HZ := Lib.hid hz
                clear hz he
                go_wp2_with fail
                refine (rlamp_any c i _ H2.out hlt).mono ?_
                rintro e w1 ⟨rfl, hb1⟩
                rw [HZ.out]
                have hb2 := hb.trans (hb1.mono hsz)
                go_wp2_with fail
                go_roundg (c.lamps.length - (i + 1))
                case measure => have := HNN.out; omega
                case rel => exact ⟨i + 1, by omega, rfl, by go_num, ha', hb2⟩
              · have HF := Lib.hid (chk_lmp HN.out HT.out (ha.out.trans (by rw [he, firstErr_at hz])) hz)
                have hb3 : (lmpErr c.tabs.length c.lamps i != 0) = true := by simpa using hz
                clear hz he
                go_wp2_with fail
                refine (rlamp_any c i _ H2.out hlt).mono ?_
                rintro e w1 ⟨rfl, hb1⟩
                have hb2 := own0.trans ((hb.trans (hb1.mono hsz)).mono (Nat.le_of_lt sz0))
                go_wp2_with fail
                go_ret3
                exact ⟨by rw [HF.out]; rfl, hb2⟩
            · obtain rfl : i = c.lamps.length := by omega
              have HF := Lib.hid (chk_ok HN.out HT.out (by rw [ha.out, Nat.sub_self]; rfl))
              clear ha HNN
              have hb2 := own0.trans (hb.mono (Nat.le_of_lt sz0))
              go_wp2_with fail
              go_ret3
              exact ⟨by rw [HF.out]; rfl, hb2⟩

end Go.Proofs.Ytgmpipciinphiaa
