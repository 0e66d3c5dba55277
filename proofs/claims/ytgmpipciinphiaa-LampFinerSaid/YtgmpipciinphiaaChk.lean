/- Check of the code. -/
import Derived.Test.YtgmpipciinphiaaLer
namespace Go.Proofs.Ytgmpipciinphiaa
set_option linter.unusedSimpArgs false
set_option linter.unusedVariables false
open Go.RowKit
attribute [local go_sem ↓] Go.wp_at_zero Go.wp_at_succ

/-- the first index with an error, and the error; (n, 0): there is none -/
def firstErr (f : Nat → Int) : Nat → Nat → Nat × Int
  | i, 0 => (i, 0)
  | i, n + 1 => if f i = 0 then firstErr f (i + 1) n else (i, f i)
theorem firstErr_no {f : Nat → Int} {i n : Nat} (h : f i = 0) : firstErr f i (n + 1) = firstErr f (i + 1) n := by simp [firstErr, h]
theorem firstErr_at {f : Nat → Int} {i n : Nat} (h : f i ≠ 0) : firstErr f i (n + 1) = (i, f i) := by simp [firstErr, h]

def tabsE (c : Cat) : Nat × Int := firstErr (tabErr c.tabs) 0 c.tabs.length
def lmpsE (c : Cat) : Nat × Int := firstErr (lmpErr c.tabs.length c.lamps) 0 c.lamps.length
def chkP (c : Cat) : Int := if c.tabs.length > 10 ∨ c.lamps.length > 20 then 0 else if (tabsE c).2 ≠ 0 then 1 else if (lmpsE c).2 ≠ 0 then 2 else 0
def chkA (c : Cat) : Int := if c.tabs.length > 10 ∨ c.lamps.length > 20 then 0 else if (tabsE c).2 ≠ 0 then (tabsE c).1 else if (lmpsE c).2 ≠ 0 then (lmpsE c).1 else 0
def chkE (c : Cat) : Int := if c.tabs.length > 10 ∨ c.lamps.length > 20 then 3 else if (tabsE c).2 ≠ 0 then (tabsE c).2 else if (lmpsE c).2 ≠ 0 then (lmpsE c).2 else 0
def chkV (c : Cat) : Value := .tuple #[.int .i64 (chkP c), .int .i64 (chkA c), .int .i64 (chkE c)]

theorem chk_long {c : Cat} (h : c.tabs.length > 10 ∨ c.lamps.length > 20) : chkV c = .tuple #[.int .i64 0, .int .i64 0, .int .i64 3] := by
  unfold chkV chkP chkA chkE; rw [if_pos h, if_pos h, if_pos h]
theorem chk_tab {c : Cat} (h : ¬ (c.tabs.length > 10 ∨ c.lamps.length > 20)) {i : Nat} {e : Int} (ht : tabsE c = (i, e)) (he : e ≠ 0) : chkV c = .tuple #[.int .i64 1, .int .i64 i, .int .i64 e] := by
  unfold chkV chkP chkA chkE; rw [if_neg h, if_neg h, if_neg h, ht]; simp [he]
theorem chk_lmp {c : Cat} (h : ¬ (c.tabs.length > 10 ∨ c.lamps.length > 20)) (ht : (tabsE c).2 = 0) {i : Nat} {e : Int} (hl : lmpsE c = (i, e)) (he : e ≠ 0) : chkV c = .tuple #[.int .i64 2, .int .i64 i, .int .i64 e] := by
  unfold chkV chkP chkA chkE; rw [if_neg h, if_neg h, if_neg h, hl]; simp [he, ht]
theorem chk_ok {c : Cat} (h : ¬ (c.tabs.length > 10 ∨ c.lamps.length > 20)) (ht : (tabsE c).2 = 0) (hl : (lmpsE c).2 = 0) : chkV c = .tuple #[.int .i64 0, .int .i64 0, .int .i64 0] := by
  unfold chkV chkP chkA chkE; rw [if_neg h, if_neg h, if_neg h]; simp [hl, ht]

set_option maxHeartbeats 2000000 in
theorem check_any (c : Cat) (w : World) (h : CatIn w.heap.size c w) :
    Calls Try.prog 16 #[.agg #[c.tv, c.lv]] w fun e w' => e = .returned (chkV c) ∧ Own w.heap.size w w' := by
  have hmt := h.tabs.1
  have hml := h.lamps.1
  unfold maxLen at hmt hml
  have H := Lib.hid h
  clear h
  by_cases hl1 : c.tabs.length > 10
  · have HF := Lib.hid (chk_long (c := c) (.inl hl1))
    have hl1' : (10 : Int) < (c.tabs.length : Int) := by omega
    unfold Cat.tv Cat.lv
    go_enter Try.func16, Try.ntmps16
    go_wp2_with fail
    go_ret3
    exact ⟨by rw [HF.out]; rfl, (Own.refl _ _).alloc (Nat.le_refl _) _⟩
  · by_cases hl2 : c.lamps.length > 20
    · have HF := Lib.hid (chk_long (c := c) (.inr hl2))
      unfold Cat.tv Cat.lv
      go_enter Try.func16, Try.ntmps16
      go_wp2_with fail
      go_ret3
      exact ⟨by rw [HF.out]; rfl, (Own.refl _ _).alloc (Nat.le_refl _) _⟩
    · have HN := Lib.hid (show ¬ (c.tabs.length > 10 ∨ c.lamps.length > 20) from fun hh => hh.elim hl1 hl2)
      have own0 : Own w.heap.size w (w.alloc (.cells #[c.tv, c.lv] 25)) := (Own.refl _ _).alloc (Nat.le_refl _) _
      have sz0 : w.heap.size < (w.alloc (.cells #[c.tv, c.lv] 25)).heap.size := by simp
      have b0 : (w.alloc (.cells #[c.tv, c.lv] 25)).cell? ⟨w.heap.size, 0, none⟩ = some (.slice c.ta c.tabs.length c.tc) := by simp [go_sem, Cat.tv]
      have b1 : (w.alloc (.cells #[c.tv, c.lv] 25)).cell? ⟨w.heap.size, 1, none⟩ = some (.slice c.la c.lamps.length c.lc) := by simp [go_sem, Cat.lv]
      have B0 := Lib.hid b0
      have B1 := Lib.hid b1
      have H1 := Lib.hid ((H.out.keep own0.below (Nat.le_refl _)).more (Nat.le_of_lt sz0))
      clear b0 b1
      unfold Cat.tv Cat.lv at *
      go_enter Try.func16, Try.ntmps16
      go_wp2_with fail
      generalize w.alloc (.cells #[.slice c.ta c.tabs.length c.tc, .slice c.la c.lamps.length c.lc] 25) = W0 at *
      go_loopg [22] c.tabs.length (fun n i' wr => ∃ i : Nat, i ≤ c.tabs.length ∧ n = c.tabs.length - i ∧ i' = .int .i64 i ∧ Hid (tabsE c = firstErr (tabErr c.tabs) i (c.tabs.length - i)) ∧ Own W0.heap.size W0 wr)
      case atStart => exact ⟨0, by omega, by omega, rfl, rfl, Own.refl _ _⟩
      case round =>
        obtain ⟨i, hi, hn0, rfl, ha, hb⟩ := hrel
        have HNN := Lib.hid hn0
        clear hn0
        have hsz := hb.size
        have r0 : wr.cell? ⟨w.heap.size, 0, none⟩ = some (.slice c.ta c.tabs.length c.tc) := by rw [hb.cell (p := ⟨w.heap.size, 0, none⟩) sz0]; exact B0.out
        have r1 : wr.cell? ⟨w.heap.size, 1, none⟩ = some (.slice c.la c.lamps.length c.lc) := by rw [hb.cell (p := ⟨w.heap.size, 1, none⟩) sz0]; exact B1.out
        have H2 := Lib.hid ((H1.out.keep hb.below (Nat.le_refl _)).more hsz)
        by_cases hlt : i < c.tabs.length
        · have he : c.tabs.length - i = (c.tabs.length - (i + 1)) + 1 := by omega
          by_cases hz : tabErr c.tabs i = 0
          · have ha' : Hid (tabsE c = firstErr (tabErr c.tabs) (i + 1) (c.tabs.length - (i + 1))) := ha.out.trans (by rw [he, firstErr_no hz])
            have HZ := Lib.hid hz
            clear hz he
            go_wp2_with fail
            refine (tableError_any c i _ H2.out hlt).mono ?_
            rintro e w1 ⟨rfl, hb1⟩
            rw [HZ.out]
            have hb2 := hb.trans (hb1.mono hsz)
            go_wp2_with fail
            go_roundg (c.tabs.length - (i + 1))
            case measure => have := HNN.out; omega
            case rel => exact ⟨i + 1, by omega, rfl, by go_num, ha', hb2⟩
          · have HF := Lib.hid (chk_tab HN.out (ha.out.trans (by rw [he, firstErr_at hz])) hz)
            have hb3 : (tabErr c.tabs i != 0) = true := by simpa using hz
            clear hz he
            go_wp2_with fail
            refine (tableError_any c i _ H2.out hlt).mono ?_
            rintro e w1 ⟨rfl, hb1⟩
            have hb2 := own0.trans ((hb.trans (hb1.mono hsz)).mono (Nat.le_of_lt sz0))
            go_wp2_with fail
            go_ret3
            exact ⟨by rw [HF.out]; rfl, hb2⟩
        · obtain rfl : i = c.tabs.length := by omega
          have HT : Hid ((tabsE c).2 = 0) := by show (tabsE c).2 = 0; rw [ha.out, Nat.sub_self]; rfl
          clear ha HNN
          go_wp2_with fail
          obtain ⟨wo, rfl⟩ : ∃ wo : World, wo = wr := ⟨_, rfl⟩
          clear r0 r1
          go_loopg [36] c.lamps.length (fun n i' wr => ∃ i : Nat, i ≤ c.lamps.length ∧ n = c.lamps.length - i ∧ i' = .int .i64 i ∧ Hid (lmpsE c = firstErr (lmpErr c.tabs.length c.lamps) i (c.lamps.length - i)) ∧ Own W0.heap.size W0 wr)
          case atStart => exact ⟨0, by omega, by omega, rfl, rfl, hb⟩
          case round =>
            clear hb H2 hsz
            obtain ⟨i, hi, hn0, rfl, ha, hb⟩ := hrel
            have HNN := Lib.hid hn0
            clear hn0
            have hsz := hb.size
            have r0 : wr.cell? ⟨w.heap.size, 0, none⟩ = some (.slice c.ta c.tabs.length c.tc) := by rw [hb.cell (p := ⟨w.heap.size, 0, none⟩) sz0]; exact B0.out
            have r1 : wr.cell? ⟨w.heap.size, 1, none⟩ = some (.slice c.la c.lamps.length c.lc) := by rw [hb.cell (p := ⟨w.heap.size, 1, none⟩) sz0]; exact B1.out
            have H2 := Lib.hid ((H1.out.keep hb.below (Nat.le_refl _)).more hsz)
            by_cases hlt : i < c.lamps.length
            · have he : c.lamps.length - i = (c.lamps.length - (i + 1)) + 1 := by omega
              by_cases hz : lmpErr c.tabs.length c.lamps i = 0
              · have ha' : Hid (lmpsE c = firstErr (lmpErr c.tabs.length c.lamps) (i + 1) (c.lamps.length - (i + 1))) := ha.out.trans (by rw [he, firstErr_no hz])
                have HZ := Lib.hid hz
                clear hz he
                go_wp2_with fail
                refine (lampError_any c i _ H2.out hlt).mono ?_
                rintro e w1 ⟨rfl, hb1⟩
                rw [HZ.out]
                have hb2 := hb.trans (hb1.mono hsz)
                go_wp2_with fail
                go_roundg (c.lamps.length - (i + 1))
                case measure => have := HNN.out; omega
                case rel => exact ⟨i + 1, by omega, rfl, by go_num, ha', hb2⟩
              · have HF := Lib.hid (chk_lmp HN.out HT.out (ha.out.trans (by rw [he, firstErr_at hz])) hz)
                have hb3 : (lmpErr c.tabs.length c.lamps i != 0) = true := by simpa using hz
                clear hz he
                go_wp2_with fail
                refine (lampError_any c i _ H2.out hlt).mono ?_
                rintro e w1 ⟨rfl, hb1⟩
                have hb2 := own0.trans ((hb.trans (hb1.mono hsz)).mono (Nat.le_of_lt sz0))
                go_wp2_with fail
                go_ret3
                exact ⟨by rw [HF.out]; rfl, hb2⟩
            · obtain rfl : i = c.lamps.length := by omega
              have HF := Lib.hid (chk_ok HN.out HT.out (by rw [ha.out, Nat.sub_self]; rfl))
              clear ha HNN
              have hb2 := own0.trans (hb.mono (Nat.le_of_lt sz0))
              go_wp2_with fail
              go_ret3
              exact ⟨by rw [HF.out]; rfl, hb2⟩

/-- the error of a catalogue, or of an index -/
def errOf (c : Cat) (i n : Int) : Int := if chkE c ≠ 0 then chkE c else if inB i 0 (n - 1) = false then 4 else 0

set_option maxHeartbeats 1000000 in
theorem errorOf_any (c : Cat) (i : Int) (n : Nat) (w : World) (h : CatIn w.heap.size c w) (hn : n ≤ maxLen) :
    Calls Try.prog 49 #[.agg #[c.tv, c.lv], .int .i64 i, .int .i64 n] w fun e w' => e = .returned (.int .i64 (errOf c i n)) ∧ Own w.heap.size w w' := by
  unfold maxLen at hn
  have own0 : Own w.heap.size w (w.alloc (.cells #[c.tv, c.lv] 25)) := (Own.refl _ _).alloc (Nat.le_refl _) _
  have sz0 : w.heap.size < (w.alloc (.cells #[c.tv, c.lv] 25)).heap.size := by simp
  have H1 := Lib.hid ((h.keep own0.below (Nat.le_refl _)).more (Nat.le_of_lt sz0))
  clear h
  have k := check_any c _ H1.out
  have K := Lib.hid k
  clear k
  unfold Cat.tv Cat.lv at *
  by_cases hz : chkE c = 0
  · have ew : IntKind.i64.wrap ((n : Int) - 1) = (n : Int) - 1 := IntWalk.i64_in _ (by omega)
    have b1 : (chkE c != 0) = false := by simpa using hz
    cases hi : inB i 0 ((n : Int) - 1)
    · have HF : Hid (errOf c i n = 4) := by show errOf c i n = 4; unfold errOf; rw [if_neg (fun hh => hh hz), if_pos hi]
      have HI := Lib.hid hi
      clear hi hz
      go_enter Try.func49, Try.ntmps49
      go_wp2_with fail
      refine K.out.mono ?_
      unfold chkV
      rintro e w1 ⟨rfl, hb1⟩
      have hb2 := own0.trans (hb1.mono (Nat.le_of_lt sz0))
      go_wp2_with fail
      refine (isIndex_is HI.out (by omega) _).mono ?_
      rintro e w2 ⟨rfl, rfl⟩
      go_wp2_with fail
      go_ret
      exact ⟨by rw [HF.out]; rfl, hb2⟩
    · have HF : Hid (errOf c i n = 0) := by show errOf c i n = 0; unfold errOf; rw [if_neg (fun hh => hh hz), if_neg (by rw [hi]; decide)]
      have HI := Lib.hid hi
      clear hi hz
      go_enter Try.func49, Try.ntmps49
      go_wp2_with fail
      refine K.out.mono ?_
      unfold chkV
      rintro e w1 ⟨rfl, hb1⟩
      have hb2 := own0.trans (hb1.mono (Nat.le_of_lt sz0))
      go_wp2_with fail
      refine (isIndex_is HI.out (by omega) _).mono ?_
      rintro e w2 ⟨rfl, rfl⟩
      go_wp2_with fail
      go_ret
      exact ⟨by rw [HF.out]; rfl, hb2⟩
  · have b1 : (chkE c != 0) = true := by simpa using hz
    have HF : Hid (errOf c i n = chkE c) := by show errOf c i n = _; unfold errOf; rw [if_pos hz]
    clear hz
    go_enter Try.func49, Try.ntmps49
    go_wp2_with fail
    refine K.out.mono ?_
    unfold chkV
    rintro e w1 ⟨rfl, hb1⟩
    have hb2 := own0.trans (hb1.mono (Nat.le_of_lt sz0))
    go_wp2_with fail
    go_ret
    exact ⟨by rw [HF.out]; rfl, hb2⟩
end Go.Proofs.Ytgmpipciinphiaa
