/- The first error of a lamp. -/
import Derived.Test.YtgmpipciinphiaaAir
import Derived.Test.YtgmpipciinphiaaTer
import Derived.RegionTactic
import Derived.Deep.RegionHeld3
namespace Go.Proofs.Ytgmpipciinphiaa
set_option linter.unusedSimpArgs false
set_option linter.unusedVariables false
open Go.RowKit
attribute [local go_sem ↓] Go.wp_at_zero Go.wp_at_succ

def lmpErr (nt : Nat) (ls : List Lmp) (i : Nat) : Int :=
  if nameB (lmpAt ls i).name = false then 6
  else if lmpIdx ls (lmpAt ls i).name < i then 5
  else if inB (lmpAt ls i).table 0 ((nt : Int) - 1) = false then 4
  else if inB (lmpAt ls i).kind 1 3 = false then 2
  else if lampR (lmpAt ls i) = false then 7
  else if (lmpAt ls i).kind = 1 ∧ (lmpAt ls i).rest ≠ 0 then 2
  else 0

set_option maxHeartbeats 2000000 in
theorem lampError_any (c : Cat) (i : Nat) (w : World) (h : CatIn w.heap.size c w) (hi : i < c.lamps.length) :
    Calls Try.prog 40 #[.agg #[c.tv, c.lv], .int .i64 i] w fun e w' => e = .returned (.int .i64 (lmpErr c.tabs.length c.lamps i)) ∧ Own w.heap.size w w' := by
  obtain ⟨ta, tc, ts, la, lc, ls⟩ := c
  obtain ⟨ht, hl⟩ := h
  dsimp only at ht hl hi ⊢
  have hmt := ht.1
  unfold maxLen at hmt
  clear ht
  have HT := Lib.hid hl
  have hm := hl.1
  unfold maxLen at hm
  obtain ⟨b, o, rfl, hb, hc⟩ := hl.2 (by omega)
  have ti := hc i hi
  clear hc hl
  unfold Cat.tv Cat.lv
  dsimp only
  have bw : Below w.heap.size w (w.alloc (.cells #[.slice ta ts.length tc, .slice (some ⟨b, o, none⟩) ls.length lc] 25)) := (Below.refl _ w).alloc (Nat.le_refl _) _
  have ti1 := ti.keep bw (Nat.le_refl _)
  have d0 := ti.size
  have c0 := ti.c0
  clear ti
  cases hn : nameB (lmpAt ls i).name
  · have HF : Hid (lmpErr ts.length ls i = 6) := by show lmpErr _ ls i = 6; unfold lmpErr; rw [if_pos hn]
    have HN := Lib.hid hn
    clear hn ti1 bw
    go_enter Try.func40, Try.ntmps40
    go_wp2_with fail
    refine (name_any _ _ d0).mono ?_
    rintro e w1 ⟨rfl, rfl⟩
    rw [HN.out]
    go_wp2_with fail
    go_ret
    exact ⟨by rw [HF.out]; rfl, (Own.refl _ _).alloc (Nat.le_refl _) _⟩
  · have HN := Lib.hid hn
    clear hn
    have TI1 := Lib.hid ti1
    clear ti1 bw
    go_enter Try.func40, Try.ntmps40
    go_wp2_with fail
    refine (name_any _ _ d0).mono ?_
    rintro e w1 ⟨rfl, rfl⟩
    rw [HN.out]
    go_wp2_with fail
    have own0 : Own w.heap.size w (w.alloc (.cells #[.slice ta ts.length tc, .slice (some ⟨b, o, none⟩) ls.length lc] 25)) := (Own.refl _ _).alloc (Nat.le_refl _) _
    have sz0 : w.heap.size < (w.alloc (.cells #[.slice ta ts.length tc, .slice (some ⟨b, o, none⟩) ls.length lc] 25)).heap.size := by simp
    have cb : (w.alloc (.cells #[.slice ta ts.length tc, .slice (some ⟨b, o, none⟩) ls.length lc] 25)).cell? ⟨w.heap.size, 1, none⟩ = some (.slice (some ⟨b, o, none⟩) ls.length lc) := by simp [go_sem]
    have ca : (w.alloc (.cells #[.slice ta ts.length tc, .slice (some ⟨b, o, none⟩) ls.length lc] 25)).cell? ⟨w.heap.size, 0, none⟩ = some (.slice ta ts.length tc) := by simp [go_sem]
    have HT1 := Lib.hid ((HT.out.keep own0.below (Nat.le_refl _)).more (Nat.le_of_lt sz0))
    have cn := TI1.out.c0
    generalize w.alloc (.cells #[.slice ta ts.length tc, .slice (some ⟨b, o, none⟩) ls.length lc] 25) = W0 at *
    have hS : W0.cell? ⟨w.heap.size, 1, none⟩ = some (.slice (some ⟨b, o, none⟩) ls.length lc) ∧ W0.cell? ⟨b, o + i * 14, none⟩ = some (.string (lmpAt ls i).name) ∧ Own W0.heap.size W0 W0 := ⟨cb, cn, Own.refl _ _⟩
    have lt1 : b < W0.heap.size := by omega
    clear c0 d0 cb cn
    have CA := Lib.hid ca
    clear ca
    go_region_held3 (fun w' => w'.cell? ⟨w.heap.size, 1, none⟩ = some (.slice (some ⟨b, o, none⟩) ls.length lc) ∧ w'.cell? ⟨b, o + i * 14, none⟩ = some (.string (lmpAt ls i).name) ∧ Own W0.heap.size W0 w') (first | exact Kt.drew hS | exact Kt.drew (by assumption) | exact Kt.call (by assumption) sz0 lt1 hb1 | assumption)
      (first | (go_at_call 72; (with_reducible refine (lampOf_any _ _ ls _ _ ?_).mono ?_); exact HT1.out.keep (Below.refl _ _).drew (Nat.le_refl _); rintro e w1 ⟨rfl, hb1⟩))
    have hk : w1.cell? ⟨w.heap.size, 1, none⟩ = some (.slice (some ⟨b, o, none⟩) ls.length lc) ∧ w1.cell? ⟨b, o + i * 14, none⟩ = some (.string (lmpAt ls i).name) ∧ Own W0.heap.size W0 w1 := by assumption
    have ow1 : Own w.heap.size w w1 := own0.trans (hk.2.2.mono (Nat.le_of_lt sz0))
    have lt2 : w.heap.size ≤ w1.heap.size := ow1.size
    have ca1 : w1.cell? ⟨w.heap.size, 0, none⟩ = some (.slice ta ts.length tc) := by rw [hk.2.2.cell (p := ⟨w.heap.size, 0, none⟩) sz0]; exact CA.out
    have ti2 := (TI1.out.keep hk.2.2.below (Nat.le_of_lt sz0)).more (B' := w1.heap.size) lt2
    have TI2 := Lib.hid ti2
    clear hk hb1 hS own0 sz0 lt1 HT1 TI1
    have c1 := ti2.c1
    have c2 := ti2.c2
    have c13 := ti2.c13
    clear ti2
    by_cases hidx : lmpIdx ls (lmpAt ls i).name < i
    · have HF : Hid (lmpErr ts.length ls i = 5) := by show lmpErr _ ls i = 5; unfold lmpErr; rw [if_neg (by rw [HN.out]; decide), if_pos hidx]
      go_wp2_with fail
      go_ret
      exact ⟨by rw [HF.out]; rfl, ow1⟩
    · have P1 : Hid (lmpErr ts.length ls i = if inB (lmpAt ls i).table 0 ((ts.length : Int) - 1) = false then 4 else if inB (lmpAt ls i).kind 1 3 = false then 2 else if lampR (lmpAt ls i) = false then 7 else if (lmpAt ls i).kind = 1 ∧ (lmpAt ls i).rest ≠ 0 then 2 else 0) := by show lmpErr ts.length ls i = _; unfold lmpErr; rw [if_neg (by rw [HN.out]; decide), if_neg hidx]
      have ew : IntKind.i64.wrap ((ts.length : Int) - 1) = (ts.length : Int) - 1 := IntWalk.i64_in _ (by omega)
      go_wp2_with fail
      cases ht : inB (lmpAt ls i).table 0 ((ts.length : Int) - 1)
      · have HF : Hid (lmpErr ts.length ls i = 4) := P1.out.trans (if_pos ht)
        have HU := Lib.hid ht
        clear ht
        go_quiet ((go_at_call 73; exact Calls.quiet_of_same (isIndex_is HU.out (by omega) _)))
        go_wp2_with fail
        go_ret
        exact ⟨by rw [HF.out]; rfl, ow1.drewN _⟩
      · have P2 : Hid (lmpErr ts.length ls i = if inB (lmpAt ls i).kind 1 3 = false then 2 else if lampR (lmpAt ls i) = false then 7 else if (lmpAt ls i).kind = 1 ∧ (lmpAt ls i).rest ≠ 0 then 2 else 0) := P1.out.trans (if_neg (by rw [ht]; decide))
        have HU := Lib.hid ht
        clear ht
        go_quiet ((go_at_call 73; exact Calls.quiet_of_same (isIndex_is HU.out (by omega) _)))
        go_wp2_with fail
        cases ht : inB (lmpAt ls i).kind 1 3
        · have HF : Hid (lmpErr ts.length ls i = 2) := P2.out.trans (if_pos ht)
          have HU := Lib.hid ht
          clear ht
          refine (isFrom_any _ _ _ _).mono ?_
          rintro e w2 ⟨rfl, rfl⟩
          rw [HU.out]
          go_wp2_with fail
          go_ret
          exact ⟨by rw [HF.out]; rfl, ow1.drewN _⟩
        · have P3 : Hid (lmpErr ts.length ls i = if lampR (lmpAt ls i) = false then 7 else if (lmpAt ls i).kind = 1 ∧ (lmpAt ls i).rest ≠ 0 then 2 else 0) := P2.out.trans (if_neg (by rw [ht]; decide))
          have HU := Lib.hid ht
          clear ht
          refine (isFrom_any _ _ _ _).mono ?_
          rintro e w2 ⟨rfl, rfl⟩
          rw [HU.out]
          go_wp2_with fail
          cases ht : lampR (lmpAt ls i)
          · have HF : Hid (lmpErr ts.length ls i = 7) := P3.out.trans (if_pos ht)
            have HU := Lib.hid ht
            clear ht
            refine (areInRange_any b (o + i * 14) (lmpAt ls i) (w1.drewN nq) (TI2.out.keep ((Own.refl w1.heap.size w1).drewN _).below (Nat.le_refl _))).mono ?_
            rintro e w2 ⟨rfl, hb2⟩
            rw [HU.out]
            go_wp2_with fail
            go_ret
            exact ⟨by rw [HF.out]; rfl, (ow1.drewN nq).trans (hb2.mono lt2)⟩
          · have P4 : Hid (lmpErr ts.length ls i = if (lmpAt ls i).kind = 1 ∧ (lmpAt ls i).rest ≠ 0 then 2 else 0) := P3.out.trans (if_neg (by rw [ht]; decide))
            have HU := Lib.hid ht
            clear ht
            refine (areInRange_any b (o + i * 14) (lmpAt ls i) (w1.drewN nq) (TI2.out.keep ((Own.refl w1.heap.size w1).drewN _).below (Nat.le_refl _))).mono ?_
            rintro e w2 ⟨rfl, hb2⟩
            rw [HU.out]
            have ow2 := (ow1.drewN nq).trans (hb2.mono lt2)
            have ti3 := TI2.out.keep (((Own.refl w1.heap.size w1).drewN nq).trans hb2).below (Nat.le_refl _)
            have e2 := ti3.c2
            have e13 := ti3.c13
            clear ti3 hb2
            by_cases hk : (lmpAt ls i).kind = 1
            · by_cases hr : (lmpAt ls i).rest = 0
              · have HF : Hid (lmpErr ts.length ls i = 0) := P4.out.trans (if_neg (fun h => h.2 hr))
                have b1 : ((lmpAt ls i).kind == 1) = true := by simp [hk]
                have b2 : ((lmpAt ls i).rest != 0) = false := by simp [hr]
                clear hk hr
                go_wp2_with fail
                go_ret
                exact ⟨by rw [HF.out]; rfl, ow2⟩
              · have HF : Hid (lmpErr ts.length ls i = 2) := P4.out.trans (if_pos ⟨hk, hr⟩)
                have b1 : ((lmpAt ls i).kind == 1) = true := by simp [hk]
                have b2 : ((lmpAt ls i).rest != 0) = true := by simp [hr]
                clear hk hr
                go_wp2_with fail
                go_ret
                exact ⟨by rw [HF.out]; rfl, ow2⟩
            · have HF : Hid (lmpErr ts.length ls i = 0) := P4.out.trans (if_neg (fun h => hk h.1))
              have b1 : ((lmpAt ls i).kind == 1) = false := by simp [hk]
              clear hk
              go_wp2_with fail
              go_ret
              exact ⟨by rw [HF.out]; rfl, ow2⟩
end Go.Proofs.Ytgmpipciinphiaa
