/- The first error of a table. -/
import Derived.Test.YtgmpipciinphiaaTbl
import Derived.RegionTactic
import Derived.Deep.RegionHeld3
namespace Go.Proofs.Ytgmpipciinphiaa
set_option linter.unusedSimpArgs false
set_option linter.unusedVariables false
open Go.RowKit
attribute [local go_sem ↓] Go.wp_at_zero Go.wp_at_succ

def tabErr (ts : List Tab) (i : Nat) : Int :=
  if nameB (tabAt ts i).name = false then 6
  else if tabIdx ts (tabAt ts i).name < i then 5
  else if inB (tabAt ts i).us.xs.length 2 12 = false ∨ inB (tabAt ts i).vs.xs.length 2 12 = false then 3
  else if allB (tabAt ts i).us.xs (-5000) 5000 = false ∨ allB (tabAt ts i).vs.xs (-5000) 5000 = false then 7
  else if ascB (tabAt ts i).us.xs = false ∨ ascB (tabAt ts i).vs.xs = false then 2
  else if shapeB (tabAt ts i) = false then 6
  else if valsB (tabAt ts i) = false then 7
  else 0

/-- two cells of old memory, and all that a region leaves as it was -/
def Kt (W : World) (p q : Addr) (u v : Value) (w : World) : Prop := w.cell? p = some u ∧ w.cell? q = some v ∧ Own W.heap.size W w
theorem Kt.drew {W : World} {p q : Addr} {u v : Value} {w : World} (h : Kt W p q u v w) : Kt W p q u v w.drew := ⟨h.1, h.2.1, h.2.2.drew⟩
theorem Kt.call {W : World} {p q : Addr} {u v : Value} {w w1 : World} (h : Kt W p q u v w) (hp : p.block < W.heap.size) (hq : q.block < W.heap.size) (hb : Own w.heap.size w w1) : Kt W p q u v w1 :=
  ⟨by rw [hb.cell (Nat.lt_of_lt_of_le hp h.2.2.size)]; exact h.1, by rw [hb.cell (Nat.lt_of_lt_of_le hq h.2.2.size)]; exact h.2.1, h.2.2.trans (hb.mono h.2.2.size)⟩

set_option maxHeartbeats 2000000 in
theorem tableError_any (c : Cat) (i : Nat) (w : World) (h : CatIn w.heap.size c w) (hi : i < c.tabs.length) :
    Calls Try.prog 39 #[.agg #[c.tv, c.lv], .int .i64 i] w fun e w' => e = .returned (.int .i64 (tabErr c.tabs i)) ∧ Own w.heap.size w w' := by
  obtain ⟨ta, tc, ts, la, lc, ls⟩ := c
  obtain ⟨ht, hl⟩ := h
  dsimp only at ht hl hi
  have HL := Lib.hid hl
  clear hl
  have HT := Lib.hid ht
  have hm := ht.1
  unfold maxLen at hm
  obtain ⟨b, o, rfl, hb, hc⟩ := ht.2 (by omega)
  have ti := hc i hi
  clear hc ht
  unfold Cat.tv Cat.lv
  dsimp only
  -- the world behind the box
  have bw : Below w.heap.size w (w.alloc (.cells #[.slice (some ⟨b, o, none⟩) ts.length tc, .slice la ls.length lc] 25)) := (Below.refl _ w).alloc (Nat.le_refl _) _
  have ti1 := ti.keep bw (Nat.le_refl _)
  have TI := Lib.hid ti
  obtain ⟨d0, d1, c0, c1, c2, c3, c4, c5, d3, d4, d5⟩ := ti
  cases hn : nameB (tabAt ts i).name
  · have HF : Hid (tabErr ts i = 6) := by show tabErr ts i = 6; unfold tabErr; rw [if_pos hn]
    have HN := Lib.hid hn
    clear hn ti1 bw
    go_enter Try.func39, Try.ntmps39
    go_wp2_with fail
    refine (name_any _ _ d0).mono ?_
    rintro e w1 ⟨rfl, rfl⟩
    rw [HN.out]
    go_wp2_with fail
    go_ret
    exact ⟨by rw [HF.out]; rfl, (Own.refl _ _).alloc (Nat.le_refl _) _⟩
  · have HN := Lib.hid hn
    clear hn
    have TI1 := Lib.hid ti1
    clear ti1 bw
    go_enter Try.func39, Try.ntmps39
    go_wp2_with fail
    refine (name_any _ _ d0).mono ?_
    rintro e w1 ⟨rfl, rfl⟩
    rw [HN.out]
    go_wp2_with fail
    have own0 : Own w.heap.size w (w.alloc (.cells #[.slice (some ⟨b, o, none⟩) ts.length tc, .slice la ls.length lc] 25)) := (Own.refl _ _).alloc (Nat.le_refl _) _
    have sz0 : w.heap.size < (w.alloc (.cells #[.slice (some ⟨b, o, none⟩) ts.length tc, .slice la ls.length lc] 25)).heap.size := by simp
    have cb : (w.alloc (.cells #[.slice (some ⟨b, o, none⟩) ts.length tc, .slice la ls.length lc] 25)).cell? ⟨w.heap.size, 0, none⟩ = some (.slice (some ⟨b, o, none⟩) ts.length tc) := by simp [go_sem]
    have HT1 := Lib.hid ((HT.out.keep own0.below (Nat.le_refl _)).more (Nat.le_of_lt sz0))
    have cn := TI1.out.c0
    generalize w.alloc (.cells #[.slice (some ⟨b, o, none⟩) ts.length tc, .slice la ls.length lc] 25) = W0 at *
    have hS : W0.cell? ⟨w.heap.size, 0, none⟩ = some (.slice (some ⟨b, o, none⟩) ts.length tc) ∧ W0.cell? ⟨b, o + i * 6, none⟩ = some (.string (tabAt ts i).name) ∧ Own W0.heap.size W0 W0 := ⟨cb, cn, Own.refl _ _⟩
    have lt1 : b < W0.heap.size := by omega
    clear c0 c1 c2 c3 c4 c5 d0 d3 d4 d5 cb cn
    go_region_held3 (fun w' => w'.cell? ⟨w.heap.size, 0, none⟩ = some (.slice (some ⟨b, o, none⟩) ts.length tc) ∧ w'.cell? ⟨b, o + i * 6, none⟩ = some (.string (tabAt ts i).name) ∧ Own W0.heap.size W0 w') (first | exact Kt.drew hS | exact Kt.drew (by assumption) | exact Kt.call (by assumption) sz0 lt1 hb1 | assumption)
      (first | (go_at_call 67; (with_reducible refine (tableOf_any _ _ ts _ _ ?_).mono ?_); exact HT1.out.keep (Below.refl _ _).drew (Nat.le_refl _); rintro e w1 ⟨rfl, hb1⟩))
    have hk : w1.cell? ⟨w.heap.size, 0, none⟩ = some (.slice (some ⟨b, o, none⟩) ts.length tc) ∧ w1.cell? ⟨b, o + i * 6, none⟩ = some (.string (tabAt ts i).name) ∧ Own W0.heap.size W0 w1 := by assumption
    have ow1 : Own w.heap.size w w1 := own0.trans (hk.2.2.mono (Nat.le_of_lt sz0))
    have lt2 : w.heap.size ≤ w1.heap.size := ow1.size
    have ti2 := (TI1.out.keep hk.2.2.below (Nat.le_of_lt sz0)).more (B' := w1.heap.size) lt2
    have TI2 := Lib.hid ti2
    clear hk hb1 hS own0 sz0 lt1 HT1 TI1
    obtain ⟨d0, d1, c0, c1, c2, c3, c4, c5, d3, d4, d5⟩ := ti2
    unfold Ints.val at c1 c2
    have mu := d3.1
    have mv := d4.1
    unfold maxLen at mu mv
    have U := Lib.hid d3
    have V := Lib.hid d4
    clear d0 d3 d4 d5 c0 c3 c4 c5
    by_cases hidx : tabIdx ts (tabAt ts i).name < i
    · have HF : Hid (tabErr ts i = 5) := by show tabErr ts i = 5; unfold tabErr; rw [if_neg (by rw [HN.out]; decide), if_pos hidx]
      go_wp2_with fail
      go_ret
      exact ⟨by rw [HF.out]; rfl, ow1⟩
    · have P1 : Hid (tabErr ts i = if inB (tabAt ts i).us.xs.length 2 12 = false ∨ inB (tabAt ts i).vs.xs.length 2 12 = false then 3 else if allB (tabAt ts i).us.xs (-5000) 5000 = false ∨ allB (tabAt ts i).vs.xs (-5000) 5000 = false then 7 else if ascB (tabAt ts i).us.xs = false ∨ ascB (tabAt ts i).vs.xs = false then 2 else if shapeB (tabAt ts i) = false then 6 else if valsB (tabAt ts i) = false then 7 else 0) := by
        show tabErr ts i = _; unfold tabErr; rw [if_neg (by rw [HN.out]; decide), if_neg hidx]
      go_wp2_with fail
      cases hu : inB (tabAt ts i).us.xs.length 2 12
      · have HF : Hid (tabErr ts i = 3) := P1.out.trans (if_pos (Or.inl hu))
        have HU := Lib.hid hu
        clear hu
        refine (isFrom_any _ _ _ _).mono ?_
        rintro e w2 ⟨rfl, rfl⟩
        rw [HU.out]
        go_wp2_with fail
        go_ret
        exact ⟨by rw [HF.out]; rfl, ow1⟩
      · have HU := Lib.hid hu
        clear hu
        refine (isFrom_any _ _ _ _).mono ?_
        rintro e w2 ⟨rfl, rfl⟩
        rw [HU.out]
        go_wp2_with fail
        cases hv : inB (tabAt ts i).vs.xs.length 2 12
        · have HF : Hid (tabErr ts i = 3) := P1.out.trans (if_pos (Or.inr hv))
          have HV := Lib.hid hv
          clear hv
          refine (isFrom_any _ _ _ _).mono ?_
          rintro e w2 ⟨rfl, rfl⟩
          rw [HV.out]
          go_wp2_with fail
          go_ret
          exact ⟨by rw [HF.out]; rfl, ow1⟩
        · have P2 : Hid (tabErr ts i = if allB (tabAt ts i).us.xs (-5000) 5000 = false ∨ allB (tabAt ts i).vs.xs (-5000) 5000 = false then 7 else if ascB (tabAt ts i).us.xs = false ∨ ascB (tabAt ts i).vs.xs = false then 2 else if shapeB (tabAt ts i) = false then 6 else if valsB (tabAt ts i) = false then 7 else 0) := P1.out.trans (if_neg (by rw [HU.out, hv]; decide))
          have HV := Lib.hid hv
          clear hv
          refine (isFrom_any _ _ _ _).mono ?_
          rintro e w2 ⟨rfl, rfl⟩
          rw [HV.out]
          go_wp2_with fail
          cases hu : allB (tabAt ts i).us.xs (-5000) 5000
          · have HF : Hid (tabErr ts i = 7) := P2.out.trans (if_pos (Or.inl hu))
            have HU := Lib.hid hu
            clear hu
            refine (areFrom_any _ _ _ _ _ _ U.out).mono ?_
            rintro e w2 ⟨rfl, rfl⟩
            rw [HU.out]
            go_wp2_with fail
            go_ret
            exact ⟨by rw [HF.out]; rfl, ow1⟩
          · have HU := Lib.hid hu
            clear hu
            refine (areFrom_any _ _ _ _ _ _ U.out).mono ?_
            rintro e w2 ⟨rfl, rfl⟩
            rw [HU.out]
            go_wp2_with fail
            cases hv : allB (tabAt ts i).vs.xs (-5000) 5000
            · have HF : Hid (tabErr ts i = 7) := P2.out.trans (if_pos (Or.inr hv))
              have HV := Lib.hid hv
              clear hv
              refine (areFrom_any _ _ _ _ _ _ V.out).mono ?_
              rintro e w2 ⟨rfl, rfl⟩
              rw [HV.out]
              go_wp2_with fail
              go_ret
              exact ⟨by rw [HF.out]; rfl, ow1⟩
            · have P3 : Hid (tabErr ts i = if ascB (tabAt ts i).us.xs = false ∨ ascB (tabAt ts i).vs.xs = false then 2 else if shapeB (tabAt ts i) = false then 6 else if valsB (tabAt ts i) = false then 7 else 0) := P2.out.trans (if_neg (by rw [HU.out, hv]; decide))
              have HV := Lib.hid hv
              clear hv
              refine (areFrom_any _ _ _ _ _ _ V.out).mono ?_
              rintro e w2 ⟨rfl, rfl⟩
              rw [HV.out]
              go_wp2_with fail
              cases hu : ascB (tabAt ts i).us.xs
              · have HF : Hid (tabErr ts i = 2) := P3.out.trans (if_pos (Or.inl hu))
                have HU := Lib.hid hu
                clear hu
                refine (ascend_any _ _ _ _ U.out).mono ?_
                rintro e w2 ⟨rfl, n1, rfl⟩
                rw [HU.out]
                go_wp2_with fail
                go_ret
                exact ⟨by rw [HF.out]; rfl, ow1.drewN n1⟩
              · have HU := Lib.hid hu
                clear hu
                refine (ascend_any _ _ _ _ U.out).mono ?_
                rintro e w2 ⟨rfl, n1, rfl⟩
                rw [HU.out]
                go_wp2_with fail
                cases hv : ascB (tabAt ts i).vs.xs
                · have HF : Hid (tabErr ts i = 2) := P3.out.trans (if_pos (Or.inr hv))
                  have HV := Lib.hid hv
                  clear hv
                  refine (ascend_any _ _ _ (w1.drewN n1) V.out).mono ?_
                  rintro e w2 ⟨rfl, n2, rfl⟩
                  rw [HV.out]
                  go_wp2_with fail
                  go_ret
                  exact ⟨by rw [HF.out]; rfl, ow1.drewN (n1 + n2)⟩
                · have P4 : Hid (tabErr ts i = if shapeB (tabAt ts i) = false then 6 else if valsB (tabAt ts i) = false then 7 else 0) := P3.out.trans (if_neg (by rw [HU.out, hv]; decide))
                  have HV := Lib.hid hv
                  clear hv
                  refine (ascend_any _ _ _ (w1.drewN n1) V.out).mono ?_
                  rintro e w2 ⟨rfl, n2, rfl⟩
                  rw [HV.out]
                  go_wp2_with fail
                  cases hs : shapeB (tabAt ts i)
                  · have HF : Hid (tabErr ts i = 6) := P4.out.trans (if_pos hs)
                    have HU := Lib.hid hs
                    clear hs
                    refine (hasShape_any b (o + i * 6) (tabAt ts i) (w1.drewN (n1 + n2)) (TI2.out.keep ((Own.refl w1.heap.size w1).drewN _).below (Nat.le_refl _))).mono ?_
                    rintro e w2 ⟨rfl, n3, rfl⟩
                    rw [HU.out]
                    go_wp2_with fail
                    go_ret
                    exact ⟨by rw [HF.out]; rfl, ow1.drewN (n1 + n2 + n3)⟩
                  · have P5 : Hid (tabErr ts i = if valsB (tabAt ts i) = false then 7 else 0) := P4.out.trans (if_neg (by rw [hs]; decide))
                    have HU := Lib.hid hs
                    clear hs
                    refine (hasShape_any b (o + i * 6) (tabAt ts i) (w1.drewN (n1 + n2)) (TI2.out.keep ((Own.refl w1.heap.size w1).drewN _).below (Nat.le_refl _))).mono ?_
                    rintro e w2 ⟨rfl, n3, rfl⟩
                    rw [HU.out]
                    go_wp2_with fail
                    cases hs : valsB (tabAt ts i)
                    · have HF : Hid (tabErr ts i = 7) := P5.out.trans (if_pos hs)
                      have HU := Lib.hid hs
                      clear hs
                      refine (areIntensities_any b (o + i * 6) (tabAt ts i) (w1.drewN (n1 + n2 + n3)) (TI2.out.keep ((Own.refl w1.heap.size w1).drewN _).below (Nat.le_refl _))).mono ?_
                      rintro e w2 ⟨rfl, rfl⟩
                      rw [HU.out]
                      go_wp2_with fail
                      go_ret
                      exact ⟨by rw [HF.out]; rfl, ow1.drewN (n1 + n2 + n3)⟩
                    · have HF : Hid (tabErr ts i = 0) := P5.out.trans (if_neg (by rw [hs]; decide))
                      have HU := Lib.hid hs
                      clear hs
                      refine (areIntensities_any b (o + i * 6) (tabAt ts i) (w1.drewN (n1 + n2 + n3)) (TI2.out.keep ((Own.refl w1.heap.size w1).drewN _).below (Nat.le_refl _))).mono ?_
                      rintro e w2 ⟨rfl, rfl⟩
                      rw [HU.out]
                      go_wp2_with fail
                      go_ret
                      exact ⟨by rw [HF.out]; rfl, ow1.drewN (n1 + n2 + n3)⟩
end Go.Proofs.Ytgmpipciinphiaa
