/- The error of a table, as the reference finds it. -/
import Derived.Test.YtgmpipciinphiaaRtg
import Derived.Test.YtgmpipciinphiaaRnm
import Derived.Deep.DeepCutAuto
import Derived.Deep.DrawnRows
namespace Go.Proofs.Ytgmpipciinphiaa
set_option linter.unusedSimpArgs false
set_option linter.unusedVariables false
open Go.RowKit
attribute [local go_sem ↓] Go.wp_at_zero Go.wp_at_succ

theorem firstN_le {names : Nat → ByteArray} {m : ByteArray} : ∀ {n i k : Nat}, i ≤ k → k < i + n → nmEq (names k) m = true → firstN names m i n ≤ (k : Int)
  | 0, i, k, h1, h2, _ => by omega
  | n + 1, i, k, h1, h2, h3 => by
    cases hq : nmEq (names i) m
    · rw [firstN_next hq]
      by_cases hk : k = i
      · subst hk; rw [hq] at h3; exact absurd h3 (by decide)
      · exact firstN_le (by omega) (by omega) h3
    · rw [firstN_at hq]; omega
theorem firstN_ge {names : Nat → ByteArray} {m : ByteArray} : ∀ {n i k : Nat}, i ≤ k → k < i + n → (∀ j, i ≤ j → j < k → nmEq (names j) m = false) → nmEq (names k) m = true → (k : Int) ≤ firstN names m i n
  | 0, i, k, h1, h2, _, _ => by omega
  | n + 1, i, k, h1, h2, h3, h4 => by
    by_cases hk : k = i
    · subst hk; rw [firstN_at h4]; omega
    · rw [firstN_next (h3 i (by omega) (by omega))]
      exact firstN_ge (by omega) (by omega) (fun j a b => h3 j (by omega) b) h4

/-- a table's copy in block s + 1, and the catalogue's lists in block s -/
structure TbAt (s : Nat) (A : Option Addr) (n c : Nat) (t : Tab) (w : World) : Prop where
  b0 : w.cell? ⟨s, 0, none⟩ = some (.slice A n c)
  x0 : w.cell? ⟨s + 1, 0, none⟩ = some (.string t.name)
  x1 : w.cell? ⟨s + 1, 1, none⟩ = some (.slice t.us.a t.us.xs.length t.us.c)
  x2 : w.cell? ⟨s + 1, 2, none⟩ = some (.slice t.vs.a t.vs.xs.length t.vs.c)
  x3 : w.cell? ⟨s + 1, 3, none⟩ = some (.slice t.ra t.rows.length t.rc)
  x4 : w.cell? ⟨s + 1, 4, none⟩ = some (.int .i64 t.side)
  x5 : w.cell? ⟨s + 1, 5, none⟩ = some (.int .i64 t.sky)
theorem TbAt.keep {s : Nat} {A : Option Addr} {n c : Nat} {t : Tab} {w w1 : World} (h : TbAt s A n c t w) {B : Nat} (k : Own B w w1) (hs : s + 1 < B) : TbAt s A n c t w1 := by
  refine ⟨?_, ?_, ?_, ?_, ?_, ?_, ?_⟩
  · rw [k.cell (p := ⟨s, 0, none⟩) (by show s < B; omega)]; exact h.b0
  · rw [k.cell (p := ⟨s + 1, 0, none⟩) hs]; exact h.x0
  · rw [k.cell (p := ⟨s + 1, 1, none⟩) hs]; exact h.x1
  · rw [k.cell (p := ⟨s + 1, 2, none⟩) hs]; exact h.x2
  · rw [k.cell (p := ⟨s + 1, 3, none⟩) hs]; exact h.x3
  · rw [k.cell (p := ⟨s + 1, 4, none⟩) hs]; exact h.x4
  · rw [k.cell (p := ⟨s + 1, 5, none⟩) hs]; exact h.x5

theorem own_drewN {w : World} (n : Nat) : Own w.heap.size w (w.drewN n) := (Own.refl _ _).drewN n

set_option maxRecDepth 100000 in
set_option maxHeartbeats 8000000 in
theorem rtable_any (c : Cat) (i : Nat) (w : World) (h : CatIn w.heap.size c w) (hi : i < c.tabs.length) :
    Calls Try.prog 41 #[.agg #[c.tv, c.lv], .int .i64 i] w fun e w' => e = .returned (.int .i64 (tabErr c.tabs i)) ∧ Own w.heap.size w w' := by
  obtain ⟨ta, tc, ts, la, lc, ls⟩ := c
  obtain ⟨ht, hl⟩ := h
  dsimp only at ht hl hi ⊢
  clear hl
  have hm := ht.1
  unfold maxLen at hm
  have HT := Lib.hid ht
  obtain ⟨b, o, rfl, hb, hc⟩ := ht.2 (by omega)
  have ti := hc i hi
  clear hc ht
  unfold Cat.tv Cat.lv
  dsimp only
  have TI := Lib.hid ti
  obtain ⟨d0, d1, c0, c1, c2, c3, c4, c5, d3, d4, d5⟩ := ti
  unfold Ints.val at c1 c2
  have EN := Lib.hid (rfl : tabAt ts i = tabAt ts i)
  obtain ⟨t, htt⟩ : ∃ t, tabAt ts i = t := ⟨_, rfl⟩
  rw [htt] at d0 c0 c1 c2 c3 c4 c5 d3 d4 d5
  have own0 : Own w.heap.size w ((w.alloc (.cells #[.slice (some ⟨b, o, none⟩) ts.length tc, .slice la ls.length lc] 25)).alloc (.cells #[.string t.name, .slice t.us.a t.us.xs.length t.us.c, .slice t.vs.a t.vs.xs.length t.vs.c, .slice t.ra t.rows.length t.rc, .int .i64 t.side, .int .i64 t.sky] 61)) := ((Own.refl _ _).alloc (Nat.le_refl _) _).alloc (by simp) _
  have sz0 : ((w.alloc (.cells #[.slice (some ⟨b, o, none⟩) ts.length tc, .slice la ls.length lc] 25)).alloc (.cells #[.string t.name, .slice t.us.a t.us.xs.length t.us.c, .slice t.vs.a t.vs.xs.length t.vs.c, .slice t.ra t.rows.length t.rc, .int .i64 t.side, .int .i64 t.sky] 61)).heap.size = w.heap.size + 1 + 1 := by simp
  have tb0 : TbAt w.heap.size (some ⟨b, o, none⟩) ts.length tc t ((w.alloc (.cells #[.slice (some ⟨b, o, none⟩) ts.length tc, .slice la ls.length lc] 25)).alloc (.cells #[.string t.name, .slice t.us.a t.us.xs.length t.us.c, .slice t.vs.a t.vs.xs.length t.vs.c, .slice t.ra t.rows.length t.rc, .int .i64 t.side, .int .i64 t.sky] 61)) := by
    constructor <;> simp [go_sem]
  have TB0 := Lib.hid tb0
  have OWN0 := Lib.hid own0
  have SZ0 := Lib.hid sz0
  have HTT := Lib.hid htt
  have D3 := Lib.hid d3
  have D4 := Lib.hid d4
  have D5 := Lib.hid d5
  clear tb0 own0 sz0 EN d3 d4 d5
  have HE : Hid (tabErr ts i = if nameB t.name = false then 6 else if tabIdx ts t.name < i then 5 else if inB t.us.xs.length 2 12 = false ∨ inB t.vs.xs.length 2 12 = false then 3 else if allB t.us.xs (-5000) 5000 = false ∨ allB t.vs.xs (-5000) 5000 = false then 7 else if ascB t.us.xs = false ∨ ascB t.vs.xs = false then 2 else if shapeB t = false then 6 else if valsB t = false then 7 else 0) := by
    show tabErr ts i = _; rw [← htt]; rfl
  clear htt
  cases hn : nameB t.name
  · have HF : Hid (tabErr ts i = 6) := HE.out.trans (if_pos hn)
    have HN := Lib.hid hn
    clear hn
    go_enter Try.func41, Try.ntmps41
    go_wp2_with fail
    refine (rname_any _ _ d0).mono ?_
    rintro e w1 ⟨rfl, rfl⟩
    rw [HN.out]
    go_wp2_with fail
    go_ret
    exact ⟨by rw [HF.out]; rfl, OWN0.out⟩
  · have HN := Lib.hid hn
    clear hn
    go_enter Try.func41, Try.ntmps41
    go_wp2_with fail
    refine (rname_any _ _ d0).mono ?_
    rintro e w1 ⟨rfl, rfl⟩
    rw [HN.out]
    go_wp2_with fail
    clear c0 c1 c2 c3 c4 c5
    generalize ((w.alloc (.cells #[.slice (some ⟨b, o, none⟩) ts.length tc, .slice la ls.length lc] 25)).alloc (.cells #[.string t.name, .slice t.us.a t.us.xs.length t.us.c, .slice t.vs.a t.vs.xs.length t.vs.c, .slice t.ra t.rows.length t.rc, .int .i64 t.side, .int .i64 t.sky] 61)) = W1 at *
    go_loopg [6] i (fun n k' wr => ∃ k : Nat, k ≤ i ∧ n = i - k ∧ k' = .int .i64 k ∧ Hid (∀ j, j < k → nmEq (tabAt ts j).name t.name = false) ∧ Own W1.heap.size W1 wr)
    case atStart => exact ⟨0, by omega, by omega, rfl, fun j hj => absurd hj (by omega), Own.refl _ _⟩
    case round =>
      obtain ⟨k, hk, hn0, rfl, ha, hbw⟩ := hrel
      have HNN := Lib.hid hn0
      clear hn0
      have hsz := hbw.size
      rw [SZ0.out] at hsz
      have SZW := Lib.hid hsz
      have TBW := Lib.hid (TB0.out.keep hbw (by rw [SZ0.out]; omega))
      have OWW := Lib.hid (OWN0.out.trans (hbw.mono (by rw [SZ0.out]; omega)))
      by_cases hlt : k < i
      · obtain ⟨b', o', e', _, hc'⟩ := HT.out.2 (by omega)
        injection e' with e'
        injection e' with e1' e2'
        subst e1' e2'
        have hc0 := ((hc' k (by omega)).keep OWW.out.below (Nat.le_refl _)).c0
        clear hc'
        have hb0 := TBW.out.b0
        have hx0 := TBW.out.x0
        cases hq : nmEq (tabAt ts k).name t.name
        · have ha' : Hid (∀ j, j < k + 1 → nmEq (tabAt ts j).name t.name = false) := fun j hj => by
            by_cases e : j = k
            · subst e; exact hq
            · exact ha.out j (by omega)
          unfold nmEq at hq
          go_wp2_with fail
          go_quiet (fail)
          go_wp2_with fail
          go_roundg (i - (k + 1))
          case measure => have := HNN.out; omega
          case rel => exact ⟨k + 1, by omega, rfl, by go_num, ha', hbw.drewN _⟩
        · have HX : tabIdx ts t.name < i := by
            have := firstN_le (names := fun i => (tabAt ts i).name) (m := t.name) (n := ts.length) (i := 0) (k := k) (by omega) (by omega) hq
            unfold tabIdx; omega
          have HF : Hid (tabErr ts i = 5) := HE.out.trans ((if_neg (by rw [HN.out]; decide)).trans (if_pos HX))
          clear HX
          unfold nmEq at hq
          go_wp2_with fail
          go_quiet (fail)
          go_wp2_with fail
          go_ret
          exact ⟨by rw [HF.out]; rfl, OWW.out.drewN _⟩
      · obtain rfl : k = i := by omega
        have HX : ¬ tabIdx ts t.name < k := by
          have := firstN_ge (names := fun i => (tabAt ts i).name) (m := t.name) (n := ts.length) (i := 0) (k := k) (by omega) (by omega) (fun j _ hj => ha.out j hj) (by show nmEq (tabAt ts k).name t.name = true; rw [HTT.out]; exact nmEq_refl _)
          unfold tabIdx; omega
        have P1 : Hid (tabErr ts k = if inB t.us.xs.length 2 12 = false ∨ inB t.vs.xs.length 2 12 = false then 3 else if allB t.us.xs (-5000) 5000 = false ∨ allB t.vs.xs (-5000) 5000 = false then 7 else if ascB t.us.xs = false ∨ ascB t.vs.xs = false then 2 else if shapeB t = false then 6 else if valsB t = false then 7 else 0) := HE.out.trans ((if_neg (by rw [HN.out]; decide)).trans (if_neg HX))
        clear HX HE ha
        have hx1 := TBW.out.x1
        go_wp2_with fail
        refine (rtangents_any _ _ _ _ ((D3.out.keep OWW.out.below (Nat.le_refl _)).more OWW.out.size)).mono ?_
        rintro e w2 ⟨rfl, n2, rfl⟩
        have TB2 := Lib.hid (TBW.out.keep (own_drewN n2) SZW.out)
        have OW2 := Lib.hid (OWW.out.trans ((own_drewN n2).mono OWW.out.size))
        have SZ2 : Hid (w.heap.size + 1 + 1 ≤ (wr.drewN n2).heap.size) := SZW.out
        generalize wr.drewN n2 = w2 at *
        clear hx1 hbw hsz TBW OWW
        have hx2 := TB2.out.x2
        go_wp2_with fail
        refine (rtangents_any _ _ _ _ ((D4.out.keep OW2.out.below (Nat.le_refl _)).more OW2.out.size)).mono ?_
        rintro e w3 ⟨rfl, n3, rfl⟩
        have TB3 := Lib.hid (TB2.out.keep (own_drewN n3) SZ2.out)
        have OW3 := Lib.hid (OW2.out.trans ((own_drewN n3).mono OW2.out.size))
        have SZ3 : Hid (w.heap.size + 1 + 1 ≤ (w2.drewN n3).heap.size) := SZ2.out
        generalize w2.drewN n3 = w3 at *
        clear hx2 TB2 OW2 SZ2 SZW
        cases q0 : inB t.us.xs.length 2 12
        · have HF : Hid (tabErr ts k = 3) := P1.out.trans (if_pos (.inl q0))
          go_wp2_with fail
          go_ret
          exact ⟨by rw [HF.out]; rfl, OW3.out⟩
        · skip
          cases q1 : inB t.vs.xs.length 2 12
          · have HF : Hid (tabErr ts k = 3) := P1.out.trans (if_pos (.inr q1))
            go_wp2_with fail
            go_ret
            exact ⟨by rw [HF.out]; rfl, OW3.out⟩
          · have P2 : Hid (tabErr ts k = if allB t.us.xs (-5000) 5000 = false ∨ allB t.vs.xs (-5000) 5000 = false then 7 else if ascB t.us.xs = false ∨ ascB t.vs.xs = false then 2 else if shapeB t = false then 6 else if valsB t = false then 7 else 0) := P1.out.trans (if_neg (by rw [q0, q1]; decide))
            cases q2 : allB t.us.xs (-5000) 5000
            · have HF : Hid (tabErr ts k = 7) := P2.out.trans (if_pos (.inl q2))
              go_wp2_with fail
              go_ret
              exact ⟨by rw [HF.out]; rfl, OW3.out⟩
            · skip
              cases q3 : allB t.vs.xs (-5000) 5000
              · have HF : Hid (tabErr ts k = 7) := P2.out.trans (if_pos (.inr q3))
                go_wp2_with fail
                go_ret
                exact ⟨by rw [HF.out]; rfl, OW3.out⟩
              · have P3 : Hid (tabErr ts k = if ascB t.us.xs = false ∨ ascB t.vs.xs = false then 2 else if shapeB t = false then 6 else if valsB t = false then 7 else 0) := P2.out.trans (if_neg (by rw [q2, q3]; decide))
                cases q4 : ascB t.us.xs
                · have HF : Hid (tabErr ts k = 2) := P3.out.trans (if_pos (.inl q4))
                  go_wp2_with fail
                  go_ret
                  exact ⟨by rw [HF.out]; rfl, OW3.out⟩
                · skip
                  cases q5 : ascB t.vs.xs
                  · have HF : Hid (tabErr ts k = 2) := P3.out.trans (if_pos (.inr q5))
                    go_wp2_with fail
                    go_ret
                    exact ⟨by rw [HF.out]; rfl, OW3.out⟩
                  · have P4 : Hid (tabErr ts k = if shapeB t = false then 6 else if valsB t = false then 7 else 0) := P3.out.trans (if_neg (by rw [q4, q5]; decide))
                    clear P1 P2 P3 q0 q1 q2 q3 q4 q5
                    obtain ⟨hb0, hx0, hx1, hx2, hx3, hx4, hx5⟩ := TB3.out
                    have HS : Hid (shapeB t = (decide (t.rows.length = t.us.xs.length) && rowsB t.rows t.vs.xs.length)) := rfl
                    by_cases he : t.rows.length = t.us.xs.length
                    case neg =>
                      have HF : Hid (tabErr ts k = 6) := P4.out.trans (if_pos (by rw [HS.out, decide_eq_false he]; rfl))
                      have hne : ((t.rows.length : Int) != (t.us.xs.length : Int)) = true := by simp; omega
                      clear he
                      go_wp2_with fail
                      go_ret
                      exact ⟨by rw [HF.out]; rfl, OW3.out⟩
                    case pos =>
                      have HS2 : Hid (shapeB t = rowsB t.rows t.vs.xs.length) := by show shapeB t = _; rw [HS.out, decide_eq_true he]; rfl
                      have hne : ((t.rows.length : Int) != (t.us.xs.length : Int)) = false := by simp; omega
                      have HEQ := Lib.hid he
                      clear he
                      go_upto_region 19 with fail
                      go_cut [13] (fun s13 wx => s13 = .bool (inB t.side 0 10000000 && inB t.sky 0 10000000) ∧ wx = w3)
                      case first =>
                        cases hs : inB t.side 0 10000000
                        · go_wp2_with fail
                          refine (rin_is hs _).mono ?_
                          rintro e w4 ⟨rfl, rfl⟩
                          go_wp2_with fail
                          go_meet
                          case rel => exact ⟨by rw [hs]; rfl, rfl⟩
                        · cases hk : inB t.sky 0 10000000
                          · go_wp2_with fail
                            refine (rin_is hs _).mono ?_
                            rintro e w4 ⟨rfl, rfl⟩
                            go_wp2_with fail
                            refine (rin_is hk _).mono ?_
                            rintro e w4 ⟨rfl, rfl⟩
                            go_wp2_with fail
                            go_meet
                            case rel => exact ⟨by rw [hs, hk]; rfl, rfl⟩
                          · go_wp2_with fail
                            refine (rin_is hs _).mono ?_
                            rintro e w4 ⟨rfl, rfl⟩
                            go_wp2_with fail
                            refine (rin_is hk _).mono ?_
                            rintro e w4 ⟨rfl, rfl⟩
                            go_wp2_with fail
                            go_meet
                            case rel => exact ⟨by rw [hs, hk]; rfl, rfl⟩
                      case rest =>
                        obtain ⟨rfl, rfl⟩ := hcut
                        have HV : Hid (valsB t = (rowsR t.rows && (inB t.side 0 10000000 && inB t.sky 0 10000000))) := rfl
                        generalize (inB t.side 0 10000000 && inB t.sky 0 10000000) = g at *
                        have D5m := D5.out.1
                        unfold maxLen at D5m
                        have ORW := Lib.hid (D5.out.keep OW3.out.below (Nat.le_refl _))
                        go_wp2_with fail
                        go_loopg [14] t.rows.length (fun n k' wr => ∃ k q : Nat, k ≤ t.rows.length ∧ n = t.rows.length - k ∧ k' = .int .i64 k ∧ Hid (rowsB (t.rows.take k) t.vs.xs.length = true) ∧ wr = wc.drewN q)
                        case atStart => exact ⟨0, 0, by omega, by omega, rfl, rfl, rfl⟩
                        case round =>
                          obtain ⟨j, q, hj, hn0, rfl, ha, rfl⟩ := hrel
                          have HNN := Lib.hid hn0
                          clear hn0
                          by_cases hlt : j < t.rows.length
                          · obtain ⟨b', o', hra, _, hc'⟩ := ORW.out.2 (by omega)
                            obtain ⟨hcj, hij⟩ := hc' j hlt
                            clear hc'
                            unfold Ints.val at hcj
                            rw [hra] at hx3
                            clear hra
                            have hmj := hij.1
                            unfold maxLen at hmj
                            clear hij
                            have hs := rowsB_step (m := t.vs.xs.length) hlt
                            have hvm := D4.out.1
                            unfold maxLen at hvm
                            by_cases he : (rowAt t.rows j).xs.length = t.vs.xs.length
                            · have ha' : Hid (rowsB (t.rows.take (j+1)) t.vs.xs.length = true) := by
                                show rowsB (t.rows.take (j+1)) t.vs.xs.length = true
                                rw [hs, ha, decide_eq_true he]; rfl
                              have hne2 : (((rowAt t.rows j).xs.length : Int) != (t.vs.xs.length : Int)) = false := by simp; omega
                              clear he hs
                              go_wp2_with fail
                              go_quiet (fail)
                              go_wp2_with fail
                              go_roundg (t.rows.length - (j + 1))
                              case measure => have := HNN.out; omega
                              case rel => exact ⟨j + 1, _, by omega, rfl, by go_num, ha', rfl⟩
                            · have HF : Hid (tabErr ts k = 6) := P4.out.trans (if_pos (HS2.out.trans (rowsB_no hlt he)))
                              have hne2 : (((rowAt t.rows j).xs.length : Int) != (t.vs.xs.length : Int)) = true := by simp; omega
                              clear he hs
                              go_wp2_with fail
                              go_quiet (fail)
                              go_wp2_with fail
                              go_ret
                              exact ⟨by rw [HF.out]; rfl, (OW3.out.drewN _).drewN _⟩
                          · obtain rfl : j = t.rows.length := by omega
                            have HSH : Hid (shapeB t = true) := by
                              have := ha
                              rw [List.take_length] at this
                              exact HS2.out.trans this
                            have P5 : Hid (tabErr ts k = if valsB t = false then 7 else 0) := P4.out.trans (if_neg (by rw [HSH.out]; decide))
                            have HROW : Hid (∀ j, j < t.rows.length → (rowAt t.rows j).xs.length = t.vs.xs.length) := fun j hj => by
                              have h1 := HS2.out.symm.trans HSH.out
                              unfold rowsB at h1
                              rw [List.all_eq_true] at h1
                              rw [rowAt_eq hj]
                              exact of_decide_eq_true (h1 _ (List.getElem_mem hj))
                            have hvm := D4.out.1
                            unfold maxLen at hvm
                            clear ha HNN P4 HS HS2
                            go_wp2_with fail
                            go_loopg [13, 15] t.rows.length (fun n g' k' wr => ∃ k : Nat, k ≤ t.rows.length ∧ n = t.rows.length - k ∧ k' = .int .i64 k ∧ g' = .bool (rowsR (t.rows.take k) && g) ∧ wr = wc.drewN q)
                            case atStart => exact ⟨0, by omega, by omega, rfl, by simp [rowsR], rfl⟩
                            case round =>
                              obtain ⟨j, hj, hn0, rfl, rfl, rfl⟩ := hrel
                              have HNN := Lib.hid hn0
                              clear hn0
                              by_cases hlt : j < t.rows.length
                              · have hs := Lib.hid (rowsR_step hlt)
                                generalize rowsR (t.rows.take j) = rj at *
                                go_wp2_with fail
                                go_loopg [13, 16] t.vs.xs.length (fun n g' l' wr => ∃ l : Nat, l ≤ t.vs.xs.length ∧ n = t.vs.xs.length - l ∧ l' = .int .i64 l ∧ g' = .bool ((rj && g) && allB ((rowAt t.rows j).xs.take l) 0 10000000) ∧ wr = wc.drewN q)
                                case atStart => exact ⟨0, by omega, by omega, rfl, by simp [allB], rfl⟩
                                case round =>
                                  obtain ⟨l, hl, hn0, rfl, rfl, rfl⟩ := hrel
                                  have HNN2 := Lib.hid hn0
                                  clear hn0
                                  by_cases hlt2 : l < t.vs.xs.length
                                  · obtain ⟨b', o', hra, _, hc'⟩ := ORW.out.2 (by omega)
                                    obtain ⟨hcj, hij⟩ := hc' j hlt
                                    clear hc'
                                    have hlen := HROW.out j hlt
                                    have hl3 : l < (rowAt t.rows j).xs.length := by omega
                                    obtain ⟨b2, o2, hra2, _, hc2⟩ := hij.2 (by omega)
                                    have hcl := hc2 l hl3
                                    have hmj := hij.1
                                    unfold maxLen at hmj
                                    clear hij hc2
                                    unfold Ints.val at hcj
                                    rw [hra2] at hcj
                                    clear hra2
                                    rw [hra] at hx3
                                    clear hra
                                    have hst := allB_step (a := 0) (b := 10000000) hl3
                                    have HLN := Lib.hid hlen
                                    clear hlen
                                    cases hg : ((rj && g) && allB ((rowAt t.rows j).xs.take l) 0 10000000)
                                    · have G' : Hid (((rj && g) && allB ((rowAt t.rows j).xs.take (l+1)) 0 10000000) = false) := by
                                        show (_ && _) = false
                                        rw [hst, ← Bool.and_assoc, hg]; rfl
                                      clear hg hst
                                      go_wp2_with fail
                                      go_roundg (t.vs.xs.length - (l + 1))
                                      case measure => have := HNN2.out; omega
                                      case rel => exact ⟨l + 1, by omega, rfl, by go_num, by rw [G'.out], rfl⟩
                                    · have G' : Hid (((rj && g) && allB ((rowAt t.rows j).xs.take (l+1)) 0 10000000) = inB (nth (rowAt t.rows j).xs l) 0 10000000) := by
                                        show (_ && _) = _
                                        rw [hst, ← Bool.and_assoc, hg]; rfl
                                      clear hg hst
                                      go_wp2_with fail
                                      refine (rin_any _ _ _ _).mono ?_
                                      rintro e w4 ⟨rfl, rfl⟩
                                      go_wp2_with fail
                                      go_roundg (t.vs.xs.length - (l + 1))
                                      case measure => have := HNN2.out; omega
                                      case rel => exact ⟨l + 1, by omega, rfl, by go_num, by rw [G'.out], rfl⟩
                                  · obtain rfl : l = t.vs.xs.length := by omega
                                    have G' : Hid (((rj && g) && allB ((rowAt t.rows j).xs.take t.vs.xs.length) 0 10000000) = (rowsR (t.rows.take (j+1)) && g)) := by
                                      show (_ && _) = _
                                      rw [hs.out, ← HROW.out j hlt, List.take_length]
                                      cases rj <;> cases g <;> simp
                                    rw [G'.out]
                                    go_wp2_with fail
                                    go_roundg (t.rows.length - (j + 1))
                                    case measure => have := HNN.out; omega
                                    case rel => exact ⟨j + 1, by omega, rfl, by go_num, rfl, rfl⟩
                              · obtain rfl : j = t.rows.length := by omega
                                have HVV : Hid ((rowsR (t.rows.take t.rows.length) && g) = valsB t) := by show _ = _; rw [List.take_length, HV.out]
                                rw [HVV.out]
                                cases hv : valsB t
                                · have HF : Hid (tabErr ts k = 7) := P5.out.trans (if_pos hv)
                                  clear hv HVV HV
                                  go_wp2_with fail
                                  go_ret
                                  exact ⟨by rw [HF.out]; rfl, OW3.out.drewN _⟩
                                · have HF : Hid (tabErr ts k = 0) := P5.out.trans (if_neg (by rw [hv]; decide))
                                  clear hv HVV HV
                                  go_wp2_with fail
                                  go_ret
                                  exact ⟨by rw [HF.out]; rfl, OW3.out.drewN _⟩
end Go.Proofs.Ytgmpipciinphiaa
