/- The error of a lamp, as the reference finds it. -/
import Derived.Test.YtgmpipciinphiaaRtb
namespace Go.Proofs.Ytgmpipciinphiaa
set_option linter.unusedSimpArgs false
set_option linter.unusedVariables false
open Go.RowKit
attribute [local go_sem ↓] Go.wp_at_zero Go.wp_at_succ

def refR (l : Lmp) : Bool := (inB l.lumens 1 1000000 && (inB l.power 1 5000000 && (inB l.standing 0 l.power && inB l.tol 0 1000))) && (withB l.alo l.ahi 0 1000 && (withB l.dlo l.dhi 0 1000 && (inB l.life 1 200000 && (inB l.dim 0 1000 && inB l.rest 0 3600))))
theorem refR_eq (l : Lmp) : refR l = lampR l := by
  have e0 : lampRn l 0 = true := rfl
  unfold lampR refR
  rw [lampRn_succ, lampRn_succ, lampRn_succ, lampRn_succ, lampRn_succ, lampRn_succ, lampRn_succ, lampRn_succ, lampRn_succ, e0]
  rw [Bool.eq_iff_iff]
  simp only [inLamp, withB, inB, Bool.and_eq_true, decide_eq_true_eq, Bool.true_and]
  omega

/-- a lamp's copy in block s + 1, and the catalogue's lists in block s -/
structure LmAt (s : Nat) (A : Option Addr) (n c : Nat) (A' : Option Addr) (n' c' : Nat) (l : Lmp) (w : World) : Prop where
  b0 : w.cell? ⟨s, 0, none⟩ = some (.slice A n c)
  b1 : w.cell? ⟨s, 1, none⟩ = some (.slice A' n' c')
  x0 : w.cell? ⟨s + 1, 0, none⟩ = some (.string l.name)
  x1 : w.cell? ⟨s + 1, 1, none⟩ = some (.int .i64 l.table)
  x2 : w.cell? ⟨s + 1, 2, none⟩ = some (.int .i64 l.kind)
  x3 : w.cell? ⟨s + 1, 3, none⟩ = some (.int .i64 l.lumens)
  x4 : w.cell? ⟨s + 1, 4, none⟩ = some (.int .i64 l.power)
  x5 : w.cell? ⟨s + 1, 5, none⟩ = some (.int .i64 l.standing)
  x6 : w.cell? ⟨s + 1, 6, none⟩ = some (.int .i64 l.tol)
  x7 : w.cell? ⟨s + 1, 7, none⟩ = some (.int .i64 l.alo)
  x8 : w.cell? ⟨s + 1, 8, none⟩ = some (.int .i64 l.ahi)
  x9 : w.cell? ⟨s + 1, 9, none⟩ = some (.int .i64 l.dlo)
  x10 : w.cell? ⟨s + 1, 10, none⟩ = some (.int .i64 l.dhi)
  x11 : w.cell? ⟨s + 1, 11, none⟩ = some (.int .i64 l.life)
  x12 : w.cell? ⟨s + 1, 12, none⟩ = some (.int .i64 l.dim)
  x13 : w.cell? ⟨s + 1, 13, none⟩ = some (.int .i64 l.rest)
theorem LmAt.keep {s : Nat} {A : Option Addr} {n c : Nat} {A' : Option Addr} {n' c' : Nat} {l : Lmp} {w w1 : World} (h : LmAt s A n c A' n' c' l w) {B : Nat} (k : Own B w w1) (hs : s + 1 < B) : LmAt s A n c A' n' c' l w1 := by
  refine ⟨?_, ?_, ?_, ?_, ?_, ?_, ?_, ?_, ?_, ?_, ?_, ?_, ?_, ?_, ?_, ?_⟩
  · rw [k.cell (p := ⟨s, 0, none⟩) (by show s < B; omega)]; exact h.b0
  · rw [k.cell (p := ⟨s, 1, none⟩) (by show s < B; omega)]; exact h.b1
  · rw [k.cell (p := ⟨s + 1, 0, none⟩) hs]; exact h.x0
  · rw [k.cell (p := ⟨s + 1, 1, none⟩) hs]; exact h.x1
  · rw [k.cell (p := ⟨s + 1, 2, none⟩) hs]; exact h.x2
  · rw [k.cell (p := ⟨s + 1, 3, none⟩) hs]; exact h.x3
  · rw [k.cell (p := ⟨s + 1, 4, none⟩) hs]; exact h.x4
  · rw [k.cell (p := ⟨s + 1, 5, none⟩) hs]; exact h.x5
  · rw [k.cell (p := ⟨s + 1, 6, none⟩) hs]; exact h.x6
  · rw [k.cell (p := ⟨s + 1, 7, none⟩) hs]; exact h.x7
  · rw [k.cell (p := ⟨s + 1, 8, none⟩) hs]; exact h.x8
  · rw [k.cell (p := ⟨s + 1, 9, none⟩) hs]; exact h.x9
  · rw [k.cell (p := ⟨s + 1, 10, none⟩) hs]; exact h.x10
  · rw [k.cell (p := ⟨s + 1, 11, none⟩) hs]; exact h.x11
  · rw [k.cell (p := ⟨s + 1, 12, none⟩) hs]; exact h.x12
  · rw [k.cell (p := ⟨s + 1, 13, none⟩) hs]; exact h.x13

set_option maxRecDepth 100000 in
set_option maxHeartbeats 8000000 in
theorem rlamp_any (c : Cat) (i : Nat) (w : World) (h : CatIn w.heap.size c w) (hi : i < c.lamps.length) :
    Calls Try.prog 42 #[.agg #[c.tv, c.lv], .int .i64 i] w fun e w' => e = .returned (.int .i64 (lmpErr c.tabs.length c.lamps i)) ∧ Own w.heap.size w w' := by
  obtain ⟨ta, tc, ts, la, lc, ls⟩ := c
  obtain ⟨ht, hl⟩ := h
  dsimp only at ht hl hi ⊢
  have hmt := ht.1
  unfold maxLen at hmt
  clear ht
  have hm := hl.1
  unfold maxLen at hm
  have HT := Lib.hid hl
  obtain ⟨b, o, rfl, hb, hc⟩ := hl.2 (by omega)
  have ti := hc i hi
  clear hc hl
  unfold Cat.tv Cat.lv
  dsimp only
  obtain ⟨d0, d1, c0, c1, c2, c3, c4, c5, c6, c7, c8, c9, c10, c11, c12, c13⟩ := ti
  obtain ⟨l, htt⟩ : ∃ l, lmpAt ls i = l := ⟨_, rfl⟩
  rw [htt] at d0 c0 c1 c2 c3 c4 c5 c6 c7 c8 c9 c10 c11 c12 c13
  have own0 : Own w.heap.size w ((w.alloc (.cells #[.slice ta ts.length tc, .slice (some ⟨b, o, none⟩) ls.length lc] 25)).alloc (.cells #[.string l.name, .int .i64 l.table, .int .i64 l.kind, .int .i64 l.lumens, .int .i64 l.power, .int .i64 l.standing, .int .i64 l.tol, .int .i64 l.alo, .int .i64 l.ahi, .int .i64 l.dlo, .int .i64 l.dhi, .int .i64 l.life, .int .i64 l.dim, .int .i64 l.rest] 82)) := ((Own.refl _ _).alloc (Nat.le_refl _) _).alloc (by simp) _
  have sz0 : ((w.alloc (.cells #[.slice ta ts.length tc, .slice (some ⟨b, o, none⟩) ls.length lc] 25)).alloc (.cells #[.string l.name, .int .i64 l.table, .int .i64 l.kind, .int .i64 l.lumens, .int .i64 l.power, .int .i64 l.standing, .int .i64 l.tol, .int .i64 l.alo, .int .i64 l.ahi, .int .i64 l.dlo, .int .i64 l.dhi, .int .i64 l.life, .int .i64 l.dim, .int .i64 l.rest] 82)).heap.size = w.heap.size + 1 + 1 := by simp
  have lm0 : LmAt w.heap.size ta ts.length tc (some ⟨b, o, none⟩) ls.length lc l ((w.alloc (.cells #[.slice ta ts.length tc, .slice (some ⟨b, o, none⟩) ls.length lc] 25)).alloc (.cells #[.string l.name, .int .i64 l.table, .int .i64 l.kind, .int .i64 l.lumens, .int .i64 l.power, .int .i64 l.standing, .int .i64 l.tol, .int .i64 l.alo, .int .i64 l.ahi, .int .i64 l.dlo, .int .i64 l.dhi, .int .i64 l.life, .int .i64 l.dim, .int .i64 l.rest] 82)) := by
    constructor <;> simp [go_sem]
  have LM0 := Lib.hid lm0
  have OWN0 := Lib.hid own0
  have SZ0 := Lib.hid sz0
  have HTT := Lib.hid htt
  clear lm0 own0 sz0
  have HE : Hid (lmpErr ts.length ls i = if nameB l.name = false then 6 else if lmpIdx ls l.name < i then 5 else if inB l.table 0 ((ts.length : Int) - 1) = false then 4 else if inB l.kind 1 3 = false then 2 else if lampR l = false then 7 else if l.kind = 1 ∧ l.rest ≠ 0 then 2 else 0) := by
    show lmpErr _ ls i = _; rw [← htt]; rfl
  clear htt
  have ew : IntKind.i64.wrap ((ts.length : Int) - 1) = (ts.length : Int) - 1 := IntWalk.i64_in _ (by omega)
  cases hn : nameB l.name
  · have HF : Hid (lmpErr ts.length ls i = 6) := HE.out.trans (if_pos hn)
    have HN := Lib.hid hn
    clear hn
    go_enter Try.func42, Try.ntmps42
    go_wp2_with fail
    refine (rname_any _ _ d0).mono ?_
    rintro e w1 ⟨rfl, rfl⟩
    rw [HN.out]
    go_wp2_with fail
    go_ret
    exact ⟨by rw [HF.out]; rfl, OWN0.out⟩
  · have HN := Lib.hid hn
    clear hn
    go_enter Try.func42, Try.ntmps42
    go_wp2_with fail
    refine (rname_any _ _ d0).mono ?_
    rintro e w1 ⟨rfl, rfl⟩
    rw [HN.out]
    go_wp2_with fail
    clear c0 c1 c2 c3 c4 c5 c6 c7 c8 c9 c10 c11 c12 c13
    generalize ((w.alloc (.cells #[.slice ta ts.length tc, .slice (some ⟨b, o, none⟩) ls.length lc] 25)).alloc (.cells #[.string l.name, .int .i64 l.table, .int .i64 l.kind, .int .i64 l.lumens, .int .i64 l.power, .int .i64 l.standing, .int .i64 l.tol, .int .i64 l.alo, .int .i64 l.ahi, .int .i64 l.dlo, .int .i64 l.dhi, .int .i64 l.life, .int .i64 l.dim, .int .i64 l.rest] 82)) = W1 at *
    go_loopg [6] i (fun n k' wr => ∃ k : Nat, k ≤ i ∧ n = i - k ∧ k' = .int .i64 k ∧ Hid (∀ j, j < k → nmEq (lmpAt ls j).name l.name = false) ∧ Own W1.heap.size W1 wr)
    case atStart => exact ⟨0, by omega, by omega, rfl, fun j hj => absurd hj (by omega), Own.refl _ _⟩
    case round =>
      obtain ⟨k, hk, hn0, rfl, ha, hbw⟩ := hrel
      have HNN := Lib.hid hn0
      clear hn0
      have hsz := hbw.size
      rw [SZ0.out] at hsz
      have SZA := Lib.hid hsz
      have LMA := Lib.hid (LM0.out.keep hbw (by rw [SZ0.out]; omega))
      have OWA := Lib.hid (OWN0.out.trans (hbw.mono (by rw [SZ0.out]; omega)))
      by_cases hlt : k < i
      · obtain ⟨b', o', e', _, hc'⟩ := HT.out.2 (by omega)
        injection e' with e'
        injection e' with e1' e2'
        subst e1' e2'
        have hc0 := ((hc' k (by omega)).keep OWA.out.below (Nat.le_refl _)).c0
        clear hc'
        have hb0 := LMA.out.b1
        have hx0 := LMA.out.x0
        cases hq : nmEq (lmpAt ls k).name l.name
        · have ha' : Hid (∀ j, j < k + 1 → nmEq (lmpAt ls j).name l.name = false) := fun j hj => by
            by_cases e : j = k
            · subst e; exact hq
            · exact ha.out j (by omega)
          unfold nmEq at hq
          go_wp2_with fail
          go_quiet (fail)
          go_wp2_with fail
          go_roundg (i - (k + 1))
          case measure => have := HNN.out; omega
          case rel => exact ⟨k + 1, by omega, rfl, by go_num, ha', hbw.drewN _⟩
        · have HX : lmpIdx ls l.name < i := by
            have := firstN_le (names := fun i => (lmpAt ls i).name) (m := l.name) (n := ls.length) (i := 0) (k := k) (by omega) (by omega) hq
            unfold lmpIdx; omega
          have HF : Hid (lmpErr ts.length ls i = 5) := HE.out.trans ((if_neg (by rw [HN.out]; decide)).trans (if_pos HX))
          clear HX
          unfold nmEq at hq
          go_wp2_with fail
          go_quiet (fail)
          go_wp2_with fail
          go_ret
          exact ⟨by rw [HF.out]; rfl, OWA.out.drewN _⟩
      · obtain rfl : k = i := by omega
        have HX : ¬ lmpIdx ls l.name < k := by
          have := firstN_ge (names := fun i => (lmpAt ls i).name) (m := l.name) (n := ls.length) (i := 0) (k := k) (by omega) (by omega) (fun j _ hj => ha.out j hj) (by show nmEq (lmpAt ls k).name l.name = true; rw [HTT.out]; exact nmEq_refl _)
          unfold lmpIdx; omega
        have P1 : Hid (lmpErr ts.length ls k = if inB l.table 0 ((ts.length : Int) - 1) = false then 4 else if inB l.kind 1 3 = false then 2 else if lampR l = false then 7 else if l.kind = 1 ∧ l.rest ≠ 0 then 2 else 0) := HE.out.trans ((if_neg (by rw [HN.out]; decide)).trans (if_neg HX))
        clear HX HE ha hbw hsz
        have hx1 := LMA.out.x1
        have hb0 := LMA.out.b0
        go_wp2_with fail
        cases q0 : inB l.table 0 ((ts.length : Int) - 1)
        · have HF : Hid (lmpErr ts.length ls k = 4) := P1.out.trans (if_pos q0)
          have Q0 := Lib.hid q0
          clear q0
          refine (rin_is Q0.out _).mono ?_
          rintro e w2 ⟨rfl, rfl⟩
          go_wp2_with fail
          go_ret
          exact ⟨by rw [HF.out]; rfl, OWA.out⟩
        · have P2 : Hid (lmpErr ts.length ls k = if inB l.kind 1 3 = false then 2 else if lampR l = false then 7 else if l.kind = 1 ∧ l.rest ≠ 0 then 2 else 0) := P1.out.trans (if_neg (by rw [q0]; decide))
          clear P1
          have Q0 := Lib.hid q0
          clear q0
          refine (rin_is Q0.out _).mono ?_
          rintro e w2 ⟨rfl, rfl⟩
          clear hx1 hb0
          have hx2 := LMA.out.x2
          go_wp2_with fail
          cases q1 : inB l.kind 1 3
          · have HF : Hid (lmpErr ts.length ls k = 2) := P2.out.trans (if_pos q1)
            have Q1 := Lib.hid q1
            clear q1
            refine (rin_is Q1.out _).mono ?_
            rintro e w2 ⟨rfl, rfl⟩
            go_wp2_with fail
            go_ret
            exact ⟨by rw [HF.out]; rfl, OWA.out⟩
          · have P3 : Hid (lmpErr ts.length ls k = if lampR l = false then 7 else if l.kind = 1 ∧ l.rest ≠ 0 then 2 else 0) := P2.out.trans (if_neg (by rw [q1]; decide))
            clear P2
            have Q1 := Lib.hid q1
            clear q1
            refine (rin_is Q1.out _).mono ?_
            rintro e w2 ⟨rfl, rfl⟩
            clear hx2
            have hx3 := LMA.out.x3
            go_wp2_with fail
            cases q2 : inB l.lumens 1 1000000
            · have HF : Hid (lmpErr ts.length ls k = 7) := P3.out.trans (if_pos (by rw [← refR_eq]; unfold refR; rw [q2]; simp))
              have Q2 := Lib.hid q2
              clear q2
              refine (rin_is Q2.out _).mono ?_
              rintro e w2 ⟨rfl, rfl⟩
              go_wp2_with fail
              go_ret
              exact ⟨by rw [HF.out]; rfl, OWA.out⟩
            · have Q2 := Lib.hid q2
              clear q2
              refine (rin_is Q2.out _).mono ?_
              rintro e w2 ⟨rfl, rfl⟩
              clear hx3
              have hx4 := LMA.out.x4
              go_wp2_with fail
              cases q3 : inB l.power 1 5000000
              · have HF : Hid (lmpErr ts.length ls k = 7) := P3.out.trans (if_pos (by rw [← refR_eq]; unfold refR; rw [q3]; simp))
                have Q3 := Lib.hid q3
                clear q3
                refine (rin_is Q3.out _).mono ?_
                rintro e w2 ⟨rfl, rfl⟩
                go_wp2_with fail
                go_ret
                exact ⟨by rw [HF.out]; rfl, OWA.out⟩
              · have Q3 := Lib.hid q3
                clear q3
                refine (rin_is Q3.out _).mono ?_
                rintro e w2 ⟨rfl, rfl⟩
                clear hx4
                have hx5 := LMA.out.x5
                have hx4 := LMA.out.x4
                go_wp2_with fail
                cases q4 : inB l.standing 0 l.power
                · have HF : Hid (lmpErr ts.length ls k = 7) := P3.out.trans (if_pos (by rw [← refR_eq]; unfold refR; rw [q4]; simp))
                  have Q4 := Lib.hid q4
                  clear q4
                  refine (rin_is Q4.out _).mono ?_
                  rintro e w2 ⟨rfl, rfl⟩
                  go_wp2_with fail
                  go_ret
                  exact ⟨by rw [HF.out]; rfl, OWA.out⟩
                · have Q4 := Lib.hid q4
                  clear q4
                  refine (rin_is Q4.out _).mono ?_
                  rintro e w2 ⟨rfl, rfl⟩
                  clear hx5 hx4
                  have hx6 := LMA.out.x6
                  go_wp2_with fail
                  cases q5 : inB l.tol 0 1000
                  · have HF : Hid (lmpErr ts.length ls k = 7) := P3.out.trans (if_pos (by rw [← refR_eq]; unfold refR; rw [q5]; simp))
                    have Q5 := Lib.hid q5
                    clear q5
                    refine (rin_is Q5.out _).mono ?_
                    rintro e w2 ⟨rfl, rfl⟩
                    go_wp2_with fail
                    go_ret
                    exact ⟨by rw [HF.out]; rfl, OWA.out⟩
                  · have Q5 := Lib.hid q5
                    clear q5
                    refine (rin_is Q5.out _).mono ?_
                    rintro e w2 ⟨rfl, rfl⟩
                    clear hx6
                    have hx7 := LMA.out.x7
                    have hx8 := LMA.out.x8
                    go_wp2_with fail
                    cases q6 : withB l.alo l.ahi 0 1000
                    · have HF : Hid (lmpErr ts.length ls k = 7) := P3.out.trans (if_pos (by rw [← refR_eq]; unfold refR; rw [q6]; simp))
                      have Q6 := Lib.hid q6
                      clear q6
                      refine (rwithin_is Q6.out _).mono ?_
                      rintro e wB ⟨rfl, hbB⟩
                      have OWB := Lib.hid (OWA.out.trans (hbB.mono OWA.out.size))
                      go_wp2_with fail
                      go_ret
                      exact ⟨by rw [HF.out]; rfl, OWB.out⟩
                    · have Q6 := Lib.hid q6
                      clear q6
                      refine (rwithin_is Q6.out _).mono ?_
                      rintro e wB ⟨rfl, hbB⟩
                      have OWB := Lib.hid (OWA.out.trans (hbB.mono OWA.out.size))
                      have LMB := Lib.hid (LMA.out.keep hbB SZA.out)
                      have SZB : Hid (w.heap.size + 1 + 1 ≤ wB.heap.size) := Nat.le_trans SZA.out hbB.size
                      clear hx7 hx8 LMA OWA SZA hbB
                      have hx9 := LMB.out.x9
                      have hx10 := LMB.out.x10
                      go_wp2_with fail
                      cases q7 : withB l.dlo l.dhi 0 1000
                      · have HF : Hid (lmpErr ts.length ls k = 7) := P3.out.trans (if_pos (by rw [← refR_eq]; unfold refR; rw [q7]; simp))
                        have Q7 := Lib.hid q7
                        clear q7
                        refine (rwithin_is Q7.out _).mono ?_
                        rintro e wC ⟨rfl, hbC⟩
                        have OWC := Lib.hid (OWB.out.trans (hbC.mono OWB.out.size))
                        go_wp2_with fail
                        go_ret
                        exact ⟨by rw [HF.out]; rfl, OWC.out⟩
                      · have Q7 := Lib.hid q7
                        clear q7
                        refine (rwithin_is Q7.out _).mono ?_
                        rintro e wC ⟨rfl, hbC⟩
                        have OWC := Lib.hid (OWB.out.trans (hbC.mono OWB.out.size))
                        have LMC := Lib.hid (LMB.out.keep hbC SZB.out)
                        have SZC : Hid (w.heap.size + 1 + 1 ≤ wC.heap.size) := Nat.le_trans SZB.out hbC.size
                        clear hx9 hx10 LMB OWB SZB hbC
                        have hx11 := LMC.out.x11
                        go_wp2_with fail
                        cases q8 : inB l.life 1 200000
                        · have HF : Hid (lmpErr ts.length ls k = 7) := P3.out.trans (if_pos (by rw [← refR_eq]; unfold refR; rw [q8]; simp))
                          have Q8 := Lib.hid q8
                          clear q8
                          refine (rin_is Q8.out _).mono ?_
                          rintro e w2 ⟨rfl, rfl⟩
                          go_wp2_with fail
                          go_ret
                          exact ⟨by rw [HF.out]; rfl, OWC.out⟩
                        · have Q8 := Lib.hid q8
                          clear q8
                          refine (rin_is Q8.out _).mono ?_
                          rintro e w2 ⟨rfl, rfl⟩
                          clear hx11
                          have hx12 := LMC.out.x12
                          go_wp2_with fail
                          cases q9 : inB l.dim 0 1000
                          · have HF : Hid (lmpErr ts.length ls k = 7) := P3.out.trans (if_pos (by rw [← refR_eq]; unfold refR; rw [q9]; simp))
                            have Q9 := Lib.hid q9
                            clear q9
                            refine (rin_is Q9.out _).mono ?_
                            rintro e w2 ⟨rfl, rfl⟩
                            go_wp2_with fail
                            go_ret
                            exact ⟨by rw [HF.out]; rfl, OWC.out⟩
                          · have Q9 := Lib.hid q9
                            clear q9
                            refine (rin_is Q9.out _).mono ?_
                            rintro e w2 ⟨rfl, rfl⟩
                            clear hx12
                            have hx13 := LMC.out.x13
                            go_wp2_with fail
                            cases q10 : inB l.rest 0 3600
                            · have HF : Hid (lmpErr ts.length ls k = 7) := P3.out.trans (if_pos (by rw [← refR_eq]; unfold refR; rw [q10]; simp))
                              have Q10 := Lib.hid q10
                              clear q10
                              refine (rin_is Q10.out _).mono ?_
                              rintro e w2 ⟨rfl, rfl⟩
                              go_wp2_with fail
                              go_ret
                              exact ⟨by rw [HF.out]; rfl, OWC.out⟩
                            · have Q10 := Lib.hid q10
                              clear q10
                              refine (rin_is Q10.out _).mono ?_
                              rintro e w2 ⟨rfl, rfl⟩
                              clear hx13
                              have P4 : Hid (lmpErr ts.length ls k = if l.kind = 1 ∧ l.rest ≠ 0 then 2 else 0) := P3.out.trans (if_neg (by rw [← refR_eq]; unfold refR; rw [Q2.out, Q3.out, Q4.out, Q5.out, Q6.out, Q7.out, Q8.out, Q9.out, Q10.out]; decide))
                              clear P3
                              have hx2 := LMC.out.x2
                              have hx13 := LMC.out.x13
                              by_cases hk1 : l.kind = 1
                              · have hk2 : (l.kind == 1) = true := by simp [hk1]
                                by_cases hr : l.rest = 0
                                · have HF : Hid (lmpErr ts.length ls k = 0) := P4.out.trans (if_neg (fun h => h.2 hr))
                                  have hr2 : (l.rest != 0) = false := by simp [hr]
                                  clear hk1 hr
                                  go_wp2_with fail
                                  go_ret
                                  exact ⟨by rw [HF.out]; rfl, OWC.out⟩
                                · have HF : Hid (lmpErr ts.length ls k = 2) := P4.out.trans (if_pos ⟨hk1, hr⟩)
                                  have hr2 : (l.rest != 0) = true := by simp [hr]
                                  clear hk1 hr
                                  go_wp2_with fail
                                  go_ret
                                  exact ⟨by rw [HF.out]; rfl, OWC.out⟩
                              · have hk2 : (l.kind == 1) = false := by simp [hk1]
                                have HF : Hid (lmpErr ts.length ls k = 0) := P4.out.trans (if_neg (fun h => hk1 h.1))
                                clear hk1
                                go_wp2_with fail
                                go_ret
                                exact ⟨by rw [HF.out]; rfl, OWC.out⟩
end Go.Proofs.Ytgmpipciinphiaa
