/- The walk of LampBrighter. -/
import Derived.Test.YtgmpipciinphiaaBrm
import Derived.Test.YtgmpipciinphiaaAwk
import Derived.Test.YtgmpipciinphiaaOpa
namespace Go.Proofs.Ytgmpipciinphiaa
set_option linter.unusedSimpArgs false
set_option linter.unusedVariables false
open Go.RowKit
attribute [local go_sem ↓] Go.wp_at_zero Go.wp_at_succ

theorem infoRows : (Try.prog.info? 58).map (fun i => (i.zero, i.size, i.bytes)) = some (some (.slice none 0 0), 1, 24) := by kernel_rfl
theorem infoTab : (Try.prog.info? 61).map (fun i => (i.zero, i.size, i.bytes)) = some (some (.agg #[.string ⟨#[]⟩, .slice none 0 0, .slice none 0 0, .slice none 0 0, .int .i64 0, .int .i64 0]), 6, 104) := by kernel_rfl

set_option maxRecDepth 100000 in
set_option maxHeartbeats 4000000 in
theorem brighter_bad (c : Cat) (n x y h : Int) (A : Option Addr) (q : Nat) (bs : List Int) (w : World) (hc : CatIn w.heap.size c w) (hz : errOf c n c.tabs.length ≠ 0) :
    Calls Try.prog 13 #[.agg #[c.tv, c.lv], .agg #[.int .i64 n, .int .i64 x, .int .i64 y, .int .i64 h], .slice A bs.length q] w fun e w' => e = .returned (.bool true) ∧ Below w.heap.size w w' := by
  have hml := hc.tabs.1
  unfold maxLen at hml
  have HC := Lib.hid hc
  clear hc
  have CI := Lib.hid (fun (W : World) (g : Below w.heap.size w W) => (HC.out.keep g (Nat.le_refl _)).more g.size)
  have K := Lib.hid (fun W (g : CatIn W.heap.size c W) => check_any c W g)
  have hq : chkE c ≠ 0 ∨ (chkE c = 0 ∧ (n < 0 ∨ (0 ≤ n ∧ (c.tabs.length : Int) ≤ n))) := by
    by_cases h0 : chkE c = 0
    · right
      refine ⟨h0, ?_⟩
      have : inB n 0 ((c.tabs.length : Int) - 1) = false := by
        cases hi : inB n 0 ((c.tabs.length : Int) - 1)
        · rfl
        · exfalso; apply hz; unfold errOf; rw [if_neg (fun hh => hh h0), if_neg (by rw [hi]; decide)]
      by_cases hn : n < 0
      · exact .inl hn
      · right
        refine ⟨by omega, ?_⟩
        refine Int.not_lt.1 fun hh => ?_
        rw [inB_iff.2 ⟨by omega, by omega⟩] at this; cases this
    · exact .inl h0
  clear hz
  unfold Cat.tv Cat.lv chkV at *
  generalize chkP c = p at *
  generalize chkA c = a at *
  generalize chkE c = er at *
  have bw0 : Below w.heap.size w ((w.alloc (.cells #[.slice c.ta c.tabs.length c.tc, .slice c.la c.lamps.length c.lc] 25)).alloc (.cells #[.int .i64 n, .int .i64 x, .int .i64 y, .int .i64 h] 33)) := ((Below.refl _ _).alloc (Nat.le_refl _) _).alloc (by simp) _
  have ka0 : Kpl2 c n x y h w.heap.size ((w.alloc (.cells #[.slice c.ta c.tabs.length c.tc, .slice c.la c.lamps.length c.lc] 25)).alloc (.cells #[.int .i64 n, .int .i64 x, .int .i64 y, .int .i64 h] 33)) := by constructor <;> simp [go_sem]
  have BW0 := Lib.hid bw0
  have KA0 := Lib.hid ka0
  clear bw0 ka0
  rcases hq with h0 | ⟨rfl, h0⟩
  · have b2 : (er != 0) = true := by simpa using h0
    clear h0
    go_enter Try.func13, Try.ntmps13
    go_wp2_with fail
    generalize ((w.alloc (.cells #[.slice c.ta c.tabs.length c.tc, .slice c.la c.lamps.length c.lc] 25)).alloc (.cells #[.int .i64 n, .int .i64 x, .int .i64 y, .int .i64 h] 33)) = W0 at *
    with_reducible refine Calls.mono (K.out _ (CI.out _ BW0.out)) ?_
    rintro e w1 ⟨rfl, o1⟩
    have BW1 := Lib.hid (BW0.out.trans (o1.below.mono BW0.out.size))
    clear o1
    go_wp2_with fail
    with_reducible refine Calls.mono (awake_any _) ?_
    rintro e w3 ⟨rfl, b3'⟩
    go_wp2_with fail
    go_ret
    exact ⟨rfl, BW1.out.trans (b3'.mono BW1.out.size)⟩
  · rcases h0 with h0 | ⟨h0, h1⟩
    · have d1 : decide (n < 0) = true := decide_eq_true h0
      go_enter Try.func13, Try.ntmps13
      go_wp2_with fail
      generalize ((w.alloc (.cells #[.slice c.ta c.tabs.length c.tc, .slice c.la c.lamps.length c.lc] 25)).alloc (.cells #[.int .i64 n, .int .i64 x, .int .i64 y, .int .i64 h] 33)) = W0 at *
      with_reducible refine Calls.mono (K.out _ (CI.out _ BW0.out)) ?_
      rintro e w1 ⟨rfl, o1⟩
      have BW1 := Lib.hid (BW0.out.trans (o1.below.mono BW0.out.size))
      obtain ⟨t0, t1, b0, b1, b2, b3⟩ := KA0.out.keep o1.below KA0.out.lt
      clear o1
      go_wp2_with fail
      with_reducible refine Calls.mono (awake_any _) ?_
      rintro e w3 ⟨rfl, b3'⟩
      go_wp2_with fail
      go_ret
      exact ⟨rfl, BW1.out.trans (b3'.mono BW1.out.size)⟩
    · have d1 : decide (n < 0) = false := decide_eq_false (by omega)
      have d2 : decide ((c.tabs.length : Int) ≤ n) = true := decide_eq_true h1
      go_enter Try.func13, Try.ntmps13
      go_wp2_with fail
      generalize ((w.alloc (.cells #[.slice c.ta c.tabs.length c.tc, .slice c.la c.lamps.length c.lc] 25)).alloc (.cells #[.int .i64 n, .int .i64 x, .int .i64 y, .int .i64 h] 33)) = W0 at *
      with_reducible refine Calls.mono (K.out _ (CI.out _ BW0.out)) ?_
      rintro e w1 ⟨rfl, o1⟩
      have BW1 := Lib.hid (BW0.out.trans (o1.below.mono BW0.out.size))
      obtain ⟨t0, t1, b0, b1, b2, b3⟩ := KA0.out.keep o1.below KA0.out.lt
      clear o1
      go_wp2_with fail
      with_reducible refine Calls.mono (awake_any _) ?_
      rintro e w3 ⟨rfl, b3'⟩
      go_wp2_with fail
      go_ret
      exact ⟨rfl, BW1.out.trans (b3'.mono BW1.out.size)⟩

set_option maxRecDepth 100000 in
set_option maxHeartbeats 8000000 in
theorem brighter_good (c : Cat) (m : Nat) (x y h : Int) (A : Option Addr) (q : Nat) (bs : List Int) (w : World) (hc : CatIn w.heap.size c w) (hz : chkE c = 0) (hm : m < c.tabs.length) (hby : BytesIn w.heap.size A bs w) (bb : ∀ j, j < bs.length → 0 ≤ nth bs j ∧ nth bs j ≤ 255) :
    Calls Try.prog 13 #[.agg #[c.tv, c.lv], .agg #[.int .i64 m, .int .i64 x, .int .i64 y, .int .i64 h], .slice A bs.length q] w fun e w' => e = .returned (.bool true) ∧ Below w.heap.size w w' := by
  have ok := (catOk_of hz).tab m hm
  have hnt := (catOk_of hz).nt
  have hbl := hby.1
  have hml := hc.tabs.1
  unfold maxLen at hbl hml
  have HC := Lib.hid hc
  have HB := Lib.hid hby
  clear hc hby
  have CI := Lib.hid (fun (W : World) (g : Below w.heap.size w W) => (HC.out.keep g (Nat.le_refl _)).more g.size)
  have K := Lib.hid (fun W (g : CatIn W.heap.size c W) => check_any c W g)
  obtain ⟨s0, s1, s2, s3, s4, s5, s6⟩ : _ ∧ _ ∧ _ ∧ _ ∧ _ ∧ _ ∧ _ := ⟨trivial, trivial, trivial, trivial, trivial, trivial, trivial⟩
  clear s0 s1 s2 s3 s4 s5 s6
  have ANS := Lib.hid (fun (d : Tab) (g cg : Nat) (hd : Brt bs (tabAt c.tabs m) d) => brt_answers (A := some ⟨g, 0, none⟩) (tc := cg) hz hm hd bb x y h)
  have SC := Lib.hid (fun W (g : CatIn W.heap.size c W) => Share_any c m 1 W g)
  have IC := Lib.hid (fun W (g : CatIn W.heap.size c W) => Intensity_any c m x y h W g)
  have SD := Lib.hid (fun (d : Tab) (g cg : Nat) W (k : CatIn W.heap.size { c with ta := some ⟨g, 0, none⟩, tc := cg, tabs := c.tabs.set m d } W) => Share_any { c with ta := some ⟨g, 0, none⟩, tc := cg, tabs := c.tabs.set m d } m 1 W k)
  have ID := Lib.hid (fun (d : Tab) (g cg : Nat) W (k : CatIn W.heap.size { c with ta := some ⟨g, 0, none⟩, tc := cg, tabs := c.tabs.set m d } W) => Intensity_any { c with ta := some ⟨g, 0, none⟩, tc := cg, tabs := c.tabs.set m d } m x y h W k)
  have HP := Lib.hid (show chkV c = .tuple #[.int .i64 (chkP c), .int .i64 (chkA c), .int .i64 0] by unfold chkV; rw [hz])
  have K2 := Lib.hid (fun W (g : CatIn W.heap.size c W) => by have := K.out W g; rw [HP.out] at this; exact this)
  have HZ := Lib.hid hz
  clear K hz
  have TA := Lib.hid (fun (W : World) (g : Below w.heap.size w W) => tabAt_cells (HC.out.keep g (Nat.le_refl _)) hm)
  have TAB := Lib.hid (fun (W : World) (g : Below w.heap.size w W) => (HC.out.keep g (Nat.le_refl _)).tabs)
  have BY := Lib.hid (fun (W : World) (g : Below w.heap.size w W) => HB.out.keep g (Nat.le_refl _))
  have OK := Lib.hid ok
  have BBs := Lib.hid bb
  have HM := Lib.hid hm
  clear bb
  unfold Cat.tv Cat.lv at *
  generalize chkP c = pp at *
  generalize chkA c = aa at *
  have bw0 : Below w.heap.size w ((w.alloc (.cells #[.slice c.ta c.tabs.length c.tc, .slice c.la c.lamps.length c.lc] 25)).alloc (.cells #[.int .i64 m, .int .i64 x, .int .i64 y, .int .i64 h] 33)) := ((Below.refl _ _).alloc (Nat.le_refl _) _).alloc (by simp) _
  have ka0 : Kpl2 c m x y h w.heap.size ((w.alloc (.cells #[.slice c.ta c.tabs.length c.tc, .slice c.la c.lamps.length c.lc] 25)).alloc (.cells #[.int .i64 m, .int .i64 x, .int .i64 y, .int .i64 h] 33)) := by constructor <;> simp [go_sem]
  have BW0 := Lib.hid bw0
  have KA0 := Lib.hid ka0
  clear bw0 ka0
  have d1 : decide ((m : Int) < 0) = false := decide_eq_false (by omega)
  have d2 : decide ((c.tabs.length : Int) ≤ (m : Int)) = false := decide_eq_false (by omega)
  have d3 : (0 : Int) ≤ (m : Int) := by omega
  have d4 : (m : Int) < (c.tabs.length : Int) := by omega
  obtain ⟨i0, hi0, hz0, hz1, hz2⟩ := info_parts infoTab
  have q1 : 0 + c.tabs.length ≤ maxLen := by unfold maxLen; omega
  have q2 : (0 + c.tabs.length) * 104 ≤ 140737488355328 := by omega
  have hlen0 := ok.rows
  have hcol := ok.row
  have nu0 := ok.us.n0
  have nu1 := ok.us.n1
  have nv0 := ok.vs.n0
  have nv1 := ok.vs.n1
  obtain ⟨tb, tt, hta, htb, hti⟩ := (TAB.out w (Below.refl _ _)).2 (by omega)
  clear hlen0 hcol ok
  have HTA := Lib.hid hta
  clear hta
  go_enter Try.func13, Try.ntmps13
  go_wp2_with fail
  generalize ((w.alloc (.cells #[.slice c.ta c.tabs.length c.tc, .slice c.la c.lamps.length c.lc] 25)).alloc (.cells #[.int .i64 m, .int .i64 x, .int .i64 y, .int .i64 h] 33)) = W0 at *
  with_reducible refine Calls.mono (K2.out _ (CI.out _ BW0.out)) ?_
  rintro e w1 ⟨rfl, o1⟩
  have BW1 := Lib.hid (BW0.out.trans (o1.below.mono BW0.out.size))
  have KA1 := Lib.hid (KA0.out.keep o1.below KA0.out.lt)
  obtain ⟨t0, t1, b0, b1, b2, b3⟩ := KA1.out
  have lt1 := KA1.out.lt
  have lt2 : w.heap.size < w1.heap.size := by omega
  have ne1 : w.heap.size ≠ w1.heap.size := by omega
  have ne2 : w.heap.size + 1 ≠ w1.heap.size := by omega
  have ne3 : w.heap.size ≠ w1.heap.size + 1 := by omega
  have ne4 : w.heap.size + 1 ≠ w1.heap.size + 1 := by omega
  rw [HTA.out] at t0
  clear o1
  have hsrc := tnews_src (w := (w1.alloc (.cells #[.slice (some ⟨tb, tt, none⟩) c.tabs.length c.tc, .slice c.la c.lamps.length c.lc] 25)).alloc (.cells #[] 61)) (b := tb) (o := tt) (B := w.heap.size) (ts := c.tabs) (fun i hi => (hti i hi).keep (((BW1.out).alloc BW1.out.size _).alloc (by have := BW1.out.size; simp; omega) _) (Nat.le_refl _))
  have hown0 : ((w1.alloc (.cells #[.slice (some ⟨tb, tt, none⟩) c.tabs.length c.tc, .slice c.la c.lamps.length c.lc] 25)).alloc (.cells #[] 61)).ownsRow (w1.heap.size + 1) 61 6 (.slice (some ⟨w1.heap.size + 1, 0, none⟩) 0 0) 0 [] := by
    refine ⟨rfl, .inr ⟨w1.heap.size + 1, 0, #[], rfl, Nat.le_refl _, ?_, Nat.le_refl _, Nat.zero_le _, rfl, rfl⟩⟩
    have := heap_alloc_new (w1.alloc (.cells #[.slice (some ⟨tb, tt, none⟩) c.tabs.length c.tc, .slice c.la c.lamps.length c.lc] 25)) (.cells #[] 61)
    rw [World.size_alloc] at this
    exact this
  go_wp2_with (at_builtin; refine wpList_append_own _ rfl (.tmp 43) (.tmp 45) 22 rfl (w1.heap.size + 1) 61 i0 _ 6 104 Try.underlying22 hi0 hz0 hz1 hz2 rfl (by decide) _ 0 [] rfl hown0 ⟨tb, tt, none⟩ c.tabs.length c.tc (tnews c.tabs) rfl (tnews_len _) hsrc (tnews_one _) q1 q2 (by simp) ?_)
  intro v' w2 ho hg _
  obtain ⟨g, cg, cur, hv', hgb, hgo⟩ : ∃ g cg cur, v' = .slice (some ⟨g, 0, none⟩) c.tabs.length cg ∧ w1.heap.size + 1 ≤ g ∧ w2.heap[g]? = some (.cells cur 61 (0, 0)) := by
    rcases ho.2 with ⟨_, h0⟩ | ⟨g, cap, cur, hv, hb, hc, _⟩
    · omega
    · exact ⟨g, cap, cur, hv, hb, hc⟩
  subst hv'
  have hbk : ∀ p : Addr, p.block ≤ w1.heap.size → w2.cell? p = ((w1.alloc (.cells #[.slice (some ⟨tb, tt, none⟩) c.tabs.length c.tc, .slice c.la c.lamps.length c.lc] 25)).alloc (.cells #[] 61)).cell? p := fun p hp =>
    World.cell?_of_block (hg.block p.block (by simp; omega) (by intro e; simp [Value.ownBlock] at e; omega))
  have kD0 : w2.cell? ⟨w1.heap.size, 0, none⟩ = some (.slice (some ⟨tb, tt, none⟩) c.tabs.length c.tc) := by rw [hbk _ (Nat.le_refl _)]; simp [go_sem]
  have kD1 : w2.cell? ⟨w1.heap.size, 1, none⟩ = some (.slice c.la c.lamps.length c.lc) := by rw [hbk _ (Nat.le_refl _)]; simp [go_sem]
  have kf0 : w2.frozen? ⟨w1.heap.size, 0, none⟩ = false := by
    rw [World.frozen?_of_block (a := ⟨w1.heap.size, 0, none⟩) (hg.block w1.heap.size (by simp; omega) (by intro e; simp [Value.ownBlock] at e))]; simp [go_sem]
  have kp : Kpl2 c m x y h w.heap.size w2 := by
    obtain ⟨k0, k1, k2, k3, k4, k5⟩ := KA1.out
    refine ⟨?_, ?_, ?_, ?_, ?_, ?_⟩
    all_goals rw [hbk _ (by first | (show w.heap.size ≤ w1.heap.size; omega) | (show w.heap.size + 1 ≤ w1.heap.size; omega))]
    all_goals simp [go_sem, k0, k1, k2, k3, k4, k5, ne1, ne2, ne3, ne4, lt2, lt1]
  have bw2 : Below w.heap.size w w2 := by
    have h1 := (BW1.out.alloc BW1.out.size (.cells #[.slice (some ⟨tb, tt, none⟩) c.tabs.length c.tc, .slice c.la c.lamps.length c.lc] 25)).alloc (by have := BW1.out.size; simp; omega) (.cells #[] 61)
    exact ⟨hg.os.trans h1.os, hg.tape.trans h1.tape, hg.output.trans h1.output, Nat.le_trans h1.size hg.size, fun j hj => (hg.block j (by simp; omega) (by intro e; simp [Value.ownBlock] at e; omega)).trans (h1.block j hj)⟩
  have tc0 := TC.of_own ho
  have cm3 := tc0 m HM.out 3 (by omega)
  have gl0 : g < w2.heap.size := (Array.getElem?_eq_some_iff.1 hgo).1
  have fr0 : w2.frozen? ⟨g, m * 6 + 3, none⟩ = false := by simp [World.frozen?, hgo]
  have ngD : w1.heap.size ≠ g := by omega
  have ngs : w.heap.size ≠ g := by omega
  have ngp : w.heap.size + 1 ≠ g := by omega
  have BK0 : Hid (BrK c m x y h w1.heap.size g cg none 0 [] w ((w2.setCell ⟨w1.heap.size, 0, none⟩ (.slice (some ⟨g, 0, none⟩) c.tabs.length cg)).setCell ⟨g, m * 6 + 3, none⟩ (.slice none 0 0))) := Lib.hid (by
    obtain ⟨k0, k1, k2, k3, k4, k5⟩ := kp
    have ts : c.tabs.set m (tabAt c.tabs m) = c.tabs := by
      unfold tabAt; rw [List.getElem?_eq_getElem HM.out]; simp
    refine ⟨?_, ?_, ?_, ?_, ?_, ?_, ?_, ?_, ?_, ?_, ⟨rfl, .inl ⟨rfl, rfl⟩⟩, fun r hr => by simp at hr, ?_, by omega, by omega, by simpa using gl0⟩
    · simp [go_sem, k0, ne1, ngs]
    · simp [go_sem, k1, ne1, ngs]
    · simp [go_sem, k2, ne2, ngp]
    · simp [go_sem, k3, ne2, ngp]
    · simp [go_sem, k4, ne2, ngp]
    · simp [go_sem, k5, ne2, ngp]
    · simp [go_sem, kD0, ngD]
    · simp [go_sem, kD1, ngD]
    · have h1 : TC (w2.setCell ⟨w1.heap.size, 0, none⟩ (.slice (some ⟨g, 0, none⟩) c.tabs.length cg)) g (c.tabs.set m (tabAt c.tabs m)) := by
        rw [ts]
        exact tc0.keep (Below.heap_setCell _ _ _ g (Ne.symm ngD))
      exact h1.set (t' := dcur c m none 0 []) HM.out rfl rfl rfl rfl rfl
    · simp [go_sem, fr0]
    · exact (bw2.setCell (p := ⟨w1.heap.size, 0, none⟩) (by show w.heap.size ≤ w1.heap.size; omega) _).setCell (p := ⟨g, m * 6 + 3, none⟩) (by show w.heap.size ≤ g; omega) _)
  have pb0 := kp.b0
  have cm4 : w2.cell? ⟨g, m * 6 + 3, none⟩ = some (.slice (tabAt c.tabs m).ra (tabAt c.tabs m).rows.length (tabAt c.tabs m).rc) := cm3
  clear hown0 hsrc ho hg hbk bw2 tc0 cm3 kp t0 t1 b0 b1 b2 b3 hgo
  go_wp2_with fail
  generalize ((w2.setCell ⟨w1.heap.size, 0, none⟩ (.slice (some ⟨g, 0, none⟩) c.tabs.length cg)).setCell ⟨g, m * 6 + 3, none⟩ (.slice none 0 0)) = W3 at *
  clear kD0 kD1 kf0 gl0 fr0 cm4 pb0 ngD ngs ngp
  generalize w1.heap.size = D at *
  have RL := Lib.hid OK.out.rows
  have CLs := Lib.hid OK.out.row
  obtain ⟨ii, hi1, hy0, hy1, hy2⟩ := info_parts infoInt
  obtain ⟨ir, hr1, hr0, hr2, hr3⟩ := info_parts infoRows
  have TR := Lib.hid (show ∀ (W : World), Below w.heap.size w W → (W.cell? ⟨tb, tt + m * 6 + 3, none⟩ = some (.slice (tabAt c.tabs m).ra (tabAt c.tabs m).rows.length (tabAt c.tabs m).rc)) from fun W gW => by
    have := (hti m HM.out).keep gW (Nat.le_refl _)
    exact this.c3)
  have RW := Lib.hid (fun (W : World) (gW : Below w.heap.size w W) => ((hti m HM.out).keep gW (Nat.le_refl _)).rows)
  clear hti lt1 lt2 ne1 ne2 ne3 ne4 q1 q2
  have HMg := Lib.hid hgb
  clear hgb
  have TS := Lib.hid (show tabAt c.tabs m = tabAt c.tabs m from rfl)
  clear TS
  have rws : (tabAt c.tabs m).rows.length ≤ 12 := by have := RL.out; omega
  obtain ⟨R, hR⟩ : ∃ R, (tabAt c.tabs m).rows.length = R := ⟨_, rfl⟩
  obtain ⟨V, hV⟩ : ∃ V, (tabAt c.tabs m).vs.xs.length = V := ⟨_, rfl⟩
  have HR := Lib.hid hR
  have HV := Lib.hid hV
  rw [hR] at rws
  rw [hV] at nv0 nv1
  clear hR hV nu0 nu1
  go_loopg [12, 13] R (fun n' cnt i' wr => ∃ (i qn : Nat) (A1 : Option Addr) (C1 : Nat) (rs : List Ints), i ≤ R ∧ n' = R - i ∧ cnt = .int .i64 qn ∧ i' = .int .i64 i ∧ Hid (qn = i * V ∧ rs.length = i ∧ ∀ r, r < i → (rowAt rs r).xs = brRow bs (r * V) (rowAt (tabAt c.tabs m).rows r).xs V) ∧ Hid (BrK c m x y h D g cg A1 C1 rs w wr))
  case atStart => exact ⟨0, 0, none, 0, [], by omega, by omega, rfl, rfl, Lib.hid ⟨by simp, rfl, fun r hr => by omega⟩, BK0⟩
  case round =>
    clear BK0
    obtain ⟨i, qn, A1, C1, rs, hi, hn0, rfl, rfl, HQ, BK⟩ := hrel
    have HN := Lib.hid hn0
    clear hn0
    have cA0 := BK.out.a0
    rw [HTA.out] at cA0
    have cP0 := BK.out.p0
    have cT := TR.out _ BK.out.b
    rw [HR.out] at cT
    by_cases hlt : i < R
    · have hlt' : (i : Int) < (R : Int) := by omega
      have hlt0 : (0 : Int) ≤ (i : Int) := by omega
      obtain ⟨rb, ro, hra, hrb, hrc⟩ := (RW.out _ BK.out.b).2 (by rw [HR.out]; omega)
      have cR := (hrc i (by rw [HR.out]; omega)).1
      have rowI := (hrc i (by rw [HR.out]; omega)).2
      have rlen := CLs.out i (by rw [HR.out]; omega)
      rw [HV.out] at rlen
      unfold Ints.val at cR
      obtain ⟨xb, xo, hxa, hxb, hxc⟩ := rowI.2 (by omega)
      rw [hxa, rlen] at cR
      have HRA := Lib.hid hra
      rw [hra] at cT
      have XC := Lib.hid (show ∀ (W : World), Below wr.heap.size wr W → ∀ k, k < V → W.cell? ⟨xb, xo + k, none⟩ = some (.int .i64 (nth (rowAt (tabAt c.tabs m).rows i).xs k)) from fun W hW k hk => by
        rw [hW.cell (p := ⟨xb, xo + k, none⟩) (Nat.lt_of_lt_of_le hxb BK.out.b.size)]; exact hxc k (by omega))
      have XI := Lib.hid (show ∀ k, k < V → 0 ≤ nth (rowAt (tabAt c.tabs m).rows i).xs k ∧ nth (rowAt (tabAt c.tabs m).rows i).xs k ≤ 10000000 from fun k hk => ⟨OK.out.v0 i k (by rw [HR.out]; omega) (by rw [HV.out]; omega), OK.out.v1 i k (by rw [HR.out]; omega) (by rw [HV.out]; omega)⟩)
      have CC := Lib.hid (show ∀ (W : World), Below wr.heap.size wr W → (W.cell? ⟨w.heap.size, 0, none⟩ = some (.slice (some ⟨tb, tt, none⟩) c.tabs.length c.tc) ∧ W.cell? ⟨w.heap.size + 1, 0, none⟩ = some (.int .i64 m) ∧ W.cell? ⟨tb, tt + m * 6 + 3, none⟩ = some (.slice (some ⟨rb, ro, none⟩) R (tabAt c.tabs m).rc) ∧ W.cell? ⟨rb, ro + i, none⟩ = some (.slice (some ⟨xb, xo, none⟩) V (rowAt (tabAt c.tabs m).rows i).c)) from fun W hW => by
        have sb := BK.out.sd
        have gg := BK.out.dg
        have gl := BK.out.gl
        exact ⟨by rw [hW.cell (p := ⟨w.heap.size, 0, none⟩) (by show w.heap.size < _; omega)]; exact cA0, by rw [hW.cell (p := ⟨w.heap.size + 1, 0, none⟩) (by show w.heap.size + 1 < _; omega)]; exact cP0,
          by rw [hW.cell (p := ⟨tb, tt + m * 6 + 3, none⟩) (Nat.lt_of_lt_of_le htb BK.out.b.size)]; exact cT, by rw [hW.cell (p := ⟨rb, ro + i, none⟩) (Nat.lt_of_lt_of_le hrb BK.out.b.size)]; exact cR⟩)
      clear hra hrc rowI rlen hxa hxc hxb hrb
      go_wp2_with fail
      obtain ⟨wo, rfl⟩ : ∃ wo : World, wo = wr := ⟨_, rfl⟩
      go_loopg [12, 14, 15] V (fun n' cnt l' k' wr => ∃ (k qn : Nat), k ≤ V ∧ n' = V - k ∧ cnt = .int .i64 qn ∧ k' = .int .i64 k ∧ Hid (qn = i * V + k) ∧ Hid (wr.ownsRow wo.heap.size 3 1 l' (brRow bs (i * V) (rowAt (tabAt c.tabs m).rows i).xs k).length ((brRow bs (i * V) (rowAt (tabAt c.tabs m).rows i).xs k).map (Value.int .i64))) ∧ Hid (Below wo.heap.size wo wr))
      case atStart => exact ⟨0, qn, by omega, by omega, rfl, rfl, Lib.hid (by rw [HQ.out.1]; rfl), Lib.hid ⟨rfl, .inl ⟨rfl, rfl⟩⟩, Lib.hid (Below.refl _ _)⟩
      case round =>
        obtain ⟨k, qk, hk, hn0, rfl, rfl, HK, OWN, HBz⟩ := hrel
        have HN2 := Lib.hid hn0
        clear hn0 cA0 cP0 cT cR
        obtain ⟨cA, cP, cT, cR⟩ := CC.out _ HBz.out
        by_cases hlk : k < V
        · have hlk' : (k : Int) < (V : Int) := by omega
          have hlk0 : (0 : Int) ≤ (k : Int) := by omega
          have cX := XC.out _ HBz.out k hlk
          have xi := XI.out k hlk
          have hsucc := brRow_succ bs (i * V) (rowAt (tabAt c.tabs m).rows i).xs k
          have hlen := brRow_len bs (i * V) (rowAt (tabAt c.tabs m).rows i).xs k
          have hqv : qk ≤ 156 := by
            have h1 := HK.out
            have h2 : i * V ≤ 12 * 12 := Nat.mul_le_mul (by omega) (by omega)
            omega
          have hq0 : (0 : Int) ≤ (qk : Int) := by omega
          have ex1 : IntKind.i64.wrap ((qk : Int) + 1) = (qk : Int) + 1 := IntWalk.i64_in _ (by omega)
          obtain ⟨xv, hxv⟩ : ∃ xv, nth (rowAt (tabAt c.tabs m).rows i).xs k = xv := ⟨_, rfl⟩
          rw [hxv] at cX xi hsucc
          have hbq := HK.out
          rw [← hbq] at hsucc
          have q1 : (brRow bs (i * V) (rowAt (tabAt c.tabs m).rows i).xs k).length + 1 ≤ maxLen := by rw [hlen]; unfold maxLen; omega
          have q2 : ((brRow bs (i * V) (rowAt (tabAt c.tabs m).rows i).xs k).length + 1) * 8 ≤ 140737488355328 := by rw [hlen]; omega
          have OW1 := OWN.out
          have HS := Lib.hid hsucc
          have HL := Lib.hid hlen
          generalize brRow bs (i * V) (rowAt (tabAt c.tabs m).rows i).xs k = pre at *
          have XV := Lib.hid hxv
          have HKQ := Lib.hid HK.out
          clear hsucc hlen hxv hbq OWN HK
          by_cases hmo : qk < bs.length
          · obtain ⟨bb, bo, hba, hbb, hbc⟩ := (BY.out _ (BK.out.b.trans (HBz.out.mono BK.out.b.size))).2 (by omega)
            have cB := hbc qk hmo
            have bd := BBs.out qk hmo
            have hmo' : (qk : Int) < (bs.length : Int) := by omega
            obtain ⟨mv, hmv⟩ : ∃ mv, min (xv + nth bs qk) 10000000 = mv := ⟨_, rfl⟩
            have HT := Lib.hid (show brt bs qk xv = mv by rw [← hmv]; exact if_pos hmo)
            have ey : IntKind.i64.wrap (xv + nth bs qk) = xv + nth bs qk := IntWalk.i64_in _ (by omega)
            have ez : IntKind.i64.wrap (nth bs qk) = nth bs qk := IntWalk.i64_in _ (by omega)
            subst hba
            clear hbc hbb
            go_wp2_with (at_builtin; refine wpList_append_own _ rfl (.tmp 110) (.tmp 112) 58 rfl wo.heap.size 3 ii (.int .i64 0) 1 8 Try.underlying58 hi1 hy0 hy1 hy2 rfl (by decide) u14 pre.length (pre.map (Value.int .i64)) ?az1 ?az2 ⟨wr.heap.size, 0, none⟩ 1 1 [.int .i64 mv] ?az3 ?az4 ?az5 ?az6 ?az7 ?az8 ?az9 ?az0; (case az1 => rfl); (case az2 => exact OW1.alloc _); (case az3 => rfl); (case az4 => rfl); (case az5 => exact cell_one_new _ _ _); (case az6 => simp [Value.oneCell']); (case az7 => exact q1); (case az8 => exact q2); (case az9 => have := HBz.out.size; simp; omega))
            intro v2 w2 hown2 hgrow2 _
            have HB2 : Hid (Below wo.heap.size wo w2) := Lib.hid ((HBz.out.alloc HBz.out.size (.cells #[.int .i64 mv] 3)).grown hgrow2 (by have := HBz.out.size; simp; omega) (fun j hj => ((OW1.alloc (.cells #[.int .i64 mv] 3)).lt j hj).1))
            have HO2 : Hid (w2.ownsRow wo.heap.size 3 1 v2 (brRow bs (i * V) (rowAt (tabAt c.tabs m).rows i).xs (k + 1)).length ((brRow bs (i * V) (rowAt (tabAt c.tabs m).rows i).xs (k + 1)).map (Value.int .i64))) := Lib.hid (by rw [HS.out, HT.out]; exact row_one (w := w2) (n := pre.length + 1) rfl hown2)
            clear hown2 hgrow2 OW1 cA cP cT cR cX
            go_wp2_with fail
            go_roundg (V - (k + 1))
            case measure => have := HN2.out; omega
            case rel => exact ⟨k + 1, qk + 1, by omega, rfl, by first | rfl | go_num, by first | rfl | go_num, Lib.hid (by have := HKQ.out; omega), HO2, HB2⟩
          · have hmo' : ¬ (qk : Int) < (bs.length : Int) := by omega
            have HT := Lib.hid (show brt bs qk xv = xv from if_neg hmo)
            go_wp2_with (at_builtin; refine wpList_append_own _ rfl (.tmp 110) (.tmp 112) 58 rfl wo.heap.size 3 ii (.int .i64 0) 1 8 Try.underlying58 hi1 hy0 hy1 hy2 rfl (by decide) u14 pre.length (pre.map (Value.int .i64)) ?bz1 ?bz2 ⟨wr.heap.size, 0, none⟩ 1 1 [.int .i64 xv] ?bz3 ?bz4 ?bz5 ?bz6 ?bz7 ?bz8 ?bz9 ?bz0; (case bz1 => rfl); (case bz2 => exact OW1.alloc _); (case bz3 => rfl); (case bz4 => rfl); (case bz5 => exact cell_one_new _ _ _); (case bz6 => simp [Value.oneCell']); (case bz7 => exact q1); (case bz8 => exact q2); (case bz9 => have := HBz.out.size; simp; omega))
            intro v2 w2 hown2 hgrow2 _
            have HB2 : Hid (Below wo.heap.size wo w2) := Lib.hid ((HBz.out.alloc HBz.out.size (.cells #[.int .i64 xv] 3)).grown hgrow2 (by have := HBz.out.size; simp; omega) (fun j hj => ((OW1.alloc (.cells #[.int .i64 xv] 3)).lt j hj).1))
            have HO2 : Hid (w2.ownsRow wo.heap.size 3 1 v2 (brRow bs (i * V) (rowAt (tabAt c.tabs m).rows i).xs (k + 1)).length ((brRow bs (i * V) (rowAt (tabAt c.tabs m).rows i).xs (k + 1)).map (Value.int .i64))) := Lib.hid (by rw [HS.out, HT.out]; exact row_one (w := w2) (n := pre.length + 1) rfl hown2)
            clear hown2 hgrow2 OW1 cA cP cT cR cX
            go_wp2_with fail
            go_roundg (V - (k + 1))
            case measure => have := HN2.out; omega
            case rel => exact ⟨k + 1, qk + 1, by omega, rfl, by first | rfl | go_num, by first | rfl | go_num, Lib.hid (by have := HKQ.out; omega), HO2, HB2⟩
        · obtain rfl : k = V := by omega
          have hno : ¬ (k : Int) < (k : Int) := by omega
          have hlen := brRow_len bs (i * k) (rowAt (tabAt c.tabs m).rows i).xs k
          have RS := Lib.hid HQ.out.2.1
          have KM : Hid (BrK c m x y h D g cg A1 C1 rs w wr) := Lib.hid (BK.out.call HBz.out)
          have mD0 := KM.out.d0
          have mT := KM.out.tc m (by rw [List.length_set]; exact HM.out) 3 (by omega)
          rw [tabAt_set HM.out, if_pos rfl] at mT
          have mT' : wr.cell? ⟨g, m * 6 + 3, none⟩ = some (.slice A1 rs.length C1) := mT
          have mF := KM.out.fr
          have mO := KM.out.own
          have q1 : rs.length + 1 ≤ maxLen := by have := RS.out; unfold maxLen; omega
          have q2 : (rs.length + 1) * 24 ≤ 140737488355328 := by have := RS.out; omega
          have mg := KM.out.gl
          have OW0 := OWN.out
          rw [hlen] at OW0
          obtain ⟨la, lc, hu⟩ : ∃ a n, u14 = .slice a k n := by
            rcases OW0.2 with ⟨_, e⟩ | ⟨g1, cap, cur, e, _⟩
            · omega
            · exact ⟨_, _, e⟩
          subst hu
          have OWNz := Lib.hid OW0
          clear OW0
          have ones : ∀ u ∈ [Value.slice la k lc], u.oneCell' = true := by
            intro u hu
            simp at hu; subst hu; rfl
          clear mT OWN
          have HKQ := Lib.hid HK.out
          clear HK
          go_wp2_with (at_builtin; refine wpList_append_own _ rfl (.tmp 118) (.tmp 120) 59 rfl (g + 1) 58 ir (.slice none 0 0) 1 24 Try.underlying59 hr1 hr0 hr2 hr3 rfl (by decide) (.slice A1 rs.length C1) rs.length (rs.map Ints.val) ?ez1 ?ez2 ⟨wr.heap.size, 0, none⟩ 1 1 [.slice la k lc] ?ez3 ?ez4 ?ez5 ?ez6 ?ez7 ?ez8 ?ez9 ?ez0; (case ez1 => rfl); (case ez2 => exact mO.alloc _); (case ez3 => rfl); (case ez4 => rfl); (case ez5 => exact cell_one_new _ _ _); (case ez6 => exact ones); (case ez7 => exact q1); (case ez8 => exact q2); (case ez9 => simp; omega))
          intro v2 w2 hown2 hgrow2 _
          have hbg : w2.heap[g]? = wr.heap[g]? := (hgrow2.block g (by simp; omega) (fun e => by have := own_base KM.out.own g e.symm; omega)).trans (Below.heap_alloc _ _ _ mg)
          have e1 : w2.cell? ⟨g, m * 6 + 3, none⟩ = some (.slice A1 rs.length C1) := by rw [World.cell?_of_block (a := ⟨g, m * 6 + 3, none⟩) hbg]; exact mT'
          have e2 : w2.frozen? ⟨g, m * 6 + 3, none⟩ = false := by rw [World.frozen?_of_block (a := ⟨g, m * 6 + 3, none⟩) hbg]; exact mF
          obtain ⟨A', C', l, hv, hlx, BK2⟩ := BK.out.round HM.out HBz.out (vl := .slice la k lc) (xs := brRow bs (i * k) (rowAt (tabAt c.tabs m).rows i).xs k) (by rw [hlen]; exact OWNz.out) (by rw [hlen]; omega) hown2 hgrow2
          subst hv
          have el : (rs ++ [l]).length = rs.length + 1 := by simp
          rw [el] at BK2
          have BK3 := Lib.hid BK2
          clear el
          have HLX := Lib.hid hlx
          clear hown2 hgrow2 hbg BK2 hlx mD0 mT' mF mO mg ones KM
          have i64i : IntKind.i64.wrap ((i : Int) + 1) = (i : Int) + 1 := IntWalk.i64_in _ (by omega)
          go_wp2_with fail
          go_roundg (R - (i + 1))
          case measure => have := HN.out; omega
          case rel => exact ⟨i + 1, qk, A', C', rs ++ [l], by omega, rfl, rfl, by first | rfl | go_num, Lib.hid ⟨by have := HKQ.out; rw [Nat.succ_mul]; exact this, by rw [List.length_append, HQ.out.2.1]; rfl, fun r hr => by
            rw [rowAt_app (by rw [HQ.out.2.1]; exact hr), HQ.out.2.1]
            by_cases hri : r < i
            · rw [if_pos hri]; exact HQ.out.2.2 r hri
            · rw [if_neg hri]
              have : r = i := by omega
              subst this
              exact HLX.out⟩, BK3⟩
    · obtain rfl : i = R := by omega
      have hno : ¬ (i : Int) < (i : Int) := by omega
      have hrows := HQ.out.2.2
      have hrl := HQ.out.2.1
      have DC : Brt bs (tabAt c.tabs m) (dcur c m A1 C1 rs) := ⟨rfl, rfl, rfl, rfl, rfl, by show rs.length = _; rw [hrl]; exact HR.out.symm, fun r hr => by rw [HV.out]; exact hrows r (by rw [← HR.out]; exact hr)⟩
      have CD := Lib.hid (BK.out.cat HC.out HM.out (by rw [hrl]; unfold maxLen; omega) (fun r hr => by rw [hrows r (by omega), brRow_len]; unfold maxLen; omega))
      obtain ⟨e0, e1, l0, l1, o1, l2, l3⟩ := ANS.out _ g cg DC
      have SCg := Lib.hid (fun W (k : CatIn W.heap.size c W) => by have := SC.out W k; rw [e0] at this; exact this)
      have SDg := Lib.hid (fun W k => by have := SD.out (dcur c m A1 C1 rs) g cg W k; rw [e1] at this; simp only [List.length_set] at this; exact this)
      have IDg := Lib.hid (fun W k => by have := ID.out (dcur c m A1 C1 rs) g cg W k; rw [o1] at this; simp only [List.length_set] at this; exact this)
      have ICg := Lib.hid (fun W (k : CatIn W.heap.size c W) => IC.out W k)
      rw [HTA.out] at SCg
      clear e0 e1 o1 DC hrows hrl SC SD ID ANS IC
      generalize shaLo c m 1 = f0 at *
      generalize shaHi c m 1 = f1 at *
      generalize shaLo { c with ta := some ⟨g, 0, none⟩, tc := cg, tabs := c.tabs.set m (dcur c m A1 C1 rs) } m 1 = g0 at *
      generalize shaHi { c with ta := some ⟨g, 0, none⟩, tc := cg, tabs := c.tabs.set m (dcur c m A1 C1 rs) } m 1 = g1 at *
      generalize ovLo { c with ta := some ⟨g, 0, none⟩, tc := cg, tabs := c.tabs.set m (dcur c m A1 C1 rs) } m x x y y h = r0 at *
      generalize ovHi { c with ta := some ⟨g, 0, none⟩, tc := cg, tabs := c.tabs.set m (dcur c m A1 C1 rs) } m x x y y h = r1 at *
      generalize ovLo c m x x y y h = p0 at *
      generalize ovHi c m x x y y h = p1 at *
      generalize ovE c m x x y y h = oe at *
      have z0 : decide (g0 < f0) = false := decide_eq_false (by omega)
      have z1 : decide (g1 < f1) = false := decide_eq_false (by omega)
      have z2 : decide (p0 ≤ r0) = true := decide_eq_true l2
      have z3 : decide (p1 ≤ r1) = true := decide_eq_true l3
      have z4 : (oe == oe) = true := by simp
      clear l0 l1 l2 l3
      have KZ := Lib.hid (fun (W : World) (hW : Below wr.heap.size wr W) => BK.out.call hW)
      have CZ := Lib.hid (fun (W : World) (hW : Below wr.heap.size wr W) => (CD.out.keep hW (Nat.le_refl _)).more hW.size)
      have CcZ := Lib.hid (fun (W : World) (hW : Below wr.heap.size wr W) => CI.out W (BK.out.b.trans (hW.mono BK.out.b.size)))
      have BB := Lib.hid BK.out.b
      have HDG : Hid (w.heap.size + 1 < D ∧ D < g ∧ g < wr.heap.size) := Lib.hid ⟨BK.out.sd, BK.out.dg, BK.out.gl⟩
      have ca1 := BK.out.a1
      go_wp2_with fail
      with_reducible refine Calls.mono (SCg.out _ (CcZ.out _ (Below.refl _ _))) ?_
      rintro e w5 ⟨rfl, o5⟩
      obtain ⟨_, _, b0, _, _, _, d0, d1, _, _, _, _, _, _, _, _⟩ := KZ.out _ o5
      have h5 := o5.size
      obtain ⟨hd1, hd2, hd3⟩ := HDG.out
      have n1 : D < w5.heap.size := by omega
      have n2 : D ≠ w5.heap.size := by omega
      have n3 : w.heap.size + 1 < w5.heap.size := by omega
      have n4 : w.heap.size + 1 ≠ w5.heap.size := by omega
      have O6 := Lib.hid (o5.trans ((below_new w5 (.cells #[.int .i64 f0, .int .i64 f1] 35)).mono h5))
      have BA := Lib.hid (Bq.fresh w5 f0 f1 35)
      have HA5 : Hid (wr.heap.size ≤ w5.heap.size) := Lib.hid h5
      clear o5 cP0 cT cA0 ca1
      go_wp2_with fail
      generalize w5.alloc (.cells #[.int .i64 f0, .int .i64 f1] 35) = W6 at *
      clear n1 n2 n3 n4 b0 d0 d1 h5
      generalize w5.heap.size = P5 at *
      with_reducible refine Calls.mono (SDg.out _ (CZ.out _ O6.out)) ?_
      rintro e w7 ⟨rfl, o7⟩
      have BA7 := Lib.hid (BA.out.below o7)
      have O7 := Lib.hid (O6.out.trans (o7.mono O6.out.size))
      have h7 := O7.out.size
      obtain ⟨c0, c1, b0, b1, b2, b3, d0, d1, _, _, _, _, _, _, _, _⟩ := KZ.out _ O7.out
      obtain ⟨u0, u1, u2, u3, u4⟩ := BA7.out
      have BC := Lib.hid (Bq.fresh w7 g0 g1 35)
      have BA8 := Lib.hid (BA7.out.alloc (.cells #[.int .i64 g0, .int .i64 g1] 35))
      have O8 := Lib.hid (O7.out.trans ((below_new w7 (.cells #[.int .i64 g0, .int .i64 g1] 35)).mono h7))
      have n1 : D < w7.heap.size := by omega
      have n2 : D ≠ w7.heap.size := by omega
      have n3 : w.heap.size + 1 < w7.heap.size := by omega
      have n4 : w.heap.size + 1 ≠ w7.heap.size := by omega
      have n5 : w.heap.size < w7.heap.size := by omega
      have n6 : w.heap.size ≠ w7.heap.size := by omega
      have n7 : P5 ≠ w7.heap.size := by omega
      have HP7 : Hid (P5 < w7.heap.size ∧ wr.heap.size ≤ w7.heap.size) := Lib.hid ⟨u4, h7⟩
      clear o7 BA O6 BA7 O7
      go_wp2_with fail
      generalize w7.alloc (.cells #[.int .i64 g0, .int .i64 g1] 35) = W8 at *
      clear n1 n2 n3 n4 n5 n6 n7 c0 c1 b0 b1 b2 b3 d0 d1 u0 u1 u2 u3 u4 h7
      generalize w7.heap.size = P7 at *
      obtain ⟨u0, u1, _, _, u4⟩ := BA8.out
      obtain ⟨v0, v1, _, _, v4⟩ := BC.out
      obtain ⟨c0, c1, b0, b1, b2, b3, _, _, _, _, _, _, _, _, _, _⟩ := KZ.out _ O8.out
      have HW8 : Hid (wr.heap.size ≤ W8.heap.size) := Lib.hid O8.out.size
      clear SCg SDg
      go_wp2_with fail
      with_reducible refine Calls.mono (ICg.out _ (CcZ.out _ O8.out)) ?_
      rintro e w9 ⟨rfl, o9⟩
      have O9 := Lib.hid (O8.out.trans (o9.mono O8.out.size))
      have BA9 := Lib.hid (BA8.out.below o9)
      have BC9 := Lib.hid (BC.out.below o9)
      clear o9 u0 u1 u4 v0 v1 v4 c0 c1 b0 b1 b2 b3 O8 BA8 BC ICg
      obtain ⟨u0, u1, u2, u3, u4⟩ := BA9.out
      obtain ⟨_, _, b0, b1, b2, b3, d0, d1, _, _, _, _, _, _, _, _⟩ := KZ.out _ O9.out
      have a5 := HA5.out
      have a7 := HP7.out
      have n2 : D ≠ P5 := by omega
      have n4 : w.heap.size + 1 ≠ P5 := by omega
      have O10 := Lib.hid ((O9.out.setCell (p := ⟨P5, 0, none⟩) a5 (.int .i64 p0)).setCell (p := ⟨P5, 1, none⟩) a5 (.int .i64 p1))
      have BA10 := Lib.hid (BA9.out.set p0 p1)
      have BC10 := Lib.hid (BC9.out.other (by omega) (.int .i64 p0) (.int .i64 p1) (d := P5))
      clear O9 BA9 BC9 a5 a7
      go_wp2_with fail
      clear n2 n4 u0 u1 u2 u3 u4 b0 b1 b2 b3 d0 d1
      generalize (w9.setCell ⟨P5, 0, none⟩ (.int .i64 p0)).setCell ⟨P5, 1, none⟩ (.int .i64 p1) = W10 at *
      with_reducible refine Calls.mono (IDg.out _ (CZ.out _ O10.out)) ?_
      rintro e w11 ⟨rfl, o11⟩
      have O11 := Lib.hid (O10.out.trans (o11.mono O10.out.size))
      have BA11 := Lib.hid (BA10.out.below o11)
      have BC11 := Lib.hid (BC10.out.below o11)
      clear o11 O10 BA10 BC10
      obtain ⟨u0, u1, u2, u3, u4⟩ := BA11.out
      obtain ⟨v0, v1, v2, v3, v4⟩ := BC11.out
      have a7 := HP7.out
      have n7 : P5 ≠ P7 := by omega
      have O12 := Lib.hid ((O11.out.setCell (p := ⟨P7, 0, none⟩) a7.2 (.int .i64 r0)).setCell (p := ⟨P7, 1, none⟩) a7.2 (.int .i64 r1))
      clear O11 BA11 BC11 a7
      go_wp2_with fail
      with_reducible refine Calls.mono (awake_any _) ?_
      rintro e w13 ⟨rfl, o13⟩
      go_wp2_with fail
      go_ret
      exact ⟨rfl, (BB.out.trans (O12.out.mono BB.out.size)).trans (o13.mono (BB.out.trans (O12.out.mono BB.out.size)).size)⟩

theorem lawBrighter_any (c : Cat) (n x y h : Int) (A : Option Addr) (q : Nat) (bs : List Int) (w : World) (hc : CatIn w.heap.size c w) (hby : BytesIn w.heap.size A bs w) (bb : ∀ j, j < bs.length → 0 ≤ nth bs j ∧ nth bs j ≤ 255) :
    Calls Try.prog 13 #[.agg #[c.tv, c.lv], .agg #[.int .i64 n, .int .i64 x, .int .i64 y, .int .i64 h], .slice A bs.length q] w fun e w' => e = .returned (.bool true) ∧ Below w.heap.size w w' := by
  by_cases hz : errOf c n c.tabs.length = 0
  · have h0 : chkE c = 0 := by
      refine Decidable.byContradiction fun h0 => ?_
      unfold errOf at hz
      rw [if_pos h0] at hz
      exact h0 hz
    obtain ⟨_, i0, i1⟩ := errOf_ok hz
    obtain ⟨m, rfl⟩ : ∃ m : Nat, n = m := ⟨n.toNat, by omega⟩
    exact brighter_good c m x y h A q bs w hc h0 (by omega) hby bb
  · exact brighter_bad c n x y h A q bs w hc hz
end Go.Proofs.Ytgmpipciinphiaa

namespace Go.Proofs.Ytgmpipciinphiaa
open Go.RowKit Go.ChangeShapes Go.WideShapes Go.Deep Go.Joins
set_option maxRecDepth 100000
section
variable {H : Type} {enc : TypeId × Value → H} {W : World} {base : Nat} {held : Bool}
theorem bytes_arg {r : Reach} {b0 : Nat} {v : Value} {d : DataW H} {p : List MemPlace} (hval : Value.okWide Try.prog W r b0 74 v) (h : DataW.Trod enc Try.prog W base (fun _ => true) held 74 v d p) :
    ∃ (A : Option Addr) (q : Nat) (xs : List Int), v = .slice A xs.length q ∧ BytesIn W.heap.size A xs W ∧ ∀ j, j < xs.length → 0 ≤ nth xs j ∧ nth xs j ≤ 255 := by
  obtain ⟨a0, l0, c0, rfl⟩ := okWide_slice Try.underlying74 hval
  obtain ⟨fuel, hx⟩ := h
  have hx' : DataW.trod enc Try.prog W base (fun _ => true) held fuel 74 [.slice a0 l0 c0] = some _ := hx
  rcases open_slice1 Try.underlying74 c1u8 hx' with ⟨hv, _⟩ | ⟨a, len, cap, m, n, V, D, Pl, hv, hb, hl, hm, hmm, _, hk⟩
  · exact ⟨none, 0, [], by simpa using hv, ⟨Nat.zero_le _, fun hh => by simp at hh⟩, fun j hj => by simp at hj⟩
  · simp only [if_true] at hmm
    subst hmm
    obtain ⟨f, hf⟩ := choose_lt (α := Int) (p := fun i z => V i = .int .u8 z ∧ 0 ≤ z ∧ z ≤ 255) (n := m) (fun i hi => by
      obtain ⟨z, e, _, wf⟩ := DataW.trod_int Try.underlying5 (hk i hi).2
      simp at e
      exact ⟨z, e, bounds_u8 wf⟩)
    have hn : ∀ j, j < len → nth ((List.range len).map f) j = f j := fun j hj => by unfold nth; simp [hj]
    refine ⟨some a, m, (List.range len).map f, by simpa using hv, ⟨by simp; omega, fun hh => ?_⟩, fun j hj => ?_⟩
    · have hh' : 0 < len := by simpa using hh
      have h0 := (hk 0 (by omega)).1
      rw [show a.add 0 = a from rfl] at h0
      obtain ⟨b, o, rfl, hb'⟩ := addr_plain h0
      refine ⟨b, o, rfl, hb', fun j hj => ?_⟩
      have hj' : j < len := by simpa using hj
      have := (hk j (by omega)).1
      rw [add_plain] at this
      rw [this, hn j hj', (hf j (by omega)).1]
    · have hj' : j < len := by simpa using hj
      rw [hn j hj']
      exact (hf j (by omega)).2
end
end Go.Proofs.Ytgmpipciinphiaa
