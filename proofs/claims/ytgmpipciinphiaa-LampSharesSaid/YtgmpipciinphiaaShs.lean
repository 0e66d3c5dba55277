/- Share of the reference. -/
import Derived.Test.YtgmpipciinphiaaShd
import Derived.Test.YtgmpipciinphiaaShr
import Derived.Test.YtgmpipciinphiaaRer
namespace Go.Proofs.Ytgmpipciinphiaa
set_option linter.unusedSimpArgs false
set_option linter.unusedVariables false
open Go.RowKit
attribute [local go_sem ↓] Go.wp_at_zero Go.wp_at_succ

theorem cut_facts {us : List Int} (ok : ListOk us) {i s a : Nat} (hi : i + 1 < us.length) (hs : 0 < s) (hs4 : s ≤ 4) (ha : a < s) {d : Int} (hd : nth us (i + 1) - nth us i = d) :
    IntKind.i64.wrap (d * (a : Int)) = d * (a : Int) ∧ IntKind.i64.wrap ((a : Int) + 1) = (a : Int) + 1 ∧ IntKind.i64.wrap (d * ((a : Int) + 1)) = d * ((a : Int) + 1) ∧
    (d * (a : Int)).tdiv (s : Int) = d * (a : Int) / (s : Int) ∧ (d * ((a : Int) + 1)).tdiv (s : Int) = d * ((a : Int) + 1) / (s : Int) ∧
    IntKind.i64.wrap (d * (a : Int) / (s : Int)) = d * (a : Int) / (s : Int) ∧ IntKind.i64.wrap (d * ((a : Int) + 1) / (s : Int)) = d * ((a : Int) + 1) / (s : Int) ∧
    IntKind.i64.wrap (nth us i + d * (a : Int) / (s : Int)) = cutU us i s a ∧ IntKind.i64.wrap (nth us i + d * ((a : Int) + 1) / (s : Int)) = cutU us i s (a + 1) := by
  have p0 := ok.lo i (by omega)
  have p1 := ok.hi i (by omega)
  have p2 := ok.lo (i + 1) hi
  have p3 := ok.hi (i + 1) hi
  have p4 := ok.up i hi
  have HC0 : cutU us i s a = nth us i + (nth us (i + 1) - nth us i) * a / s := rfl
  have HC1 : cutU us i s (a + 1) = nth us i + (nth us (i + 1) - nth us i) * ((a : Int) + 1) / s := by unfold cutU; rw [show ((a + 1 : Nat) : Int) = (a : Int) + 1 by omega]
  rw [HC0, HC1, hd]
  have q0 := Int.mul_nonneg (show 0 ≤ d by omega) (show 0 ≤ (a : Int) by omega)
  have q1 := Int.mul_le_mul_of_nonneg_left (show (a : Int) ≤ 4 by omega) (show 0 ≤ d by omega)
  have q2 := Int.mul_nonneg (show 0 ≤ d by omega) (show 0 ≤ (a : Int) + 1 by omega)
  have q3 := Int.mul_le_mul_of_nonneg_left (show (a : Int) + 1 ≤ 5 by omega) (show 0 ≤ d by omega)
  have r1 := Int.ediv_nonneg q0 (show 0 ≤ (s : Int) by omega)
  have r2 := Int.ediv_nonneg q2 (show 0 ≤ (s : Int) by omega)
  have r3 := Int.ediv_le_self (s : Int) q0
  have r4 := Int.ediv_le_self (s : Int) q2
  refine ⟨IntWalk.i64_in _ (by omega), IntWalk.i64_in _ (by omega), IntWalk.i64_in _ (by omega), Int.tdiv_eq_ediv_of_nonneg q0, Int.tdiv_eq_ediv_of_nonneg q2, IntWalk.i64_in _ (by omega), IntWalk.i64_in _ (by omega), IntWalk.i64_in _ (by omega), IntWalk.i64_in _ (by omega)⟩

set_option maxRecDepth 100000 in
set_option maxHeartbeats 8000000 in
theorem rShare_any (c : Cat) (n s : Int) (w : World) (hc : CatIn w.heap.size c w) :
    Calls Try.prog 26 #[.agg #[c.tv, c.lv], .int .i64 n, .int .i64 s] w fun e w' => e = .returned (enclE (shaLo c n s) (shaHi c n s) (shaE c n s)) ∧ Below w.heap.size w w' := by
  have hml := hc.tabs.1
  have HC := Lib.hid hc
  clear hc
  have CI := Lib.hid (fun (W : World) (g : Below w.heap.size w W) => (HC.out.keep g (Nat.le_refl _)).more g.size)
  have ER := Lib.hid (fun (W : World) (g : CatIn W.heap.size c W) => rtabled_any c n W g)
  unfold Cat.tv Cat.lv at *
  unfold maxLen at hml
  have bw0 : Below w.heap.size w ((w.alloc (.cells #[.slice c.ta c.tabs.length c.tc, .slice c.la c.lamps.length c.lc] 25)).alloc (.cells #[.int .i64 0, .int .i64 0] 35)) := ((Below.refl _ _).alloc (Nat.le_refl _) _).alloc (by simp) _
  have t0 : ((w.alloc (.cells #[.slice c.ta c.tabs.length c.tc, .slice c.la c.lamps.length c.lc] 25)).alloc (.cells #[.int .i64 0, .int .i64 0] 35)).cell? ⟨w.heap.size, 0, none⟩ = some (.slice c.ta c.tabs.length c.tc) := by simp [go_sem]
  have t1 : ((w.alloc (.cells #[.slice c.ta c.tabs.length c.tc, .slice c.la c.lamps.length c.lc] 25)).alloc (.cells #[.int .i64 0, .int .i64 0] 35)).cell? ⟨w.heap.size, 1, none⟩ = some (.slice c.la c.lamps.length c.lc) := by simp [go_sem]
  have bz : Bq (w.heap.size + 1) 0 0 ((w.alloc (.cells #[.slice c.ta c.tabs.length c.tc, .slice c.la c.lamps.length c.lc] 25)).alloc (.cells #[.int .i64 0, .int .i64 0] 35)) := Bq.freshAt (by simp) 0 0 _
  have BW0 := Lib.hid bw0
  have BZ0 := Lib.hid bz
  clear bw0 bz
  have HE : Hid (shaE c n s = if errOf c n c.tabs.length ≠ 0 then errOf c n c.tabs.length else if inB s 1 4 = false then 7 else 0) := rfl
  have HL : Hid (shaLo c n s = if shaE c n s ≠ 0 then 0 else toLo (tabAt c.tabs n.toNat) s.toNat / 1000) := rfl
  have HH : Hid (shaHi c n s = if shaE c n s ≠ 0 then 0 else upD (toHi (tabAt c.tabs n.toNat) s.toNat) 1000) := rfl
  by_cases hz : errOf c n c.tabs.length = 0
  case neg =>
    have F0 : Hid (shaE c n s = errOf c n c.tabs.length) := HE.out.trans (if_pos hz)
    have F1 : Hid (shaLo c n s = 0) := HL.out.trans (if_pos (by rw [F0.out]; exact hz))
    have F2 : Hid (shaHi c n s = 0) := HH.out.trans (if_pos (by rw [F0.out]; exact hz))
    generalize errOf c n c.tabs.length = er at *
    have d0 : (er != 0) = true := by simpa using hz
    have d0' : (er == 0) = false := by simpa using hz
    clear hz HE HL HH
    go_enter Try.func26, Try.ntmps26
    go_wp2_with fail
    generalize ((w.alloc (.cells #[.slice c.ta c.tabs.length c.tc, .slice c.la c.lamps.length c.lc] 25)).alloc (.cells #[.int .i64 0, .int .i64 0] 35)) = W0 at *
    with_reducible refine Calls.mono (ER.out _ (CI.out _ BW0.out)) ?_
    rintro e w1 ⟨rfl, o1⟩
    obtain ⟨z0, z1, z2, z3, z4⟩ := BZ0.out.below o1.below
    have BW1 := Lib.hid (BW0.out.trans (o1.below.mono BW0.out.size))
    clear o1 t0 t1
    go_wp2_with fail
    refine bodyPost_ret (v := enclE 0 0 er) (by simp [results, Try.results26, go_sem, z0, z1]) rfl ⟨by rw [F0.out, F1.out, F2.out], ?_⟩
    exact (BW1.out.setCell (p := ⟨w.heap.size + 1, 0, none⟩) (by show w.heap.size ≤ w.heap.size + 1; omega) _).setCell (p := ⟨w.heap.size + 1, 1, none⟩) (by show w.heap.size ≤ w.heap.size + 1; omega) _
  case pos =>
    obtain ⟨ok, hn0, hn1⟩ := errOf_ok hz
    have HZ := Lib.hid hz
    have HE2 : Hid (shaE c n s = if inB s 1 4 = false then 7 else 0) := HE.out.trans (if_neg (fun hh => hh hz))
    clear hz HE
    rw [HZ.out] at ER
    cases hs : inB s 1 4
    · have F0 : Hid (shaE c n s = 7) := HE2.out.trans (if_pos hs)
      have F1 : Hid (shaLo c n s = 0) := HL.out.trans (if_pos (by rw [F0.out]; decide))
      have F2 : Hid (shaHi c n s = 0) := HH.out.trans (if_pos (by rw [F0.out]; decide))
      have HS := Lib.hid hs
      clear hs HL HH HE2
      go_enter Try.func26, Try.ntmps26
      go_wp2_with fail
      generalize ((w.alloc (.cells #[.slice c.ta c.tabs.length c.tc, .slice c.la c.lamps.length c.lc] 25)).alloc (.cells #[.int .i64 0, .int .i64 0] 35)) = W0 at *
      with_reducible refine Calls.mono (ER.out _ (CI.out _ BW0.out)) ?_
      rintro e w1 ⟨rfl, o1⟩
      obtain ⟨z0, z1, z2, z3, z4⟩ := BZ0.out.below o1.below
      have BW1 := Lib.hid (BW0.out.trans (o1.below.mono BW0.out.size))
      clear o1 t0 t1
      go_wp2_with fail
      with_reducible refine Calls.mono (rin_is HS.out _) ?_
      rintro e w2 ⟨rfl, hw⟩
      obtain rfl := hw.symm
      go_wp2_with fail
      refine bodyPost_ret (v := enclE 0 0 7) (by simp [results, Try.results26, go_sem, z0, z1]) rfl ⟨by rw [F0.out, F1.out, F2.out], ?_⟩
      exact (BW1.out.setCell (p := ⟨w.heap.size + 1, 0, none⟩) (by show w.heap.size ≤ w.heap.size + 1; omega) _).setCell (p := ⟨w.heap.size + 1, 1, none⟩) (by show w.heap.size ≤ w.heap.size + 1; omega) _
    · have F0 : Hid (shaE c n s = 0) := HE2.out.trans (if_neg (by rw [hs]; decide))
      have F1 := Lib.hid (HL.out.trans (if_neg (by rw [F0.out]; decide)))
      have F2 := Lib.hid (HH.out.trans (if_neg (by rw [F0.out]; decide)))
      have HS := Lib.hid hs
      obtain ⟨s0, s1⟩ := inB_iff.1 hs
      clear hs HL HH HE2
      obtain ⟨m, rfl⟩ := Int.eq_ofNat_of_zero_le hn0
      obtain ⟨q, rfl⟩ := Int.eq_ofNat_of_zero_le (show 0 ≤ s by omega)
      have hm : m < c.tabs.length := by omega
      have okt := ok.tab m hm
      simp only [Int.toNat_natCast] at F1 F2
      have TA := Lib.hid (fun (W : World) (g : Below w.heap.size w W) => tabAt_cells (HC.out.keep g (Nat.le_refl _)) hm)
      generalize tabAt c.tabs m = t at *
      have OT := Lib.hid okt
      have nu0 := okt.us.n0
      have nu1 := okt.us.n1
      have nv0 := okt.vs.n0
      have nv1 := okt.vs.n1
      have q0 : 0 < q := by omega
      have q4 : q ≤ 4 := by omega
      clear okt ok
      have s3 : (0 : Int) ≤ (m : Int) := by omega
      have s4 : (m : Int) < (c.tabs.length : Int) := by omega
      go_enter Try.func26, Try.ntmps26
      go_wp2_with fail
      generalize ((w.alloc (.cells #[.slice c.ta c.tabs.length c.tc, .slice c.la c.lamps.length c.lc] 25)).alloc (.cells #[.int .i64 0, .int .i64 0] 35)) = W0 at *
      with_reducible refine Calls.mono (ER.out _ (CI.out _ BW0.out)) ?_
      rintro e w1 ⟨rfl, o1⟩
      have T0 : Hid (w1.cell? ⟨w.heap.size, 0, none⟩ = some (.slice c.ta c.tabs.length c.tc) ∧ w.heap.size + 1 < w1.heap.size) := Lib.hid ⟨by rw [o1.below.cell (p := ⟨w.heap.size, 0, none⟩) (by show w.heap.size < _; have := BZ0.out.lt; omega)]; exact t0, (BZ0.out.below o1.below).lt⟩
      have BZ1 := Lib.hid (BZ0.out.below o1.below)
      have BW1 := Lib.hid (BW0.out.trans (o1.below.mono BW0.out.size))
      clear o1 t0 t1
      go_wp2_with fail
      with_reducible refine Calls.mono (rin_is HS.out _) ?_
      rintro e w2 ⟨rfl, hw⟩
      obtain rfl := hw.symm
      obtain ⟨tb, tt, ha, hb, ht⟩ := TA.out _ BW1.out
      have c0 := ht.c0
      have c1 := ht.c1
      have c2 := ht.c2
      have c3 := ht.c3
      have c4 := ht.c4
      have c5 := ht.c5
      unfold Ints.val at c1 c2
      clear ht
      obtain ⟨k0, lt1⟩ := T0.out
      rw [ha] at k0
      clear ha T0
      have ne1 : w.heap.size ≠ w2.heap.size := by omega
      have ne2 : tb ≠ w2.heap.size := by omega
      have lt2 : w.heap.size < w2.heap.size := by omega
      have lt3 : tb < w2.heap.size := by omega
      go_wp2_with fail
      have SK : Hid (ShK t w2.heap.size (w2.heap.size + 1) (w.heap.size + 1) 0 0 w ((w2.alloc (.cells #[.string t.name, .slice t.us.a t.us.xs.length t.us.c, .slice t.vs.a t.vs.xs.length t.vs.c, .slice t.ra t.rows.length t.rc, .int .i64 t.side, .int .i64 t.sky] 61)).alloc (.cells #[.int .i64 0, .int .i64 0] 35))) := Lib.hid (by
        have b1 := (below_new w2 (.cells #[.string t.name, .slice t.us.a t.us.xs.length t.us.c, .slice t.vs.a t.vs.xs.length t.vs.c, .slice t.ra t.rows.length t.rc, .int .i64 t.side, .int .i64 t.sky] 61)).trans ((below_new (w2.alloc (.cells #[.string t.name, .slice t.us.a t.us.xs.length t.us.c, .slice t.vs.a t.vs.xs.length t.vs.c, .slice t.ra t.rows.length t.rc, .int .i64 t.side, .int .i64 t.sky] 61)) (.cells #[.int .i64 0, .int .i64 0] 35)).mono (by simp))
        exact ⟨by simp [go_sem], by simp [go_sem], by simp [go_sem], by simp [go_sem], by simp [go_sem], by simp [go_sem], (by simp; omega), Bq.freshAt (by simp) 0 0 _, BZ1.out.below b1, BW1.out.trans (b1.mono BW1.out.size), by omega, by omega, by omega, by omega⟩)
      clear BZ1 BW1 BZ0 BW0 c0 c1 c2 c3 c4 c5 k0 ne1 ne2 lt2 lt3 hb
      generalize ((w2.alloc (.cells #[.string t.name, .slice t.us.a t.us.xs.length t.us.c, .slice t.vs.a t.vs.xs.length t.vs.c, .slice t.ra t.rows.length t.rc, .int .i64 t.side, .int .i64 t.sky] 61)).alloc (.cells #[.int .i64 0, .int .i64 0] 35)) = W3 at *
      obtain ⟨M, hT⟩ : ∃ M, w2.heap.size + 1 = M := ⟨_, rfl⟩
      rw [hT] at SK
      try rw [hT]
      clear hT lt1
      generalize w2.heap.size = T at *
      obtain ⟨R, hR⟩ : ∃ R, w.heap.size + 1 = R := ⟨_, rfl⟩
      rw [hR] at SK
      try rw [hR]
      have HR := Lib.hid hR
      clear hR
      obtain ⟨tb', tt', ha', hb', ht'⟩ := TA.out w (Below.refl _ _)
      obtain ⟨ub, uo, hua, hub, huc⟩ := ht'.us.2 (by omega)
      obtain ⟨vb, vo, hva, hvb, hvc⟩ := ht'.vs.2 (by omega)
      have hlr := OT.out.rows
      obtain ⟨rb, ro, hra, hrb, hrc⟩ := ht'.rows.2 (by omega)
      have FU : Hid (∀ Wz : World, Below w.heap.size w Wz → ∀ j, j < t.us.xs.length → Wz.cell? ⟨ub, uo + j, none⟩ = some (.int .i64 (nth t.us.xs j))) := Lib.hid (fun Wz hz j hj => by rw [hz.cell (p := ⟨ub, uo + j, none⟩) hub]; exact huc j hj)
      have FV : Hid (∀ Wz : World, Below w.heap.size w Wz → ∀ j, j < t.vs.xs.length → Wz.cell? ⟨vb, vo + j, none⟩ = some (.int .i64 (nth t.vs.xs j))) := Lib.hid (fun Wz hz j hj => by rw [hz.cell (p := ⟨vb, vo + j, none⟩) hvb]; exact hvc j hj)
      have FR : Hid (∀ i, i < t.us.xs.length → ∃ xb xo xc, ∀ Wz : World, Below w.heap.size w Wz → Wz.cell? ⟨rb, ro + i, none⟩ = some (.slice (some ⟨xb, xo, none⟩) t.vs.xs.length xc) ∧ ∀ k, k < t.vs.xs.length → Wz.cell? ⟨xb, xo + k, none⟩ = some (.int .i64 (tval t i k))) := Lib.hid (fun i hi => by
        obtain ⟨a, b⟩ := hrc i (by omega)
        have e := OT.out.row i (by omega)
        obtain ⟨xb, xo, hxa, hxb, hxc⟩ := b.2 (by omega)
        unfold Ints.val at a
        rw [hxa, e] at a
        refine ⟨xb, xo, (rowAt t.rows i).c, fun Wz hz => ⟨?_, fun k hk => ?_⟩⟩
        · rw [hz.cell (p := ⟨rb, ro + i, none⟩) hrb]; exact a
        · rw [hz.cell (p := ⟨xb, xo + k, none⟩) hxb]; exact hxc k (by omega))
      have HEQ := Lib.hid (And.intro hua (And.intro hva (And.intro hra hlr)))
      clear hua hva hra hlr huc hvc hrc hub hvb hrb ht' ha' hb'
      have eu : IntKind.i64.wrap ((t.us.xs.length : Int) - 1) = (t.us.xs.length : Int) - 1 := IntWalk.i64_in _ (by omega)
      have ev : IntKind.i64.wrap ((t.vs.xs.length : Int) - 1) = (t.vs.xs.length : Int) - 1 := IntWalk.i64_in _ (by omega)
      go_wp2_with fail
      go_loopg [11] (t.us.xs.length - 1) (fun n i' wr => ∃ i : Nat, i ≤ t.us.xs.length - 1 ∧ n = t.us.xs.length - 1 - i ∧ i' = .int .i64 i ∧ Hid (ShK t T M R (sm (fun i => sm (feLo t q i) (t.vs.xs.length - 1)) i) (sm (fun i => sm (feHi t q i) (t.vs.xs.length - 1)) i) w wr))
      case atStart => exact ⟨0, by omega, by omega, rfl, SK⟩
      case round =>
        clear SK
        obtain ⟨i, hi, hn0, rfl, SK⟩ := hrel
        have HN := Lib.hid hn0
        clear hn0
        have ei : IntKind.i64.wrap ((i : Int) + 1) = (i : Int) + 1 := IntWalk.i64_in _ (by omega)
        by_cases hlt : i < t.us.xs.length - 1
        · have hlt' : (i : Int) + 1 < (t.us.xs.length : Int) := by omega
          obtain ⟨x0, x1, x2, x3, x4, x5, tl, _, _, _, _, _, _, _⟩ := SK.out
          go_wp2_with fail
          clear x0 x1 x2 x3 x4 x5 tl
          go_loopg [12] (t.vs.xs.length - 1) (fun n k' W' => ∃ k : Nat, k ≤ t.vs.xs.length - 1 ∧ n = t.vs.xs.length - 1 - k ∧ k' = .int .i64 k ∧ Hid (ShK t T M R (sm (fun i => sm (feLo t q i) (t.vs.xs.length - 1)) i + sm (feLo t q i) k) (sm (fun i => sm (feHi t q i) (t.vs.xs.length - 1)) i + sm (feHi t q i) k) w W'))
          case atStart => exact ⟨0, by omega, by omega, rfl, by simpa [sm] using SK⟩
          case round =>
            clear SK
            obtain ⟨k, hk, hn0, rfl, SZ⟩ := hrel
            have HN2 := Lib.hid hn0
            clear hn0
            have ek : IntKind.i64.wrap ((k : Int) + 1) = (k : Int) + 1 := IntWalk.i64_in _ (by omega)
            by_cases hlt2 : k < t.vs.xs.length - 1
            · have hltk : (k : Int) + 1 < (t.vs.xs.length : Int) := by omega
              obtain ⟨xb, xo, xc, fx⟩ := FR.out i (by omega)
              obtain ⟨yb, yo, yc, fy⟩ := FR.out (i + 1) (by omega)
              obtain ⟨r0, fx0⟩ := fx wr SZ.out.b
              obtain ⟨r1, fy0⟩ := fy wr SZ.out.b
              have d0 := fx0 k (by omega)
              have d1 := fx0 (k + 1) (by omega)
              have d2 := fy0 k (by omega)
              have d3 := fy0 (k + 1) (by omega)
              have cu0 := FU.out wr SZ.out.b i (by omega)
              have cu1 := FU.out wr SZ.out.b (i + 1) (by omega)
              have cv0 := FV.out wr SZ.out.b k (by omega)
              have cv1 := FV.out wr SZ.out.b (k + 1) (by omega)
              clear fx fy fx0 fy0
              have mnx : Hid (mn4 t i k = min (tval t i k) (min (tval t i (k + 1)) (min (tval t (i + 1) k) (tval t (i + 1) (k + 1))))) := by show mn4 t i k = _; unfold mn4; omega
              have mxx : Hid (mx4 t i k = max (tval t i k) (max (tval t i (k + 1)) (max (tval t (i + 1) k) (tval t (i + 1) (k + 1))))) := by show mx4 t i k = _; unfold mx4; omega
              obtain ⟨mm0, mm1, mm2⟩ := m4_bd OT.out (i := i) (k := k) (by omega) (by omega)
              obtain ⟨x0, x1, x2, x3, x4, x5, tl, mb, _, bb, _, _, _, _⟩ := SZ.out
              rw [HEQ.out.1] at x1
              rw [HEQ.out.2.1] at x2
              rw [HEQ.out.2.2.1, HEQ.out.2.2.2] at x3
              clear mb bb
              have b0 : (0 : Int) ≤ (i : Int) + 1 := by omega
              have b1 : (0 : Int) ≤ (k : Int) + 1 := by omega
              have b2 : ((i : Int) + 1).toNat = i + 1 := by omega
              have b3 : ((k : Int) + 1).toNat = k + 1 := by omega
              have b4 : (i : Int) < (t.us.xs.length : Int) := by omega
              have b5 : (k : Int) < (t.vs.xs.length : Int) := by omega
              obtain ⟨pi0, pi1, pi2, pi3, pi4⟩ := (show -5000 ≤ nth t.us.xs i ∧ nth t.us.xs i ≤ 5000 ∧ -5000 ≤ nth t.us.xs (i + 1) ∧ nth t.us.xs (i + 1) ≤ 5000 ∧ nth t.us.xs i < nth t.us.xs (i + 1) from ⟨OT.out.us.lo _ (by omega), OT.out.us.hi _ (by omega), OT.out.us.lo _ (by omega), OT.out.us.hi _ (by omega), OT.out.us.up i (by omega)⟩)
              obtain ⟨pk0, pk1, pk2, pk3, pk4⟩ := (show -5000 ≤ nth t.vs.xs k ∧ nth t.vs.xs k ≤ 5000 ∧ -5000 ≤ nth t.vs.xs (k + 1) ∧ nth t.vs.xs (k + 1) ≤ 5000 ∧ nth t.vs.xs k < nth t.vs.xs (k + 1) from ⟨OT.out.vs.lo _ (by omega), OT.out.vs.hi _ (by omega), OT.out.vs.lo _ (by omega), OT.out.vs.hi _ (by omega), OT.out.vs.up k (by omega)⟩)
              obtain ⟨du, hdu⟩ : ∃ du, nth t.us.xs (i + 1) - nth t.us.xs i = du := ⟨_, rfl⟩
              obtain ⟨dv, hdv⟩ : ∃ dv, nth t.vs.xs (k + 1) - nth t.vs.xs k = dv := ⟨_, rfl⟩
              have wu : IntKind.i64.wrap (nth t.us.xs (i + 1) - nth t.us.xs i) = du := by rw [← hdu]; exact IntWalk.i64_in _ (by omega)
              have wv : IntKind.i64.wrap (nth t.vs.xs (k + 1) - nth t.vs.xs k) = dv := by rw [← hdv]; exact IntWalk.i64_in _ (by omega)
              have HDU := Lib.hid hdu
              have HDV := Lib.hid hdv
              clear pi0 pi1 pi2 pi3 pi4 pk0 pk1 pk2 pk3 pk4 hdu hdv
              go_wp2_with fail
              go_quiet (fail)
              obtain ⟨n7, hn7⟩ : ∃ n7, nq = n7 := ⟨_, rfl⟩
              rw [hn7]
              clear hn7
              go_wp2_with fail
              go_quiet (fail)
              have e6 := ((Own.refl wr.heap.size wr).drewN (n7 + nq)).below
              have SY0 := SZ.out.call e6
              have hqm : IntKind.i64.wrap ((q : Int) * (q : Int)) = ((q * q : Nat) : Int) := by
                rcases (show q = 1 ∨ q = 2 ∨ q = 3 ∨ q = 4 by omega) with h | h | h | h <;> (subst h; rfl)
              have hmn : min (tval t i k) (min (tval t i (k + 1)) (min (tval t (i + 1) k) (tval t (i + 1) (k + 1)))) = mn4 t i k := mnx.out.symm
              have hmx : max (tval t i k) (max (tval t i (k + 1)) (max (tval t (i + 1) k) (tval t (i + 1) (k + 1)))) = mx4 t i k := mxx.out.symm
              obtain ⟨mn, emn⟩ : ∃ mn, mn4 t i k = mn := ⟨_, rfl⟩
              obtain ⟨mx, emx⟩ : ∃ mx, mx4 t i k = mx := ⟨_, rfl⟩
              rw [emn] at hmn mm0 mm1
              rw [emx] at hmx mm1 mm2
              have EM := Lib.hid (And.intro emn emx)
              have hq16 : q * q ≤ 16 := Nat.mul_le_mul q4 q4
              have hqn0 : ¬ (q : Int) = 0 := by omega
              have hqn1 : ((q : Int) == 0) = false := by rw [beq_eq_false_iff_ne]; omega
              have hqn2 : ¬ q = 0 := by omega
              have hi1 : i + 1 < t.us.xs.length := by omega
              have hk1 : k + 1 < t.vs.xs.length := by omega
              clear e6 SZ x0 x1 x2 x3 x4 x5 tl cu0 cu1 cv0 cv1 d0 d1 d2 d3 r0 r1 emn emx mnx mxx
              have SY := Lib.hid SY0
              clear SY0
              go_wp2_with fail
              go_loopg [19] (q * q) (fun n j' W' => ∃ j : Nat, j ≤ q * q ∧ n = q * q - j ∧ j' = .int .i64 j ∧ Hid (ShK t T M R ((sm (fun i => sm (feLo t q i) (t.vs.xs.length - 1)) i + sm (feLo t q i) k) + sm (fun j => ptLo t q i k (j / q) (j % q)) j) ((sm (fun i => sm (feHi t q i) (t.vs.xs.length - 1)) i + sm (feHi t q i) k) + sm (fun j => ptHi t q i k (j / q) (j % q)) j) w W'))
              case atStart => exact ⟨0, by omega, by omega, rfl, by simpa [sm] using SY⟩
              case round =>
                clear SY
                obtain ⟨j, hj, hn0, rfl, SJ⟩ := hrel
                have HN3 := Lib.hid hn0
                clear hn0
                by_cases hlt3 : j < q * q
                · have hltj : (j : Int) < ((q * q : Nat) : Int) := by omega
                  obtain ⟨a, ha⟩ : ∃ a, j / q = a := ⟨_, rfl⟩
                  obtain ⟨b, hb⟩ : ∃ b, j % q = b := ⟨_, rfl⟩
                  have ha4 : a < q := by rw [← ha]; exact Nat.div_lt_of_lt_mul hlt3
                  have hb4 : b < q := by rw [← hb]; exact Nat.mod_lt _ q0
                  have ea : (j : Int).tdiv (q : Int) = (a : Int) := by rw [Int.tdiv_eq_ediv_of_nonneg (by omega), ← ha]; rfl
                  have eb : (j : Int).tmod (q : Int) = (b : Int) := by rw [Int.tmod_eq_emod_of_nonneg (by omega), ← hb]; rfl
                  have ea2 : IntKind.i64.wrap (a : Int) = (a : Int) := IntWalk.i64_in _ (by omega)
                  have eb2 : IntKind.i64.wrap (b : Int) = (b : Int) := IntWalk.i64_in _ (by omega)
                  have ea3 : (j : Int) / (q : Int) = (a : Int) := by rw [← ha]; rfl
                  have eb3 : (j : Int) % (q : Int) = (b : Int) := by rw [← hb]; rfl
                  have ej : IntKind.i64.wrap ((j : Int) + 1) = (j : Int) + 1 := IntWalk.i64_in _ (by omega)
                  obtain ⟨f1, f2, f3, f4, f5, f6, f7, f8, f9⟩ := cut_facts OT.out.us hi1 q0 q4 ha4 HDU.out
                  obtain ⟨g1, g2, g3, g4, g5, g6, g7, g8, g9⟩ := cut_facts OT.out.vs hk1 q0 q4 hb4 HDV.out
                  have pu := cut_part OT.out.us hi1 q0 (Nat.le_succ a) ha4
                  have pv := cut_part OT.out.vs hk1 q0 (Nat.le_succ b) hb4
                  have HPL : Hid (ptLo t q i k a b = shLo mn (cutU t.us.xs i q a) (cutU t.us.xs i q (a + 1)) (cutU t.vs.xs k q b) (cutU t.vs.xs k q (b + 1))) := by show ptLo t q i k a b = _; unfold ptLo; rw [EM.out.1]
                  have HPH : Hid (ptHi t q i k a b = shHi mx (cutU t.us.xs i q a) (cutU t.us.xs i q (a + 1)) (cutU t.vs.xs k q b) (cutU t.vs.xs k q (b + 1))) := by show ptHi t q i k a b = _; unfold ptHi; rw [EM.out.2]
                  obtain ⟨pt0, pt1, pt2⟩ := pt_bd OT.out hi1 hk1 ha4 hb4
                  obtain ⟨fr0, fr1⟩ := fr_bd OT.out hi1 (show k + 1 ≤ t.vs.xs.length by omega) q4
                  obtain ⟨tr0, tr1⟩ := tr_bd OT.out (show i + 1 ≤ t.us.xs.length by omega) q4
                  have sj0 := sm_bd (f := fun j => ptLo t q i k (j / q) (j % q)) (c := 1000000000) (n := j) (fun x hx => by have := pt_bd OT.out hi1 hk1 (Nat.div_lt_of_lt_mul (show x < q * q by omega)) (Nat.mod_lt x q0); omega)
                  have sj1 := sm_bd (f := fun j => ptHi t q i k (j / q) (j % q)) (c := 1000000000) (n := j) (fun x hx => by have := pt_bd OT.out hi1 hk1 (Nat.div_lt_of_lt_mul (show x < q * q by omega)) (Nat.mod_lt x q0); omega)
                  have hsl : sm (fun j => ptLo t q i k (j / q) (j % q)) (j + 1) = sm (fun j => ptLo t q i k (j / q) (j % q)) j + ptLo t q i k (j / q) (j % q) := rfl
                  have hsh : sm (fun j => ptHi t q i k (j / q) (j % q)) (j + 1) = sm (fun j => ptHi t q i k (j / q) (j % q)) j + ptHi t q i k (j / q) (j % q) := rfl
                  rw [ha, hb] at hsl hsh
                  obtain ⟨L, hL⟩ : ∃ L, (sm (fun i => sm (feLo t q i) (t.vs.xs.length - 1)) i + sm (feLo t q i) k) + sm (fun j => ptLo t q i k (j / q) (j % q)) j = L := ⟨_, rfl⟩
                  obtain ⟨H, hH⟩ : ∃ H, (sm (fun i => sm (feHi t q i) (t.vs.xs.length - 1)) i + sm (feHi t q i) k) + sm (fun j => ptHi t q i k (j / q) (j % q)) j = H := ⟨_, rfl⟩
                  have HSL : Hid ((sm (fun i => sm (feLo t q i) (t.vs.xs.length - 1)) i + sm (feLo t q i) k) + sm (fun j => ptLo t q i k (j / q) (j % q)) (j + 1) = L + ptLo t q i k a b) := Lib.hid (by rw [hsl, ← hL]; omega)
                  have HSH : Hid ((sm (fun i => sm (feHi t q i) (t.vs.xs.length - 1)) i + sm (feHi t q i) k) + sm (fun j => ptHi t q i k (j / q) (j % q)) (j + 1) = H + ptHi t q i k a b) := Lib.hid (by rw [hsh, ← hH]; omega)
                  have jb : (j : Int) * 1000000000 ≤ 16000000000 := by omega
                  rw [hL, hH] at SJ
                  have xl : IntKind.i64.wrap (L + ptLo t q i k a b) = L + ptLo t q i k a b := IntWalk.i64_in _ (by omega)
                  have xh : IntKind.i64.wrap (H + ptHi t q i k a b) = H + ptHi t q i k a b := IntWalk.i64_in _ (by omega)
                  generalize cutU t.us.xs i q a = u0 at *
                  generalize cutU t.us.xs i q (a + 1) = u1 at *
                  generalize cutU t.vs.xs k q b = v0 at *
                  generalize cutU t.vs.xs k q (b + 1) = v1 at *
                  have RP := Lib.hid (fun W => rpart_any mn mx u0 u1 v0 v1 W pu pv mm0 mm1 mm2)
                  rw [← HPL.out, ← HPH.out] at RP
                  generalize ptLo t q i k a b = pl at *
                  generalize ptHi t q i k a b = ph at *
                  clear hL hH hsl hsh pt0 pt1 pt2 fr0 fr1 tr0 tr1 sj0 sj1 jb pu pv ha hb HPL HPH
                  go_wp2_with fail
                  go_quiet (fail)
                  have e7 := ((Own.refl wr.heap.size wr).drewN nq).below
                  have SK7 := Lib.hid (SJ.out.call e7)
                  clear e7 SJ
                  generalize wr.drewN nq = W7 at *
                  have CX7 := Lib.hid (show ∀ Wz : World, Below W7.heap.size W7 Wz → (Wz.cell? ⟨T, 1, none⟩ = some (.slice (some ⟨ub, uo, none⟩) t.us.xs.length t.us.c) ∧ Wz.cell? ⟨T, 2, none⟩ = some (.slice (some ⟨vb, vo, none⟩) t.vs.xs.length t.vs.c) ∧ Wz.cell? ⟨ub, uo + i, none⟩ = some (.int .i64 (nth t.us.xs i)) ∧ Wz.cell? ⟨vb, vo + k, none⟩ = some (.int .i64 (nth t.vs.xs k))) from fun Wz hz => by
                    have k1 := SK7.out.call hz
                    have y1 := k1.x1
                    have y2 := k1.x2
                    rw [HEQ.out.1] at y1
                    rw [HEQ.out.2.1] at y2
                    exact ⟨y1, y2, FU.out Wz k1.b i (by omega), FV.out Wz k1.b k (by omega)⟩)
                  obtain ⟨y1, y2, y3, y4⟩ := CX7.out W7 (Below.refl _ _)
                  go_wp2_with fail
                  go_upto_region 20 with fail
                  go_cut [22] (fun s22 wx => ∃ g : Nat, s22 = .pointer (some ⟨g, 0, none⟩) ∧ W7.heap.size ≤ g ∧ Bq g pl ph wx ∧ Below W7.heap.size W7 wx)
                  case first =>
                    (try clear ei)
                    (try clear ek)
                    (try clear ej)
                    (try clear eu)
                    (try clear ev)
                    (try clear hqm)
                    (try clear ea)
                    (try clear eb)
                    (try clear ea2)
                    (try clear eb2)
                    (try clear ea3)
                    (try clear eb3)
                    (try clear xl)
                    (try clear xh)
                    (try clear wu)
                    (try clear wv)
                    (try clear hlt')
                    (try clear hltk)
                    (try clear hltj)
                    (try clear b0)
                    (try clear b1)
                    (try clear b2)
                    (try clear b3)
                    (try clear nu0)
                    (try clear nu1)
                    (try clear nv0)
                    (try clear nv1)
                    (try clear hq16)
                    (try clear mm0)
                    (try clear mm1)
                    (try clear mm2)
                    (try clear hi1)
                    (try clear hk1)
                    (try clear hi)
                    (try clear hk)
                    (try clear hj)
                    (try clear s0)
                    (try clear s1)
                    (try clear s3)
                    (try clear s4)
                    (try clear q4)
                    (try clear hlt)
                    (try clear hlt2)
                    (try clear hlt3)
                    (try clear ha4)
                    (try clear hb4)
                    (try clear HN)
                    (try clear HN2)
                    (try clear HN3)
                    (try clear HSL)
                    (try clear HSH)
                    (try clear SK7)
                    (try clear BJ7)
                    (try clear EM)
                    (try clear HEQ)
                    (try clear CU)
                    (try clear F0)
                    (try clear F1)
                    (try clear F2)
                    (try clear HS)
                    (try clear HZ)
                    (try clear OT)
                    (try clear TA)
                    (try clear CI)
                    (try clear HC)
                    (try clear HDU)
                    (try clear HDV)
                    (try clear hm)
                    (try clear tm)
                    (try clear rm)
                    refine wp_region_held_drew (S := fun w' => w'.cell? ⟨T, 1, none⟩ = some (.slice (some ⟨ub, uo, none⟩) t.us.xs.length t.us.c) ∧ w'.cell? ⟨T, 2, none⟩ = some (.slice (some ⟨vb, vo, none⟩) t.vs.xs.length t.vs.c) ∧ w'.cell? ⟨ub, uo + i, none⟩ = some (.int .i64 (nth t.us.xs i)) ∧ w'.cell? ⟨vb, vo + k, none⟩ = some (.int .i64 (nth t.vs.xs k))) (by kernel_rfl) ?_ (fun hHeld => ?_)
                    · (refine CX7.out _ ?_; ((repeat' (first | (with_reducible exact Below.refl _ _) | (with_reducible refine Below.drew ?_) | (with_reducible refine Below.alloc ?_ ?_ _) | (with_reducible refine Below.setCell ?_ ?_ _) | (with_reducible refine Below.trans ?_ (hbp.mono ?_)))); all_goals (first | (simp; done) | (simp; omega) | omega)))
                    refine wpAnyH_take (i := 0) (v := ?_) rfl (by kernel_rfl) (by kernel_rfl) (by kernel_rfl) (fun _ _ _ h => h) (Or.inl ⟨by rfl, ?_⟩) (by assumption) ?_
                    rotate_left
                    (focus (intro ww hSw; (try dsimp only at hSw); go_simp; (try with_reducible rfl)))
                    (try simp only [Act.put, List.setIfInBounds_toArray, List.set_cons_zero, List.set_cons_succ, List.getElem_toArray, List.getElem_cons_zero, List.getElem_cons_succ])
                    refine wpAnyH_take (i := 1) (v := ?_) rfl (by kernel_rfl) (by kernel_rfl) (by kernel_rfl) (fun _ _ _ h => h) (Or.inl ⟨by rfl, ?_⟩) (by assumption) ?_
                    rotate_left
                    (focus (intro ww hSw; (try dsimp only at hSw); go_simp; (try with_reducible rfl)))
                    (try simp only [Act.put, List.setIfInBounds_toArray, List.set_cons_zero, List.set_cons_succ, List.getElem_toArray, List.getElem_cons_zero, List.getElem_cons_succ])
                    refine wpAnyH_take (i := 2) (v := ?_) rfl (by kernel_rfl) (by kernel_rfl) (by kernel_rfl) (fun _ _ _ h => h) (Or.inl ⟨by rfl, ?_⟩) (by assumption) ?_
                    rotate_left
                    (focus (intro ww hSw; (try dsimp only at hSw); go_simp; (try with_reducible rfl)))
                    (try simp only [Act.put, List.setIfInBounds_toArray, List.set_cons_zero, List.set_cons_succ, List.getElem_toArray, List.getElem_cons_zero, List.getElem_cons_succ])
                    refine wpAnyH_take (i := 3) (v := ?_) rfl (by kernel_rfl) (by kernel_rfl) (by kernel_rfl) (fun _ _ _ h => h) (Or.inl ⟨by rfl, ?_⟩) (by assumption) ?_
                    rotate_left
                    (focus (intro ww hSw; (try dsimp only at hSw); go_simp; (try with_reducible rfl)))
                    (try simp only [Act.put, List.setIfInBounds_toArray, List.set_cons_zero, List.set_cons_succ, List.getElem_toArray, List.getElem_cons_zero, List.getElem_cons_succ])
                    refine wpAnyH_take (i := 4) (v := ?_) rfl (by kernel_rfl) (by kernel_rfl) (by kernel_rfl) (fun _ _ _ h => h) (Or.inl ⟨by rfl, ?_⟩) (by assumption) ?_
                    rotate_left
                    (focus (intro ww hSw; (try dsimp only at hSw); go_simp; (try with_reducible rfl)))
                    (try simp only [Act.put, List.setIfInBounds_toArray, List.set_cons_zero, List.set_cons_succ, List.getElem_toArray, List.getElem_cons_zero, List.getElem_cons_succ])
                    refine wpAnyH_take (i := 5) (v := ?_) rfl (by kernel_rfl) (by kernel_rfl) (by kernel_rfl) (fun _ _ _ h => h) (Or.inl ⟨by rfl, ?_⟩) (by assumption) ?_
                    rotate_left
                    (focus (intro ww hSw; (try dsimp only at hSw); go_simp; (try with_reducible rfl)))
                    (try simp only [Act.put, List.setIfInBounds_toArray, List.set_cons_zero, List.set_cons_succ, List.getElem_toArray, List.getElem_cons_zero, List.getElem_cons_succ])
                    refine wpAnyH_take (i := 6) (v := ?_) rfl (by kernel_rfl) (by kernel_rfl) (by kernel_rfl) (fun _ _ _ h => h) (Or.inl ⟨by rfl, ?_⟩) (by assumption) ?_
                    rotate_left
                    (focus (intro ww hSw; (try dsimp only at hSw); go_simp; (try with_reducible rfl)))
                    (try simp only [Act.put, List.setIfInBounds_toArray, List.set_cons_zero, List.set_cons_succ, List.getElem_toArray, List.getElem_cons_zero, List.getElem_cons_succ])
                    refine wpAnyH_take (i := 7) (v := ?_) rfl (by kernel_rfl) (by kernel_rfl) (by kernel_rfl) (fun _ _ _ h => h) (Or.inl ⟨by rfl, ?_⟩) (by assumption) ?_
                    rotate_left
                    (focus (intro ww hSw; (try dsimp only at hSw); go_simp; (try with_reducible rfl)))
                    (try simp only [Act.put, List.setIfInBounds_toArray, List.set_cons_zero, List.set_cons_succ, List.getElem_toArray, List.getElem_cons_zero, List.getElem_cons_succ])
                    refine wpAnyH_take (i := 8) (v := ?_) rfl (by kernel_rfl) (by kernel_rfl) (by kernel_rfl) (fun _ _ _ h => h) (Or.inl ⟨by rfl, ?_⟩) (by assumption) ?_
                    rotate_left
                    (focus (intro ww hSw; (try dsimp only at hSw); go_simp; (try with_reducible rfl)))
                    (try simp only [Act.put, List.setIfInBounds_toArray, List.set_cons_zero, List.set_cons_succ, List.getElem_toArray, List.getElem_cons_zero, List.getElem_cons_succ])
                    refine wpAnyH_take (i := 9) (v := ?_) rfl (by kernel_rfl) (by kernel_rfl) (by kernel_rfl) (fun _ _ _ h => h) (Or.inl ⟨by rfl, ?_⟩) (by assumption) ?_
                    rotate_left
                    (focus (intro ww hSw; (try dsimp only at hSw); go_simp; (try with_reducible rfl)))
                    (try simp only [Act.put, List.setIfInBounds_toArray, List.set_cons_zero, List.set_cons_succ, List.getElem_toArray, List.getElem_cons_zero, List.getElem_cons_succ])
                    refine wpAnyH_take (i := 10) (v := ?_) rfl (by kernel_rfl) (by kernel_rfl) (by kernel_rfl) (fun _ _ _ h => h) (Or.inl ⟨by rfl, ?_⟩) (by assumption) ?_
                    rotate_left
                    (focus (intro ww hSw; (try dsimp only at hSw); go_simp; (try with_reducible rfl)))
                    (try simp only [Act.put, List.setIfInBounds_toArray, List.set_cons_zero, List.set_cons_succ, List.getElem_toArray, List.getElem_cons_zero, List.getElem_cons_succ])
                    refine wpAnyH_take (i := 11) (v := ?_) rfl (by kernel_rfl) (by kernel_rfl) (by kernel_rfl) (fun _ _ _ h => h) (Or.inl ⟨by rfl, ?_⟩) (by assumption) ?_
                    rotate_left
                    (focus (intro ww hSw; (try dsimp only at hSw); go_simp; (try with_reducible rfl)))
                    (try simp only [Act.put, List.setIfInBounds_toArray, List.set_cons_zero, List.set_cons_succ, List.getElem_toArray, List.getElem_cons_zero, List.getElem_cons_succ])
                    refine wpAnyH_take (i := 12) (v := ?_) rfl (by kernel_rfl) (by kernel_rfl) (by kernel_rfl) (fun _ _ _ h => h) (Or.inl ⟨by rfl, ?_⟩) (by assumption) ?_
                    rotate_left
                    (focus (intro ww hSw; (try dsimp only at hSw); go_simp; (try with_reducible rfl)))
                    (try simp only [Act.put, List.setIfInBounds_toArray, List.set_cons_zero, List.set_cons_succ, List.getElem_toArray, List.getElem_cons_zero, List.getElem_cons_succ])
                    refine wpAnyH_take (i := 13) (v := ?_) rfl (by kernel_rfl) (by kernel_rfl) (by kernel_rfl) (fun _ _ _ h => h) (Or.inl ⟨by rfl, ?_⟩) (by assumption) ?_
                    rotate_left
                    (focus (intro ww hSw; (try dsimp only at hSw); go_simp; (try with_reducible rfl)))
                    (try simp only [Act.put, List.setIfInBounds_toArray, List.set_cons_zero, List.set_cons_succ, List.getElem_toArray, List.getElem_cons_zero, List.getElem_cons_succ])
                    refine wpAnyH_take (i := 14) (v := ?_) rfl (by kernel_rfl) (by kernel_rfl) (by kernel_rfl) (fun _ _ _ h => h) (Or.inl ⟨by rfl, ?_⟩) (by assumption) ?_
                    rotate_left
                    (focus (intro ww hSw; (try dsimp only at hSw); go_simp; (try with_reducible rfl)))
                    (try simp only [Act.put, List.setIfInBounds_toArray, List.set_cons_zero, List.set_cons_succ, List.getElem_toArray, List.getElem_cons_zero, List.getElem_cons_succ])
                    refine wpAnyH_take (i := 15) (v := ?_) rfl (by kernel_rfl) (by kernel_rfl) (by kernel_rfl) (fun _ _ _ h => h) (Or.inl ⟨by rfl, ?_⟩) (by assumption) ?_
                    rotate_left
                    (focus (intro ww hSw; (try dsimp only at hSw); go_simp; (try with_reducible rfl)))
                    (try simp only [Act.put, List.setIfInBounds_toArray, List.set_cons_zero, List.set_cons_succ, List.getElem_toArray, List.getElem_cons_zero, List.getElem_cons_succ])
                    refine wpAnyH_take (i := 16) (v := ?_) rfl (by kernel_rfl) (by kernel_rfl) (by kernel_rfl) (fun _ _ _ h => h) (Or.inl ⟨by rfl, ?_⟩) (by assumption) ?_
                    rotate_left
                    (focus (intro ww hSw; (try dsimp only at hSw); go_simp; (try with_reducible rfl)))
                    (try simp only [Act.put, List.setIfInBounds_toArray, List.set_cons_zero, List.set_cons_succ, List.getElem_toArray, List.getElem_cons_zero, List.getElem_cons_succ])
                    refine wpAnyH_take (i := 17) (v := ?_) rfl (by kernel_rfl) (by kernel_rfl) (by kernel_rfl) (fun _ _ _ h => h) (Or.inl ⟨by rfl, ?_⟩) (by assumption) ?_
                    rotate_left
                    (focus (intro ww hSw; (try dsimp only at hSw); go_simp; (try with_reducible rfl)))
                    (try simp only [Act.put, List.setIfInBounds_toArray, List.set_cons_zero, List.set_cons_succ, List.getElem_toArray, List.getElem_cons_zero, List.getElem_cons_succ])
                    refine wpAnyH_take (i := 18) (v := ?_) rfl (by kernel_rfl) (by kernel_rfl) (by kernel_rfl) (fun _ _ _ h => h) (Or.inl ⟨by rfl, ?_⟩) (by assumption) ?_
                    rotate_left
                    (focus (intro ww hSw; (try dsimp only at hSw); go_simp; (try with_reducible rfl)))
                    (try simp only [Act.put, List.setIfInBounds_toArray, List.set_cons_zero, List.set_cons_succ, List.getElem_toArray, List.getElem_cons_zero, List.getElem_cons_succ])
                    refine wpAnyH_take (i := 19) (v := ?_) rfl (by kernel_rfl) (by kernel_rfl) (by kernel_rfl) (fun _ _ _ h => h) (Or.inl ⟨by rfl, ?_⟩) (by assumption) ?_
                    rotate_left
                    (focus (intro ww hSw; (try dsimp only at hSw); go_simp; (try with_reducible rfl)))
                    (try simp only [Act.put, List.setIfInBounds_toArray, List.set_cons_zero, List.set_cons_succ, List.getElem_toArray, List.getElem_cons_zero, List.getElem_cons_succ])
                    refine wpAnyH_take (i := 20) (v := ?_) rfl (by kernel_rfl) (by kernel_rfl) (by kernel_rfl) (fun _ _ _ h => h) (Or.inl ⟨by rfl, ?_⟩) (by assumption) ?_
                    rotate_left
                    (focus (intro ww hSw; (try dsimp only at hSw); go_simp; (try with_reducible rfl)))
                    (try simp only [Act.put, List.setIfInBounds_toArray, List.set_cons_zero, List.set_cons_succ, List.getElem_toArray, List.getElem_cons_zero, List.getElem_cons_succ])
                    refine wpAnyH_take (i := 21) (v := ?_) rfl (by kernel_rfl) (by kernel_rfl) (by kernel_rfl) (fun _ _ _ h => h) (Or.inl ⟨by rfl, ?_⟩) (by assumption) ?_
                    rotate_left
                    (focus (intro ww hSw; (try dsimp only at hSw); go_simp; (try with_reducible rfl)))
                    (try simp only [Act.put, List.setIfInBounds_toArray, List.set_cons_zero, List.set_cons_succ, List.getElem_toArray, List.getElem_cons_zero, List.getElem_cons_succ])
                    refine wpAnyH_take (i := 22) (v := ?_) rfl (by kernel_rfl) (by kernel_rfl) (by kernel_rfl) (fun _ _ _ h => h) (Or.inl ⟨by rfl, ?_⟩) (by assumption) ?_
                    rotate_left
                    (focus (intro ww hSw; (try dsimp only at hSw); go_simp; (try with_reducible rfl)))
                    (try simp only [Act.put, List.setIfInBounds_toArray, List.set_cons_zero, List.set_cons_succ, List.getElem_toArray, List.getElem_cons_zero, List.getElem_cons_succ])
                    refine wpAnyH_take (i := 23) (v := ?_) rfl (by kernel_rfl) (by kernel_rfl) (by kernel_rfl) (fun _ _ _ h => h) (Or.inl ⟨by rfl, ?_⟩) (by assumption) ?_
                    rotate_left
                    (focus (intro ww hSw; (try dsimp only at hSw); go_simp; (try with_reducible rfl)))
                    (try simp only [Act.put, List.setIfInBounds_toArray, List.set_cons_zero, List.set_cons_succ, List.getElem_toArray, List.getElem_cons_zero, List.getElem_cons_succ])
                    refine wpAnyH_take (i := 24) (v := ?_) rfl (by kernel_rfl) (by kernel_rfl) (by kernel_rfl) (fun _ _ _ h => h) (Or.inl ⟨by rfl, ?_⟩) (by assumption) ?_
                    rotate_left
                    (focus (intro ww hSw; (try dsimp only at hSw); go_simp; (try with_reducible rfl)))
                    (try simp only [Act.put, List.setIfInBounds_toArray, List.set_cons_zero, List.set_cons_succ, List.getElem_toArray, List.getElem_cons_zero, List.getElem_cons_succ])
                    refine wpAnyH_take (i := 25) (v := ?_) rfl (by kernel_rfl) (by kernel_rfl) (by kernel_rfl) (fun _ _ _ h => h) (Or.inl ⟨by rfl, ?_⟩) (by assumption) ?_
                    rotate_left
                    (focus (intro ww hSw; (try dsimp only at hSw); go_simp; (try with_reducible rfl)))
                    (try simp only [Act.put, List.setIfInBounds_toArray, List.set_cons_zero, List.set_cons_succ, List.getElem_toArray, List.getElem_cons_zero, List.getElem_cons_succ])
                    refine wpAnyH_take (i := 26) (v := ?_) rfl (by kernel_rfl) (by kernel_rfl) (by kernel_rfl) (fun _ _ _ h => h) (Or.inl ⟨by rfl, ?_⟩) (by assumption) ?_
                    rotate_left
                    (focus (intro ww hSw; (try dsimp only at hSw); go_simp; (try with_reducible rfl)))
                    (try simp only [Act.put, List.setIfInBounds_toArray, List.set_cons_zero, List.set_cons_succ, List.getElem_toArray, List.getElem_cons_zero, List.getElem_cons_succ])
                    refine wpAnyH_take (i := 27) (v := ?_) rfl (by kernel_rfl) (by kernel_rfl) (by kernel_rfl) (fun _ _ _ h => h) (Or.inl ⟨by rfl, ?_⟩) (by assumption) ?_
                    rotate_left
                    (focus (intro ww hSw; (try dsimp only at hSw); go_simp; (try with_reducible rfl)))
                    (try simp only [Act.put, List.setIfInBounds_toArray, List.set_cons_zero, List.set_cons_succ, List.getElem_toArray, List.getElem_cons_zero, List.getElem_cons_succ])
                    refine wpAnyH_take (i := 28) (v := ?_) rfl (by kernel_rfl) (by kernel_rfl) (by kernel_rfl) (fun _ _ _ h => h) (Or.inl ⟨by rfl, ?_⟩) (by assumption) ?_
                    rotate_left
                    (focus (intro ww hSw; (try dsimp only at hSw); go_simp; (try with_reducible rfl)))
                    (try simp only [Act.put, List.setIfInBounds_toArray, List.set_cons_zero, List.set_cons_succ, List.getElem_toArray, List.getElem_cons_zero, List.getElem_cons_succ])
                    refine wpAnyH_take (i := 29) (v := ?_) rfl (by kernel_rfl) (by kernel_rfl) (by kernel_rfl) (fun _ _ _ h => h) (Or.inl ⟨by rfl, ?_⟩) (by assumption) ?_
                    rotate_left
                    (focus (intro ww hSw; (try dsimp only at hSw); go_simp; (try with_reducible rfl)))
                    (try simp only [Act.put, List.setIfInBounds_toArray, List.set_cons_zero, List.set_cons_succ, List.getElem_toArray, List.getElem_cons_zero, List.getElem_cons_succ])
                    refine wpAnyH_take (i := 30) (v := ?_) rfl (by kernel_rfl) (by kernel_rfl) (by kernel_rfl) (fun _ _ _ h => h) (Or.inl ⟨by rfl, ?_⟩) (by assumption) ?_
                    rotate_left
                    (focus (intro ww hSw; (try dsimp only at hSw); go_simp; (try with_reducible rfl)))
                    (try simp only [Act.put, List.setIfInBounds_toArray, List.set_cons_zero, List.set_cons_succ, List.getElem_toArray, List.getElem_cons_zero, List.getElem_cons_succ])
                    refine wpAnyH_take (i := 31) (v := ?_) rfl (by kernel_rfl) (by kernel_rfl) (by kernel_rfl) (fun _ _ _ h => h) (Or.inl ⟨by rfl, ?_⟩) (by assumption) ?_
                    rotate_left
                    (focus (intro ww hSw; (try dsimp only at hSw); go_simp; (try with_reducible rfl)))
                    (try simp only [Act.put, List.setIfInBounds_toArray, List.set_cons_zero, List.set_cons_succ, List.getElem_toArray, List.getElem_cons_zero, List.getElem_cons_succ])
                    refine wpAnyH_take (i := 32) (v := ?_) rfl (by kernel_rfl) (by kernel_rfl) (by kernel_rfl) (fun _ _ _ h => h) (Or.inl ⟨by rfl, ?_⟩) (by assumption) ?_
                    rotate_left
                    (focus (intro ww hSw; (try dsimp only at hSw); go_simp; (try with_reducible rfl)))
                    (try simp only [Act.put, List.setIfInBounds_toArray, List.set_cons_zero, List.set_cons_succ, List.getElem_toArray, List.getElem_cons_zero, List.getElem_cons_succ])
                    refine wpAnyH_take (i := 33) (v := ?_) rfl (by kernel_rfl) (by kernel_rfl) (by kernel_rfl) (fun _ _ _ h => h) (Or.inl ⟨by rfl, ?_⟩) (by assumption) ?_
                    rotate_left
                    (focus (intro ww hSw; (try dsimp only at hSw); go_simp; (try with_reducible rfl)))
                    (try simp only [Act.put, List.setIfInBounds_toArray, List.set_cons_zero, List.set_cons_succ, List.getElem_toArray, List.getElem_cons_zero, List.getElem_cons_succ])
                    refine wpAnyH_take (i := 34) (v := ?_) rfl (by kernel_rfl) (by kernel_rfl) (by kernel_rfl) (fun _ _ _ h => h) (Or.inl ⟨by rfl, ?_⟩) (by assumption) ?_
                    rotate_left
                    (focus (intro ww hSw; (try dsimp only at hSw); go_simp; (try with_reducible rfl)))
                    (try simp only [Act.put, List.setIfInBounds_toArray, List.set_cons_zero, List.set_cons_succ, List.getElem_toArray, List.getElem_cons_zero, List.getElem_cons_succ])
                    refine wpAnyH_take (i := 35) (v := ?_) rfl (by kernel_rfl) (by kernel_rfl) (by kernel_rfl) (fun _ _ _ h => h) (Or.inl ⟨by rfl, ?_⟩) (by assumption) ?_
                    rotate_left
                    (focus (intro ww hSw; (try dsimp only at hSw); go_simp; (try with_reducible rfl)))
                    (try simp only [Act.put, List.setIfInBounds_toArray, List.set_cons_zero, List.set_cons_succ, List.getElem_toArray, List.getElem_cons_zero, List.getElem_cons_succ])
                    refine wpAnyH_take (i := 36) (v := ?_) rfl (by kernel_rfl) (by kernel_rfl) (by kernel_rfl) (fun _ _ _ h => h) (Or.inl ⟨by rfl, ?_⟩) (by assumption) ?_
                    rotate_left
                    (focus (intro ww hSw; (try dsimp only at hSw); go_simp; (try with_reducible rfl)))
                    (try simp only [Act.put, List.setIfInBounds_toArray, List.set_cons_zero, List.set_cons_succ, List.getElem_toArray, List.getElem_cons_zero, List.getElem_cons_succ])
                    refine wpAnyH_take (i := 37) (v := ?_) rfl (by kernel_rfl) (by kernel_rfl) (by kernel_rfl) (fun _ _ _ h => h) (Or.inl ⟨by rfl, ?_⟩) (by assumption) ?_
                    rotate_left
                    (focus (intro ww hSw; (try dsimp only at hSw); go_simp; (try with_reducible rfl)))
                    (try simp only [Act.put, List.setIfInBounds_toArray, List.set_cons_zero, List.set_cons_succ, List.getElem_toArray, List.getElem_cons_zero, List.getElem_cons_succ])
                    refine wpAnyH_take (i := 38) (v := ?_) rfl (by kernel_rfl) (by kernel_rfl) (by kernel_rfl) (fun _ _ _ h => h) (Or.inl ⟨by rfl, ?_⟩) (by assumption) ?_
                    rotate_left
                    (focus (intro ww hSw; (try dsimp only at hSw); go_simp; (try with_reducible rfl)))
                    (try simp only [Act.put, List.setIfInBounds_toArray, List.set_cons_zero, List.set_cons_succ, List.getElem_toArray, List.getElem_cons_zero, List.getElem_cons_succ])
                    refine wpAnyH_take (i := 39) (v := ?_) rfl (by kernel_rfl) (by kernel_rfl) (by kernel_rfl) (fun _ _ _ h => h) (Or.inl ⟨by rfl, ?_⟩) (by assumption) ?_
                    rotate_left
                    (focus (intro ww hSw; (try dsimp only at hSw); go_simp; (try with_reducible rfl)))
                    (try simp only [Act.put, List.setIfInBounds_toArray, List.set_cons_zero, List.set_cons_succ, List.getElem_toArray, List.getElem_cons_zero, List.getElem_cons_succ])
                    refine wpAnyH_take (i := 40) (v := ?_) rfl (by kernel_rfl) (by kernel_rfl) (by kernel_rfl) (fun _ _ _ h => h) (Or.inl ⟨by rfl, ?_⟩) (by assumption) ?_
                    rotate_left
                    (focus (intro ww hSw; (try dsimp only at hSw); go_simp; (try with_reducible rfl)))
                    (try simp only [Act.put, List.setIfInBounds_toArray, List.set_cons_zero, List.set_cons_succ, List.getElem_toArray, List.getElem_cons_zero, List.getElem_cons_succ])
                    refine wpAnyH_take (i := 41) (v := ?_) rfl (by kernel_rfl) (by kernel_rfl) (by kernel_rfl) (fun _ _ _ h => h) (Or.inl ⟨by rfl, ?_⟩) (by assumption) ?_
                    rotate_left
                    (focus (intro ww hSw; (try dsimp only at hSw); go_simp; (try with_reducible rfl)))
                    (try simp only [Act.put, List.setIfInBounds_toArray, List.set_cons_zero, List.set_cons_succ, List.getElem_toArray, List.getElem_cons_zero, List.getElem_cons_succ])
                    refine wpAnyH_take (i := 42) (v := ?_) rfl (by kernel_rfl) (by kernel_rfl) (by kernel_rfl) (fun _ _ _ h => h) (Or.inl ⟨by rfl, ?_⟩) (by assumption) ?_
                    rotate_left
                    (focus (intro ww hSw; (try dsimp only at hSw); go_simp; (try with_reducible rfl)))
                    (try simp only [Act.put, List.setIfInBounds_toArray, List.set_cons_zero, List.set_cons_succ, List.getElem_toArray, List.getElem_cons_zero, List.getElem_cons_succ])
                    refine wpAnyH_take (i := 43) (v := ?_) rfl (by kernel_rfl) (by kernel_rfl) (by kernel_rfl) (fun _ _ _ h => h) (Or.inl ⟨by rfl, ?_⟩) (by assumption) ?_
                    rotate_left
                    (focus (intro ww hSw; (try dsimp only at hSw); go_simp; (try with_reducible rfl)))
                    (try simp only [Act.put, List.setIfInBounds_toArray, List.set_cons_zero, List.set_cons_succ, List.getElem_toArray, List.getElem_cons_zero, List.getElem_cons_succ])
                    refine wpAnyH_take (i := 44) (v := ?_) rfl (by kernel_rfl) (by kernel_rfl) (by kernel_rfl) (fun _ _ _ h => h) (Or.inl ⟨by rfl, ?_⟩) (by assumption) ?_
                    rotate_left
                    (focus (intro ww hSw; (try dsimp only at hSw); go_simp; (try with_reducible rfl)))
                    (try simp only [Act.put, List.setIfInBounds_toArray, List.set_cons_zero, List.set_cons_succ, List.getElem_toArray, List.getElem_cons_zero, List.getElem_cons_succ])
                    refine wpAnyH_take (i := 45) (v := ?_) rfl (by kernel_rfl) (by kernel_rfl) (by kernel_rfl) (fun _ _ _ h => h) (Or.inl ⟨by rfl, ?_⟩) (by assumption) ?_
                    rotate_left
                    (focus (intro ww hSw; (try dsimp only at hSw); go_simp; (try with_reducible rfl)))
                    (try simp only [Act.put, List.setIfInBounds_toArray, List.set_cons_zero, List.set_cons_succ, List.getElem_toArray, List.getElem_cons_zero, List.getElem_cons_succ])
                    refine wpAnyH_take (i := 46) (v := ?_) rfl (by kernel_rfl) (by kernel_rfl) (by kernel_rfl) (fun _ _ _ h => h) (Or.inl ⟨by rfl, ?_⟩) (by assumption) ?_
                    rotate_left
                    (focus (intro ww hSw; (try dsimp only at hSw); go_simp; (try with_reducible rfl)))
                    (try simp only [Act.put, List.setIfInBounds_toArray, List.set_cons_zero, List.set_cons_succ, List.getElem_toArray, List.getElem_cons_zero, List.getElem_cons_succ])
                    refine wpAnyH_take (i := 47) (v := ?_) rfl (by kernel_rfl) (by kernel_rfl) (by kernel_rfl) (fun _ _ _ h => h) (Or.inl ⟨by rfl, ?_⟩) (by assumption) ?_
                    rotate_left
                    (focus (intro ww hSw; (try dsimp only at hSw); go_simp; (try with_reducible rfl)))
                    (try simp only [Act.put, List.setIfInBounds_toArray, List.set_cons_zero, List.set_cons_succ, List.getElem_toArray, List.getElem_cons_zero, List.getElem_cons_succ])
                    refine wpAnyH_take (i := 48) (v := ?_) rfl (by kernel_rfl) (by kernel_rfl) (by kernel_rfl) (fun _ _ _ h => h) (Or.inl ⟨by rfl, ?_⟩) (by assumption) ?_
                    rotate_left
                    (focus (intro ww hSw; (try dsimp only at hSw); go_simp; (try with_reducible rfl)))
                    (try simp only [Act.put, List.setIfInBounds_toArray, List.set_cons_zero, List.set_cons_succ, List.getElem_toArray, List.getElem_cons_zero, List.getElem_cons_succ])
                    refine wpAnyH_take (i := 49) (v := ?_) rfl (by kernel_rfl) (by kernel_rfl) (by kernel_rfl) (fun _ _ _ h => h) (Or.inl ⟨by rfl, ?_⟩) (by assumption) ?_
                    rotate_left
                    (focus (intro ww hSw; (try dsimp only at hSw); go_simp; (try with_reducible rfl)))
                    (try simp only [Act.put, List.setIfInBounds_toArray, List.set_cons_zero, List.set_cons_succ, List.getElem_toArray, List.getElem_cons_zero, List.getElem_cons_succ])
                    refine wpAnyH_take (i := 50) (v := ?_) rfl (by kernel_rfl) (by kernel_rfl) (by kernel_rfl) (fun _ _ _ h => h) (Or.inl ⟨by rfl, ?_⟩) (by assumption) ?_
                    rotate_left
                    (focus (intro ww hSw; (try dsimp only at hSw); go_simp; (try with_reducible rfl)))
                    (try simp only [Act.put, List.setIfInBounds_toArray, List.set_cons_zero, List.set_cons_succ, List.getElem_toArray, List.getElem_cons_zero, List.getElem_cons_succ])
                    refine wpAnyH_take (i := 51) (v := ?_) rfl (by kernel_rfl) (by kernel_rfl) (by kernel_rfl) (fun _ _ _ h => h) (Or.inl ⟨by rfl, ?_⟩) (by assumption) ?_
                    rotate_left
                    (focus (intro ww hSw; (try dsimp only at hSw); go_simp; (try with_reducible rfl)))
                    (try simp only [Act.put, List.setIfInBounds_toArray, List.set_cons_zero, List.set_cons_succ, List.getElem_toArray, List.getElem_cons_zero, List.getElem_cons_succ])
                    refine wpAnyH_take (i := 52) (v := ?_) rfl (by kernel_rfl) (by kernel_rfl) (by kernel_rfl) (fun _ _ _ h => h) (Or.inl ⟨by rfl, ?_⟩) (by assumption) ?_
                    rotate_left
                    (focus (intro ww hSw; (try dsimp only at hSw); go_simp; (try with_reducible rfl)))
                    (try simp only [Act.put, List.setIfInBounds_toArray, List.set_cons_zero, List.set_cons_succ, List.getElem_toArray, List.getElem_cons_zero, List.getElem_cons_succ])
                    refine wpAnyH_take (i := 53) (v := ?_) rfl (by kernel_rfl) (by kernel_rfl) (by kernel_rfl) (fun _ _ _ h => h) (Or.inl ⟨by rfl, ?_⟩) (by assumption) ?_
                    rotate_left
                    (focus (intro ww hSw; (try dsimp only at hSw); go_simp; (try with_reducible rfl)))
                    (try simp only [Act.put, List.setIfInBounds_toArray, List.set_cons_zero, List.set_cons_succ, List.getElem_toArray, List.getElem_cons_zero, List.getElem_cons_succ])
                    refine wpAnyH_take (i := 54) (v := ?_) rfl (by kernel_rfl) (by kernel_rfl) (by kernel_rfl) (fun _ _ _ h => h) (Or.inl ⟨by rfl, ?_⟩) (by assumption) ?_
                    rotate_left
                    (focus (intro ww hSw; (try dsimp only at hSw); go_simp; (try with_reducible rfl)))
                    (try simp only [Act.put, List.setIfInBounds_toArray, List.set_cons_zero, List.set_cons_succ, List.getElem_toArray, List.getElem_cons_zero, List.getElem_cons_succ])
                    refine wpAnyH_take (i := 55) (v := ?_) rfl (by kernel_rfl) (by kernel_rfl) (by kernel_rfl) (fun _ _ _ h => h) (Or.inl ⟨by rfl, ?_⟩) (by assumption) ?_
                    rotate_left
                    (focus (intro ww hSw; (try dsimp only at hSw); go_simp; (try with_reducible rfl)))
                    (try simp only [Act.put, List.setIfInBounds_toArray, List.set_cons_zero, List.set_cons_succ, List.getElem_toArray, List.getElem_cons_zero, List.getElem_cons_succ])
                    refine wpAnyH_ready (rs := [56, 57]) (by kernel_rfl) (by simp) ?_
                    refine AllReadyH.cons rfl (fun K hK => ?_) (AllReadyH.cons rfl (fun K hK => ?_) AllReadyH.nil)
                    · go_simp
                      (go_at_call 59; (with_reducible refine Calls.mono (RP.out _) ?_); rintro e wp ⟨rfl, op⟩; have hbp := op.below; have hcp := (bcb hbp).1; have hfp := (bcb hbp).2; have hzp := hbp.size; (try simp only [World.size_drew] at hcp hfp); (try simp at hzp); (try have gp1 : W7.heap.size < wp.heap.size := by omega); (try have gp2 : W7.heap.size ≠ wp.heap.size := by omega))
                      (try go_wp2_with fail)
                      refine hK.out _ _ ?_ (fun hHeld => ?_)
                      · (refine CX7.out _ ?_; ((repeat' (first | (with_reducible exact Below.refl _ _) | (with_reducible refine Below.drew ?_) | (with_reducible refine Below.alloc ?_ ?_ _) | (with_reducible refine Below.setCell ?_ ?_ _) | (with_reducible refine Below.trans ?_ (hbp.mono ?_)))); all_goals (first | (simp; done) | (simp; omega) | omega)))
                      clear hK K
                      (try simp only [Act.put, List.setIfInBounds_toArray, List.set_cons_zero, List.set_cons_succ, List.getElem_toArray, List.getElem_cons_zero, List.getElem_cons_succ])
                      refine wpAnyH_ready (rs := [57]) (by kernel_rfl) (by simp) ?_
                      refine AllReadyH.cons rfl (fun K hK => ?_) AllReadyH.nil
                      go_simp
                      (try go_wp2_with fail)
                      refine hK.out _ _ ?_ (fun hHeld => ?_)
                      · (refine CX7.out _ ?_; ((repeat' (first | (with_reducible exact Below.refl _ _) | (with_reducible refine Below.drew ?_) | (with_reducible refine Below.alloc ?_ ?_ _) | (with_reducible refine Below.setCell ?_ ?_ _) | (with_reducible refine Below.trans ?_ (hbp.mono ?_)))); all_goals (first | (simp; done) | (simp; omega) | omega)))
                      clear hK K
                      (try simp only [Act.put, List.setIfInBounds_toArray, List.set_cons_zero, List.set_cons_succ, List.getElem_toArray, List.getElem_cons_zero, List.getElem_cons_succ])
                      refine wpAnyH_ready (rs := [58]) (by kernel_rfl) (by simp) ?_
                      refine AllReadyH.cons rfl (fun K hK => ?_) AllReadyH.nil
                      go_simp
                      (try go_wp2_with fail)
                      refine hK.out _ _ ?_ (fun hHeld => ?_)
                      · (refine CX7.out _ ?_; ((repeat' (first | (with_reducible exact Below.refl _ _) | (with_reducible refine Below.drew ?_) | (with_reducible refine Below.alloc ?_ ?_ _) | (with_reducible refine Below.setCell ?_ ?_ _) | (with_reducible refine Below.trans ?_ (hbp.mono ?_)))); all_goals (first | (simp; done) | (simp; omega) | omega)))
                      clear hK K
                      (try simp only [Act.put, List.setIfInBounds_toArray, List.set_cons_zero, List.set_cons_succ, List.getElem_toArray, List.getElem_cons_zero, List.getElem_cons_succ])
                      refine wpAnyH_done (by kernel_rfl) ?_ _
                      go_wp2_with fail
                      go_meet
                      case rel =>
                        refine ⟨_, rfl, ?_, ?_, ?_⟩
                        · first | (simp; done) | omega | (simp; omega)
                        · (repeat' (first | ((with_reducible refine Bq.freshAt ?_ _ _ _); focus (simp; done)) | (with_reducible refine Bq.alloc ?_ _) | (with_reducible refine Bq.drew ?_) | (with_reducible refine Bq.below ?_ hbp) | (with_reducible refine Bq.set (x := 0) (y := 0) ?_ _ _) | ((with_reducible refine Bq.other ?_ ?_ _ _); rotate_left; focus (first | omega | (simp; omega)))))
                        · ((repeat' (first | (with_reducible exact Below.refl _ _) | (with_reducible refine Below.drew ?_) | (with_reducible refine Below.alloc ?_ ?_ _) | (with_reducible refine Below.setCell ?_ ?_ _) | (with_reducible refine Below.trans ?_ (hbp.mono ?_)))); all_goals (first | (simp; done) | (simp; omega) | omega))
                    · go_simp
                      (try go_wp2_with fail)
                      refine hK.out _ _ ?_ (fun hHeld => ?_)
                      · (refine CX7.out _ ?_; ((repeat' (first | (with_reducible exact Below.refl _ _) | (with_reducible refine Below.drew ?_) | (with_reducible refine Below.alloc ?_ ?_ _) | (with_reducible refine Below.setCell ?_ ?_ _) | (with_reducible refine Below.trans ?_ (hbp.mono ?_)))); all_goals (first | (simp; done) | (simp; omega) | omega)))
                      clear hK K
                      (try simp only [Act.put, List.setIfInBounds_toArray, List.set_cons_zero, List.set_cons_succ, List.getElem_toArray, List.getElem_cons_zero, List.getElem_cons_succ])
                      refine wpAnyH_ready (rs := [56]) (by kernel_rfl) (by simp) ?_
                      refine AllReadyH.cons rfl (fun K hK => ?_) AllReadyH.nil
                      go_simp
                      (go_at_call 59; (with_reducible refine Calls.mono (RP.out _) ?_); rintro e wp ⟨rfl, op⟩; have hbp := op.below; have hcp := (bcb hbp).1; have hfp := (bcb hbp).2; have hzp := hbp.size; (try simp only [World.size_drew] at hcp hfp); (try simp at hzp); (try have gp1 : W7.heap.size < wp.heap.size := by omega); (try have gp2 : W7.heap.size ≠ wp.heap.size := by omega))
                      (try go_wp2_with fail)
                      refine hK.out _ _ ?_ (fun hHeld => ?_)
                      · (refine CX7.out _ ?_; ((repeat' (first | (with_reducible exact Below.refl _ _) | (with_reducible refine Below.drew ?_) | (with_reducible refine Below.alloc ?_ ?_ _) | (with_reducible refine Below.setCell ?_ ?_ _) | (with_reducible refine Below.trans ?_ (hbp.mono ?_)))); all_goals (first | (simp; done) | (simp; omega) | omega)))
                      clear hK K
                      (try simp only [Act.put, List.setIfInBounds_toArray, List.set_cons_zero, List.set_cons_succ, List.getElem_toArray, List.getElem_cons_zero, List.getElem_cons_succ])
                      refine wpAnyH_ready (rs := [58]) (by kernel_rfl) (by simp) ?_
                      refine AllReadyH.cons rfl (fun K hK => ?_) AllReadyH.nil
                      go_simp
                      (try go_wp2_with fail)
                      refine hK.out _ _ ?_ (fun hHeld => ?_)
                      · (refine CX7.out _ ?_; ((repeat' (first | (with_reducible exact Below.refl _ _) | (with_reducible refine Below.drew ?_) | (with_reducible refine Below.alloc ?_ ?_ _) | (with_reducible refine Below.setCell ?_ ?_ _) | (with_reducible refine Below.trans ?_ (hbp.mono ?_)))); all_goals (first | (simp; done) | (simp; omega) | omega)))
                      clear hK K
                      (try simp only [Act.put, List.setIfInBounds_toArray, List.set_cons_zero, List.set_cons_succ, List.getElem_toArray, List.getElem_cons_zero, List.getElem_cons_succ])
                      refine wpAnyH_done (by kernel_rfl) ?_ _
                      go_wp2_with fail
                      go_meet
                      case rel =>
                        refine ⟨_, rfl, ?_, ?_, ?_⟩
                        · first | (simp; done) | omega | (simp; omega)
                        · (repeat' (first | ((with_reducible refine Bq.freshAt ?_ _ _ _); focus (simp; done)) | (with_reducible refine Bq.alloc ?_ _) | (with_reducible refine Bq.drew ?_) | (with_reducible refine Bq.below ?_ hbp) | (with_reducible refine Bq.set (x := 0) (y := 0) ?_ _ _) | ((with_reducible refine Bq.other ?_ ?_ _ _); rotate_left; focus (first | omega | (simp; omega)))))
                        · ((repeat' (first | (with_reducible exact Below.refl _ _) | (with_reducible refine Below.drew ?_) | (with_reducible refine Below.alloc ?_ ?_ _) | (with_reducible refine Below.setCell ?_ ?_ _) | (with_reducible refine Below.trans ?_ (hbp.mono ?_)))); all_goals (first | (simp; done) | (simp; omega) | omega))
                  case rest =>
                    obtain ⟨g, rfl, hg, bg, bx⟩ := hcut
                    have SW := Lib.hid (SK7.out.call bx)
                    obtain ⟨z0, z1, z2, z3, z4⟩ := SW.out.m
                    have mg : M ≠ g := by have := SK7.out.m.lt; omega
                    have gm : g ≠ M := Ne.symm mg
                    obtain ⟨p0, p1, _, _, _⟩ := bg
                    clear bx y1 y2 y3 y4 SK7 CX7
                    go_wp2_with fail
                    go_roundg (q * q - (j + 1))
                    case measure => have := HN3.out; omega
                    case rel => exact ⟨j + 1, by omega, rfl, by first | rfl | go_num, by rw [HSL.out, HSH.out]; exact Lib.hid (SW.out.put _ _)⟩
                · obtain rfl : j = q * q := by omega
                  have hno : ¬ ((q * q : Nat) : Int) < ((q * q : Nat) : Int) := by omega
                  have s2 := sm_sq (ptLo t q i k) q q
                  have s3 := sm_sq (ptHi t q i k) q q
                  rw [s2, s3] at SJ
                  go_wp2_with fail
                  go_roundg (t.vs.xs.length - 1 - (k + 1))
                  case measure => have := HN2.out; omega
                  case rel => exact ⟨k + 1, by omega, rfl, by first | rfl | go_num, by
                    have e0 : sm (feLo t q i) (k + 1) = sm (feLo t q i) k + sm (fun a => sm (ptLo t q i k a) q) q := rfl
                    have e1 : sm (feHi t q i) (k + 1) = sm (feHi t q i) k + sm (fun a => sm (ptHi t q i k a) q) q := rfl
                    rw [e0, e1, ← Int.add_assoc, ← Int.add_assoc]
                    exact SJ⟩
            · obtain rfl : k = t.vs.xs.length - 1 := by omega
              have hno : ¬ (((t.vs.xs.length - 1 : Nat) : Int)) + 1 < (t.vs.xs.length : Int) := by omega
              obtain ⟨x0, x1, x2, x3, x4, x5, tl, _, _, _, _, _, _, _⟩ := SZ.out
              go_wp2_with fail
              go_roundg (t.us.xs.length - 1 - (i + 1))
              case measure => have := HN.out; omega
              case rel => exact ⟨i + 1, by omega, rfl, by first | rfl | go_num, SZ⟩
        · obtain rfl : i = t.us.xs.length - 1 := by omega
          have hno : ¬ (((t.us.xs.length - 1 : Nat) : Int)) + 1 < (t.us.xs.length : Int) := by omega
          obtain ⟨x0, x1, x2, x3, x4, x5, tl, _, _, _, _, _, _, _⟩ := SK.out
          obtain ⟨tr0, tr1⟩ := tr_bd OT.out (i := t.us.xs.length - 1) (by omega) q4
          have EL : Hid (toLo t q = sm (fun i => sm (feLo t q i) (t.vs.xs.length - 1)) (t.us.xs.length - 1)) := rfl
          have EH : Hid (toHi t q = sm (fun i => sm (feHi t q i) (t.vs.xs.length - 1)) (t.us.xs.length - 1)) := rfl
          generalize sm (fun i => sm (feLo t q i) (t.vs.xs.length - 1)) (t.us.xs.length - 1) = L at *
          generalize sm (fun i => sm (feHi t q i) (t.vs.xs.length - 1)) (t.us.xs.length - 1) = H at *
          have DN := Lib.hid (fun W => rdown_any L 1000 W (by decide) (by decide) (by omega) (by omega))
          have UP := Lib.hid (fun W => rup_any H 1000 W (by decide) (by decide) (by omega) (by omega))
          clear tr0 tr1
          obtain ⟨_, _, _, _, _, _, _, ⟨y0, y1, y2, y3, y4⟩, rr, bb, _, _, _, hwr⟩ := SK.out
          have RR := Lib.hid rr
          have BB := Lib.hid bb
          clear SK
          go_wp2_with fail
          go_still_tail 7, (by kernel_rfl)
          still_call ((DN.out _).mono fun _ _ hh => ⟨hh.1, hh.2.symm⟩)
          repeat still_step
          still_call ((UP.out _).mono fun _ _ hh => ⟨hh.1, hh.2.symm⟩)
          repeat still_step
          (try refine wpStill_nil ?_)
          have RR2 := Lib.hid RR.out.drew
          have BB2 := Lib.hid BB.out.drew
          change wpList _ _ _ _ _ wr.drew
          generalize wr.drew = W5 at *
          obtain ⟨z0, z1, z2, z3, z4⟩ := RR2.out
          clear y0 y1 y2 y3 y4 rr bb
          go_wp2_with fail
          refine bodyPost_ret (v := enclE (L / 1000) (upD H 1000) 0) (by simp [results, Try.results26, go_sem, z0, z1]) rfl ⟨by rw [F0.out, F1.out, F2.out, EL.out, EH.out], ?_⟩
          exact (BB2.out.setCell (p := ⟨R, 0, none⟩) hwr _).setCell (p := ⟨R, 1, none⟩) hwr _
end Go.Proofs.Ytgmpipciinphiaa
