/- Share of the code. -/
import Derived.Test.YtgmpipciinphiaaShc
import Derived.Test.YtgmpipciinphiaaOve
namespace Go.Proofs.Ytgmpipciinphiaa
set_option linter.unusedSimpArgs false
set_option linter.unusedVariables false
open Go.RowKit
attribute [local go_sem ↓] Go.wp_at_zero Go.wp_at_succ

/-- what Share answers -/
def shaE (c : Cat) (n s : Int) : Int := if errOf c n c.tabs.length ≠ 0 then errOf c n c.tabs.length else if inB s 1 4 = false then 7 else 0
noncomputable def shaLo (c : Cat) (n s : Int) : Int := if shaE c n s ≠ 0 then 0 else toLo (tabAt c.tabs n.toNat) s.toNat / 1000
noncomputable def shaHi (c : Cat) (n s : Int) : Int := if shaE c n s ≠ 0 then 0 else upD (toHi (tabAt c.tabs n.toNat) s.toNat) 1000
theorem sha_ok {c : Cat} {n s : Int} (h : shaE c n s = 0) : errOf c n c.tabs.length = 0 ∧ inB s 1 4 = true := by
  unfold shaE at h
  split at h
  · rename_i g; exact absurd h g
  · rename_i g
    split at h
    · exact absurd h (by decide)
    · rename_i g2; exact ⟨by omega, by simpa using g2⟩

/-- what the loops of Share keep: the table's box, the sum, the result's box -/
structure ShK (t : Tab) (T M R : Nat) (lo hi : Int) (w W : World) : Prop where
  x0 : W.cell? ⟨T, 0, none⟩ = some (.string t.name)
  x1 : W.cell? ⟨T, 1, none⟩ = some (.slice t.us.a t.us.xs.length t.us.c)
  x2 : W.cell? ⟨T, 2, none⟩ = some (.slice t.vs.a t.vs.xs.length t.vs.c)
  x3 : W.cell? ⟨T, 3, none⟩ = some (.slice t.ra t.rows.length t.rc)
  x4 : W.cell? ⟨T, 4, none⟩ = some (.int .i64 t.side)
  x5 : W.cell? ⟨T, 5, none⟩ = some (.int .i64 t.sky)
  tl : T < W.heap.size
  m : Bq M lo hi W
  r : Bq R 0 0 W
  b : Below w.heap.size w W
  tm : T ≠ M
  rm : R ≠ M
  wm : w.heap.size ≤ M
  wr : w.heap.size ≤ R
theorem ShK.call {t : Tab} {T M R : Nat} {lo hi : Int} {w W W1 : World} (k : ShK t T M R lo hi w W) (h : Below W.heap.size W W1) : ShK t T M R lo hi w W1 :=
  ⟨by rw [h.cell (p := ⟨T, 0, none⟩) k.tl]; exact k.x0, by rw [h.cell (p := ⟨T, 1, none⟩) k.tl]; exact k.x1, by rw [h.cell (p := ⟨T, 2, none⟩) k.tl]; exact k.x2, by rw [h.cell (p := ⟨T, 3, none⟩) k.tl]; exact k.x3, by rw [h.cell (p := ⟨T, 4, none⟩) k.tl]; exact k.x4, by rw [h.cell (p := ⟨T, 5, none⟩) k.tl]; exact k.x5,
   Nat.lt_of_lt_of_le k.tl h.size, k.m.below h, k.r.below h, k.b.trans (h.mono k.b.size), k.tm, k.rm, k.wm, k.wr⟩
theorem ShK.put {t : Tab} {T M R : Nat} {lo hi : Int} {w W : World} (k : ShK t T M R lo hi w W) (lo' hi' : Int) : ShK t T M R lo' hi' w ((W.setCell ⟨M, 0, none⟩ (.int .i64 lo')).setCell ⟨M, 1, none⟩ (.int .i64 hi')) := by
  have ne := k.tm
  have ne' := Ne.symm ne
  refine ⟨?_, ?_, ?_, ?_, ?_, ?_, by simpa using k.tl, k.m.set _ _, k.r.other k.rm _ _, (k.b.setCell (p := ⟨M, 0, none⟩) k.wm _).setCell (p := ⟨M, 1, none⟩) k.wm _, k.tm, k.rm, k.wm, k.wr⟩ <;> simp [go_sem, k.x0, k.x1, k.x2, k.x3, k.x4, k.x5, ne, ne']

set_option maxRecDepth 100000 in
set_option maxHeartbeats 8000000 in
theorem Share_any (c : Cat) (n s : Int) (w : World) (hc : CatIn w.heap.size c w) :
    Calls Try.prog 25 #[.agg #[c.tv, c.lv], .int .i64 n, .int .i64 s] w fun e w' => e = .returned (enclE (shaLo c n s) (shaHi c n s) (shaE c n s)) ∧ Below w.heap.size w w' := by
  have hml := hc.tabs.1
  have HC := Lib.hid hc
  clear hc
  have CI := Lib.hid (fun (W : World) (g : Below w.heap.size w W) => (HC.out.keep g (Nat.le_refl _)).more g.size)
  have ER := Lib.hid (fun (W : World) (g : CatIn W.heap.size c W) => errorOf_any c n c.tabs.length W g hml)
  unfold Cat.tv Cat.lv at *
  unfold maxLen at hml
  have bw0 : Below w.heap.size w ((w.alloc (.cells #[.slice c.ta c.tabs.length c.tc, .slice c.la c.lamps.length c.lc] 25)).alloc (.cells #[.int .i64 0, .int .i64 0] 35)) := ((Below.refl _ _).alloc (Nat.le_refl _) _).alloc (by simp) _
  have t0 : ((w.alloc (.cells #[.slice c.ta c.tabs.length c.tc, .slice c.la c.lamps.length c.lc] 25)).alloc (.cells #[.int .i64 0, .int .i64 0] 35)).cell? ⟨w.heap.size, 0, none⟩ = some (.slice c.ta c.tabs.length c.tc) := by simp [go_sem]
  have t1 : ((w.alloc (.cells #[.slice c.ta c.tabs.length c.tc, .slice c.la c.lamps.length c.lc] 25)).alloc (.cells #[.int .i64 0, .int .i64 0] 35)).cell? ⟨w.heap.size, 1, none⟩ = some (.slice c.la c.lamps.length c.lc) := by simp [go_sem]
  have bz : Bq (w.heap.size + 1) 0 0 ((w.alloc (.cells #[.slice c.ta c.tabs.length c.tc, .slice c.la c.lamps.length c.lc] 25)).alloc (.cells #[.int .i64 0, .int .i64 0] 35)) := Bq.freshAt (by simp) 0 0 _
  have BW0 := Lib.hid bw0
  have BZ0 := Lib.hid bz
  clear bw0 bz
  have HE : Hid (shaE c n s = if errOf c n c.tabs.length ≠ 0 then errOf c n c.tabs.length else if inB s 1 4 = false then 7 else 0) := rfl
  have HL : Hid (shaLo c n s = if shaE c n s ≠ 0 then 0 else toLo (tabAt c.tabs n.toNat) s.toNat / 1000) := rfl
  have HH : Hid (shaHi c n s = if shaE c n s ≠ 0 then 0 else upD (toHi (tabAt c.tabs n.toNat) s.toNat) 1000) := rfl
  by_cases hz : errOf c n c.tabs.length = 0
  case neg =>
    have F0 : Hid (shaE c n s = errOf c n c.tabs.length) := HE.out.trans (if_pos hz)
    have F1 : Hid (shaLo c n s = 0) := HL.out.trans (if_pos (by rw [F0.out]; exact hz))
    have F2 : Hid (shaHi c n s = 0) := HH.out.trans (if_pos (by rw [F0.out]; exact hz))
    generalize errOf c n c.tabs.length = er at *
    have d0 : (er != 0) = true := by simpa using hz
    clear hz HE HL HH
    go_enter Try.func25, Try.ntmps25
    go_wp2_with fail
    generalize ((w.alloc (.cells #[.slice c.ta c.tabs.length c.tc, .slice c.la c.lamps.length c.lc] 25)).alloc (.cells #[.int .i64 0, .int .i64 0] 35)) = W0 at *
    with_reducible refine Calls.mono (ER.out _ (CI.out _ BW0.out)) ?_
    rintro e w1 ⟨rfl, o1⟩
    obtain ⟨z0, z1, z2, z3, z4⟩ := BZ0.out.below o1.below
    have BW1 := Lib.hid (BW0.out.trans (o1.below.mono BW0.out.size))
    clear o1 t0 t1
    go_wp2_with fail
    refine bodyPost_ret (v := enclE 0 0 er) (by simp [results, Try.results25, go_sem, z0, z1]) rfl ⟨by rw [F0.out, F1.out, F2.out], ?_⟩
    exact (BW1.out.setCell (p := ⟨w.heap.size + 1, 0, none⟩) (by show w.heap.size ≤ w.heap.size + 1; omega) _).setCell (p := ⟨w.heap.size + 1, 1, none⟩) (by show w.heap.size ≤ w.heap.size + 1; omega) _
  case pos =>
    obtain ⟨ok, hn0, hn1⟩ := errOf_ok hz
    have HZ := Lib.hid hz
    have HE2 : Hid (shaE c n s = if inB s 1 4 = false then 7 else 0) := HE.out.trans (if_neg (fun hh => hh hz))
    clear hz HE
    rw [HZ.out] at ER
    cases hs : inB s 1 4
    · have F0 : Hid (shaE c n s = 7) := HE2.out.trans (if_pos hs)
      have F1 : Hid (shaLo c n s = 0) := HL.out.trans (if_pos (by rw [F0.out]; decide))
      have F2 : Hid (shaHi c n s = 0) := HH.out.trans (if_pos (by rw [F0.out]; decide))
      have HS := Lib.hid hs
      clear hs HL HH HE2
      go_enter Try.func25, Try.ntmps25
      go_wp2_with fail
      generalize ((w.alloc (.cells #[.slice c.ta c.tabs.length c.tc, .slice c.la c.lamps.length c.lc] 25)).alloc (.cells #[.int .i64 0, .int .i64 0] 35)) = W0 at *
      with_reducible refine Calls.mono (ER.out _ (CI.out _ BW0.out)) ?_
      rintro e w1 ⟨rfl, o1⟩
      obtain ⟨z0, z1, z2, z3, z4⟩ := BZ0.out.below o1.below
      have BW1 := Lib.hid (BW0.out.trans (o1.below.mono BW0.out.size))
      clear o1 t0 t1
      go_wp2_with fail
      with_reducible refine Calls.mono (isFrom_is HS.out _) ?_
      rintro e w2 ⟨rfl, rfl⟩
      go_wp2_with fail
      refine bodyPost_ret (v := enclE 0 0 7) (by simp [results, Try.results25, go_sem, z0, z1]) rfl ⟨by rw [F0.out, F1.out, F2.out], ?_⟩
      exact (BW1.out.setCell (p := ⟨w.heap.size + 1, 0, none⟩) (by show w.heap.size ≤ w.heap.size + 1; omega) _).setCell (p := ⟨w.heap.size + 1, 1, none⟩) (by show w.heap.size ≤ w.heap.size + 1; omega) _
    · have F0 : Hid (shaE c n s = 0) := HE2.out.trans (if_neg (by rw [hs]; decide))
      have F1 := Lib.hid (HL.out.trans (if_neg (by rw [F0.out]; decide)))
      have F2 := Lib.hid (HH.out.trans (if_neg (by rw [F0.out]; decide)))
      have HS := Lib.hid hs
      obtain ⟨s0, s1⟩ := inB_iff.1 hs
      clear hs HL HH HE2
      obtain ⟨m, rfl⟩ := Int.eq_ofNat_of_zero_le hn0
      obtain ⟨q, rfl⟩ := Int.eq_ofNat_of_zero_le (show 0 ≤ s by omega)
      have hm : m < c.tabs.length := by omega
      have okt := ok.tab m hm
      simp only [Int.toNat_natCast] at F1 F2
      have TA := Lib.hid (fun (W : World) (g : Below w.heap.size w W) => tabAt_cells (HC.out.keep g (Nat.le_refl _)) hm)
      generalize tabAt c.tabs m = t at *
      have OT := Lib.hid okt
      have nu0 := okt.us.n0
      have nu1 := okt.us.n1
      have nv0 := okt.vs.n0
      have nv1 := okt.vs.n1
      have q0 : 0 < q := by omega
      have q4 : q ≤ 4 := by omega
      have FS := Lib.hid (fun (W : World) (g : Below w.heap.size w W) (i k : Nat) (hi : i + 1 < t.us.xs.length) (hk : k + 1 < t.vs.xs.length) => by
        obtain ⟨b, o, ha, hb, ht⟩ := TA.out W g
        exact fieldShare_any t i k q W okt (ht.us.more g.size) (ht.vs.more g.size) (ht.rows.more g.size) hi hk q0 q4)
      clear okt ok
      have s3 : (0 : Int) ≤ (m : Int) := by omega
      have s4 : (m : Int) < (c.tabs.length : Int) := by omega
      go_enter Try.func25, Try.ntmps25
      go_wp2_with fail
      generalize ((w.alloc (.cells #[.slice c.ta c.tabs.length c.tc, .slice c.la c.lamps.length c.lc] 25)).alloc (.cells #[.int .i64 0, .int .i64 0] 35)) = W0 at *
      with_reducible refine Calls.mono (ER.out _ (CI.out _ BW0.out)) ?_
      rintro e w1 ⟨rfl, o1⟩
      have T0 : Hid (w1.cell? ⟨w.heap.size, 0, none⟩ = some (.slice c.ta c.tabs.length c.tc) ∧ w.heap.size + 1 < w1.heap.size) := Lib.hid ⟨by rw [o1.below.cell (p := ⟨w.heap.size, 0, none⟩) (by show w.heap.size < _; have := BZ0.out.lt; omega)]; exact t0, (BZ0.out.below o1.below).lt⟩
      have BZ1 := Lib.hid (BZ0.out.below o1.below)
      have BW1 := Lib.hid (BW0.out.trans (o1.below.mono BW0.out.size))
      clear o1 t0 t1
      go_wp2_with fail
      with_reducible refine Calls.mono (isFrom_is HS.out _) ?_
      rintro e w2 ⟨rfl, rfl⟩
      obtain ⟨tb, tt, ha, hb, ht⟩ := TA.out _ BW1.out
      have c0 := ht.c0
      have c1 := ht.c1
      have c2 := ht.c2
      have c3 := ht.c3
      have c4 := ht.c4
      have c5 := ht.c5
      unfold Ints.val at c1 c2
      clear ht
      obtain ⟨k0, lt1⟩ := T0.out
      rw [ha] at k0
      clear ha T0
      have ne1 : w.heap.size ≠ w2.heap.size := by omega
      have ne2 : tb ≠ w2.heap.size := by omega
      have lt2 : w.heap.size < w2.heap.size := by omega
      have lt3 : tb < w2.heap.size := by omega
      go_wp2_with fail
      have SK : Hid (ShK t (w2.heap.size + 1) w2.heap.size (w.heap.size + 1) 0 0 w ((w2.alloc (.cells #[.int .i64 0, .int .i64 0] 35)).alloc (.cells #[.string t.name, .slice t.us.a t.us.xs.length t.us.c, .slice t.vs.a t.vs.xs.length t.vs.c, .slice t.ra t.rows.length t.rc, .int .i64 t.side, .int .i64 t.sky] 61))) := Lib.hid (by
        have b1 := (below_new w2 (.cells #[.int .i64 0, .int .i64 0] 35)).trans ((below_new (w2.alloc (.cells #[.int .i64 0, .int .i64 0] 35)) (.cells #[.string t.name, .slice t.us.a t.us.xs.length t.us.c, .slice t.vs.a t.vs.xs.length t.vs.c, .slice t.ra t.rows.length t.rc, .int .i64 t.side, .int .i64 t.sky] 61)).mono (by simp))
        exact ⟨by simp [go_sem], by simp [go_sem], by simp [go_sem], by simp [go_sem], by simp [go_sem], by simp [go_sem], by simp, (Bq.fresh w2 0 0 _).alloc _, BZ1.out.below b1, BW1.out.trans (b1.mono BW1.out.size), by omega, by omega, by omega, by omega⟩)
      clear BZ1 BW1 BZ0 BW0 c0 c1 c2 c3 c4 c5 k0 ne1 ne2 lt2 lt3 hb
      generalize ((w2.alloc (.cells #[.int .i64 0, .int .i64 0] 35)).alloc (.cells #[.string t.name, .slice t.us.a t.us.xs.length t.us.c, .slice t.vs.a t.vs.xs.length t.vs.c, .slice t.ra t.rows.length t.rc, .int .i64 t.side, .int .i64 t.sky] 61)) = W3 at *
      obtain ⟨T, hT⟩ : ∃ T, w2.heap.size + 1 = T := ⟨_, rfl⟩
      rw [hT] at SK
      try rw [hT]
      clear hT lt1
      generalize w2.heap.size = M at *
      obtain ⟨R, hR⟩ : ∃ R, w.heap.size + 1 = R := ⟨_, rfl⟩
      rw [hR] at SK
      try rw [hR]
      have HR := Lib.hid hR
      clear hR
      obtain ⟨x0, x1, x2, x3, x4, x5, tl, _, _, _, tm, rm, _, _⟩ := SK.out
      have eu : IntKind.i64.wrap ((t.us.xs.length : Int) - 1) = (t.us.xs.length : Int) - 1 := IntWalk.i64_in _ (by omega)
      have ev : IntKind.i64.wrap ((t.vs.xs.length : Int) - 1) = (t.vs.xs.length : Int) - 1 := IntWalk.i64_in _ (by omega)
      go_wp2_with fail
      clear x0 x1 x2 x3 x4 x5 tl
      go_loopg [36] (t.us.xs.length - 1) (fun n i' wr => ∃ i : Nat, i ≤ t.us.xs.length - 1 ∧ n = t.us.xs.length - 1 - i ∧ i' = .int .i64 i ∧ Hid (ShK t T M R (sm (fun i => sm (feLo t q i) (t.vs.xs.length - 1)) i) (sm (fun i => sm (feHi t q i) (t.vs.xs.length - 1)) i) w wr))
      case atStart => exact ⟨0, by omega, by omega, rfl, SK⟩
      case round =>
        clear SK
        obtain ⟨i, hi, hn0, rfl, SK⟩ := hrel
        have HN := Lib.hid hn0
        clear hn0
        by_cases hlt : i < t.us.xs.length - 1
        · have hlt' : (i : Int) < (t.us.xs.length : Int) - 1 := by omega
          obtain ⟨x0, x1, x2, x3, x4, x5, tl, _, _, _, _, _, _, _⟩ := SK.out
          go_wp2_with fail
          clear x0 x1 x2 x3 x4 x5 tl
          go_loopg [43] (t.vs.xs.length - 1) (fun n k' W' => ∃ k : Nat, k ≤ t.vs.xs.length - 1 ∧ n = t.vs.xs.length - 1 - k ∧ k' = .int .i64 k ∧ Hid (ShK t T M R (sm (fun i => sm (feLo t q i) (t.vs.xs.length - 1)) i + sm (feLo t q i) k) (sm (fun i => sm (feHi t q i) (t.vs.xs.length - 1)) i + sm (feHi t q i) k) w W'))
          case atStart => exact ⟨0, by omega, by omega, rfl, by simpa [sm] using SK⟩
          case round =>
            clear SK
            obtain ⟨k, hk, hn0, rfl, SZ⟩ := hrel
            have HN2 := Lib.hid hn0
            clear hn0
            by_cases hlt2 : k < t.vs.xs.length - 1
            · have hltk : (k : Int) < (t.vs.xs.length : Int) - 1 := by omega
              have FC := Lib.hid (fun (Wz : World) (hz : Below wr.heap.size wr Wz) => FS.out Wz (SZ.out.call hz).b i k (by omega) (by omega))
              obtain ⟨fe0, fe1⟩ := fe_bd OT.out (i := i) (k := k) (by omega) (by omega) q4
              obtain ⟨fr0, fr1⟩ := fr_bd OT.out (i := i) (k := k) (by omega) (by omega) q4
              obtain ⟨tr0, tr1⟩ := tr_bd OT.out (i := i) (by omega) q4
              have hsl : sm (feLo t q i) (k + 1) = sm (feLo t q i) k + feLo t q i k := rfl
              have hsh : sm (feHi t q i) (k + 1) = sm (feHi t q i) k + feHi t q i k := rfl
              obtain ⟨L, hL⟩ : ∃ L, sm (fun i => sm (feLo t q i) (t.vs.xs.length - 1)) i + sm (feLo t q i) k = L := ⟨_, rfl⟩
              obtain ⟨H, hH⟩ : ∃ H, sm (fun i => sm (feHi t q i) (t.vs.xs.length - 1)) i + sm (feHi t q i) k = H := ⟨_, rfl⟩
              have HSL : Hid (sm (fun i => sm (feLo t q i) (t.vs.xs.length - 1)) i + sm (feLo t q i) (k + 1) = L + feLo t q i k) := Lib.hid (by rw [hsl, ← hL]; omega)
              have HSH : Hid (sm (fun i => sm (feHi t q i) (t.vs.xs.length - 1)) i + sm (feHi t q i) (k + 1) = H + feHi t q i k) := Lib.hid (by rw [hsh, ← hH]; omega)
              rw [hL, hH] at SZ
              have xl : IntKind.i64.wrap (L + feLo t q i k) = L + feLo t q i k := IntWalk.i64_in _ (by omega)
              have xh : IntKind.i64.wrap (H + feHi t q i k) = H + feHi t q i k := IntWalk.i64_in _ (by omega)
              have ad0 : -4000000000000000000 ≤ L + feLo t q i k ∧ L + feLo t q i k ≤ 4000000000000000000 := by omega
              have ad1 : -4000000000000000000 ≤ H + feHi t q i k ∧ H + feHi t q i k ≤ 4000000000000000000 := by omega
              generalize feLo t q i k = fl at *
              generalize feHi t q i k = fh at *
              clear hL hH hsl hsh fe0 fe1 fr0 fr1 tr0 tr1
              have AD := Lib.hid (fun W => add_any L H fl fh W ad0 ad1)
              have KF := Lib.hid (show ∀ Wz : World, Below wr.heap.size wr Wz → (Wz.cell? ⟨T, 0, none⟩ = some (.string t.name) ∧ Wz.cell? ⟨T, 1, none⟩ = some (.slice t.us.a t.us.xs.length t.us.c) ∧ Wz.cell? ⟨T, 2, none⟩ = some (.slice t.vs.a t.vs.xs.length t.vs.c) ∧ Wz.cell? ⟨T, 3, none⟩ = some (.slice t.ra t.rows.length t.rc) ∧ Wz.cell? ⟨T, 4, none⟩ = some (.int .i64 t.side) ∧ Wz.cell? ⟨T, 5, none⟩ = some (.int .i64 t.sky)) from fun Wz hz => by
                have k1 := SZ.out.call hz
                exact ⟨k1.x0, k1.x1, k1.x2, k1.x3, k1.x4, k1.x5⟩)
              have KT := Lib.hid (show ∀ (Wz : World) (x y : Value), Below wr.heap.size wr Wz → (((Wz.setCell ⟨M, 0, none⟩ x).setCell ⟨M, 1, none⟩ y).cell? ⟨T, 0, none⟩ = some (.string t.name) ∧ ((Wz.setCell ⟨M, 0, none⟩ x).setCell ⟨M, 1, none⟩ y).cell? ⟨T, 1, none⟩ = some (.slice t.us.a t.us.xs.length t.us.c) ∧ ((Wz.setCell ⟨M, 0, none⟩ x).setCell ⟨M, 1, none⟩ y).cell? ⟨T, 2, none⟩ = some (.slice t.vs.a t.vs.xs.length t.vs.c) ∧ ((Wz.setCell ⟨M, 0, none⟩ x).setCell ⟨M, 1, none⟩ y).cell? ⟨T, 3, none⟩ = some (.slice t.ra t.rows.length t.rc) ∧ ((Wz.setCell ⟨M, 0, none⟩ x).setCell ⟨M, 1, none⟩ y).cell? ⟨T, 4, none⟩ = some (.int .i64 t.side) ∧ ((Wz.setCell ⟨M, 0, none⟩ x).setCell ⟨M, 1, none⟩ y).cell? ⟨T, 5, none⟩ = some (.int .i64 t.sky)) from fun Wz x y hz => by
                obtain ⟨k0, k1, k2, k3, k4, k5⟩ := KF.out Wz hz
                have n1 : T ≠ M := SZ.out.tm
                refine ⟨?_, ?_, ?_, ?_, ?_, ?_⟩ <;> simp [go_sem, k0, k1, k2, k3, k4, k5, n1])
              obtain ⟨x0, x1, x2, x3, x4, x5⟩ := KF.out wr (Below.refl _ _)
              obtain ⟨_, _, _, _, _, _, tl, ⟨y0, y1, y2, y3, y4⟩, _, _, _, _, _, _⟩ := SZ.out
              clear ad0 ad1
              go_wp2_with fail
              refine wp_region_held_drew (S := (fun w' => w'.cell? ⟨T, 0, none⟩ = some (.string t.name) ∧ w'.cell? ⟨T, 1, none⟩ = some (.slice t.us.a t.us.xs.length t.us.c) ∧ w'.cell? ⟨T, 2, none⟩ = some (.slice t.vs.a t.vs.xs.length t.vs.c) ∧ w'.cell? ⟨T, 3, none⟩ = some (.slice t.ra t.rows.length t.rc) ∧ w'.cell? ⟨T, 4, none⟩ = some (.int .i64 t.side) ∧ w'.cell? ⟨T, 5, none⟩ = some (.int .i64 t.sky))) (by kernel_rfl) ?_ (fun hHeld => ?_)
              · (first | ((refine KF.out _ ?_; ((repeat' (first | (with_reducible exact Below.refl _ _) | (with_reducible refine Below.drew ?_) | (with_reducible refine Below.alloc ?_ ?_ _) | (with_reducible refine Below.trans ?_ (hbp.mono ?_)) | (with_reducible refine Below.trans ?_ (hba.mono ?_)))); all_goals (first | (simp; done) | (simp; omega) | omega)))) | ((refine KT.out _ _ _ ?_; ((repeat' (first | (with_reducible exact Below.refl _ _) | (with_reducible refine Below.drew ?_) | (with_reducible refine Below.alloc ?_ ?_ _) | (with_reducible refine Below.trans ?_ (hbp.mono ?_)) | (with_reducible refine Below.trans ?_ (hba.mono ?_)))); all_goals (first | (simp; done) | (simp; omega) | omega)))))
              refine wpAnyH_take (i := 1) (v := ?_) rfl (by kernel_rfl) (by kernel_rfl) (by kernel_rfl) (fun _ _ _ h => h) (Or.inl ⟨by rfl, ?_⟩) (by assumption) ?_
              rotate_left
              (focus (intro ww hSw; (try dsimp only at hSw); go_simp; (try with_reducible rfl)))
              (try simp only [Act.put, List.setIfInBounds_toArray, List.set_cons_zero, List.set_cons_succ, List.getElem_toArray, List.getElem_cons_zero, List.getElem_cons_succ])
              refine wpAnyH_take (i := 2) (v := ?_) rfl (by kernel_rfl) (by kernel_rfl) (by kernel_rfl) (fun _ _ _ h => h) (Or.inl ⟨by rfl, ?_⟩) (by assumption) ?_
              rotate_left
              (focus (intro ww hSw; (try dsimp only at hSw); go_simp; (try with_reducible rfl)))
              (try simp only [Act.put, List.setIfInBounds_toArray, List.set_cons_zero, List.set_cons_succ, List.getElem_toArray, List.getElem_cons_zero, List.getElem_cons_succ])
              refine wpAnyH_take (i := 3) (v := ?_) rfl (by kernel_rfl) (by kernel_rfl) (by kernel_rfl) (fun _ _ _ h => h) (Or.inl ⟨by rfl, ?_⟩) (by assumption) ?_
              rotate_left
              (focus (intro ww hSw; (try dsimp only at hSw); go_simp; (try with_reducible rfl)))
              (try simp only [Act.put, List.setIfInBounds_toArray, List.set_cons_zero, List.set_cons_succ, List.getElem_toArray, List.getElem_cons_zero, List.getElem_cons_succ])
              refine wpAnyH_take (i := 4) (v := ?_) rfl (by kernel_rfl) (by kernel_rfl) (by kernel_rfl) (fun _ _ _ h => h) (Or.inl ⟨by rfl, ?_⟩) (by assumption) ?_
              rotate_left
              (focus (intro ww hSw; (try dsimp only at hSw); go_simp; (try with_reducible rfl)))
              (try simp only [Act.put, List.setIfInBounds_toArray, List.set_cons_zero, List.set_cons_succ, List.getElem_toArray, List.getElem_cons_zero, List.getElem_cons_succ])
              refine wpAnyH_ready (rs := [0, 5]) (by kernel_rfl) (by simp) ?_
              refine AllReadyH.cons rfl (fun K hK => ?_) ?_
              · skip
                go_simp
                refine hK.out _ _ ?_ (fun hHeld => ?_)
                · (first | ((refine KF.out _ ?_; ((repeat' (first | (with_reducible exact Below.refl _ _) | (with_reducible refine Below.drew ?_) | (with_reducible refine Below.alloc ?_ ?_ _) | (with_reducible refine Below.trans ?_ (hbp.mono ?_)) | (with_reducible refine Below.trans ?_ (hba.mono ?_)))); all_goals (first | (simp; done) | (simp; omega) | omega)))) | ((refine KT.out _ _ _ ?_; ((repeat' (first | (with_reducible exact Below.refl _ _) | (with_reducible refine Below.drew ?_) | (with_reducible refine Below.alloc ?_ ?_ _) | (with_reducible refine Below.trans ?_ (hbp.mono ?_)) | (with_reducible refine Below.trans ?_ (hba.mono ?_)))); all_goals (first | (simp; done) | (simp; omega) | omega)))))
                clear hK K
                (try simp only [Act.put, List.setIfInBounds_toArray, List.set_cons_zero, List.set_cons_succ, List.getElem_toArray, List.getElem_cons_zero, List.getElem_cons_succ])
                refine wpAnyH_ready (rs := [5]) (by kernel_rfl) (by simp) ?_
                refine AllReadyH.cons rfl (fun K hK => ?_) AllReadyH.nil
                go_simp
                (go_at_call 56; (with_reducible refine Calls.mono (FC.out _ ?_) ?_); (focus ((repeat' (first | (with_reducible exact Below.refl _ _) | (with_reducible refine Below.drew ?_) | (with_reducible refine Below.alloc ?_ ?_ _) | (with_reducible refine Below.trans ?_ (hbp.mono ?_)) | (with_reducible refine Below.trans ?_ (hba.mono ?_)))); all_goals (first | (simp; done) | (simp; omega) | omega))); rintro e wp ⟨rfl, obp⟩; have hbp := obp; have hcp := (bcb hbp).1; have hfp := (bcb hbp).2; have hzp := hbp.size; (try simp only [World.size_drew] at hcp hfp); (try have hzp' := Nat.lt_of_succ_le hzp); (try simp at hzp); (try have gp0a : M < wp.heap.size := by omega); (try have gp0b : M ≠ wp.heap.size := by omega);  (try have gp1a : T < wp.heap.size := by omega); (try have gp1b : T ≠ wp.heap.size := by omega); skip)
                (try go_wp2_with fail)
                refine hK.out _ _ ?_ (fun hHeld => ?_)
                · (first | ((refine KF.out _ ?_; ((repeat' (first | (with_reducible exact Below.refl _ _) | (with_reducible refine Below.drew ?_) | (with_reducible refine Below.alloc ?_ ?_ _) | (with_reducible refine Below.trans ?_ (hbp.mono ?_)) | (with_reducible refine Below.trans ?_ (hba.mono ?_)))); all_goals (first | (simp; done) | (simp; omega) | omega)))) | ((refine KT.out _ _ _ ?_; ((repeat' (first | (with_reducible exact Below.refl _ _) | (with_reducible refine Below.drew ?_) | (with_reducible refine Below.alloc ?_ ?_ _) | (with_reducible refine Below.trans ?_ (hbp.mono ?_)) | (with_reducible refine Below.trans ?_ (hba.mono ?_)))); all_goals (first | (simp; done) | (simp; omega) | omega)))))
                clear hK K
                (try simp only [Act.put, List.setIfInBounds_toArray, List.set_cons_zero, List.set_cons_succ, List.getElem_toArray, List.getElem_cons_zero, List.getElem_cons_succ])
                refine wpAnyH_ready (rs := [6]) (by kernel_rfl) (by simp) ?_
                refine AllReadyH.cons rfl (fun K hK => ?_) AllReadyH.nil
                go_simp
                (go_at_call 55; (with_reducible refine Calls.mono (AD.out _) ?_); rintro e wa ⟨rfl, oa⟩; have oba := oa.below; have hba := oba; have hca := (bcb hba).1; have hfa := (bcb hba).2; have hza := hba.size; (try simp only [World.size_drew] at hca hfa); (try have hza' := Nat.lt_of_succ_le hza); (try simp at hza); (try have ga0a : M < wa.heap.size := by omega); (try have ga0b : M ≠ wa.heap.size := by omega);  (try have ga1a : T < wa.heap.size := by omega); (try have ga1b : T ≠ wa.heap.size := by omega); skip)
                (try go_wp2_with fail)
                refine hK.out _ _ ?_ (fun hHeld => ?_)
                · (first | ((refine KF.out _ ?_; ((repeat' (first | (with_reducible exact Below.refl _ _) | (with_reducible refine Below.drew ?_) | (with_reducible refine Below.alloc ?_ ?_ _) | (with_reducible refine Below.trans ?_ (hbp.mono ?_)) | (with_reducible refine Below.trans ?_ (hba.mono ?_)))); all_goals (first | (simp; done) | (simp; omega) | omega)))) | ((refine KT.out _ _ _ ?_; ((repeat' (first | (with_reducible exact Below.refl _ _) | (with_reducible refine Below.drew ?_) | (with_reducible refine Below.alloc ?_ ?_ _) | (with_reducible refine Below.trans ?_ (hbp.mono ?_)) | (with_reducible refine Below.trans ?_ (hba.mono ?_)))); all_goals (first | (simp; done) | (simp; omega) | omega)))))
                clear hK K
                (try simp only [Act.put, List.setIfInBounds_toArray, List.set_cons_zero, List.set_cons_succ, List.getElem_toArray, List.getElem_cons_zero, List.getElem_cons_succ])
                refine wpAnyH_ready (rs := [7]) (by kernel_rfl) (by simp) ?_
                refine AllReadyH.cons rfl (fun K hK => ?_) AllReadyH.nil
                go_simp
                refine hK.out _ _ ?_ (fun hHeld => ?_)
                · (first | ((refine KF.out _ ?_; ((repeat' (first | (with_reducible exact Below.refl _ _) | (with_reducible refine Below.drew ?_) | (with_reducible refine Below.alloc ?_ ?_ _) | (with_reducible refine Below.trans ?_ (hbp.mono ?_)) | (with_reducible refine Below.trans ?_ (hba.mono ?_)))); all_goals (first | (simp; done) | (simp; omega) | omega)))) | ((refine KT.out _ _ _ ?_; ((repeat' (first | (with_reducible exact Below.refl _ _) | (with_reducible refine Below.drew ?_) | (with_reducible refine Below.alloc ?_ ?_ _) | (with_reducible refine Below.trans ?_ (hbp.mono ?_)) | (with_reducible refine Below.trans ?_ (hba.mono ?_)))); all_goals (first | (simp; done) | (simp; omega) | omega)))))
                clear hK K
                (try simp only [Act.put, List.setIfInBounds_toArray, List.set_cons_zero, List.set_cons_succ, List.getElem_toArray, List.getElem_cons_zero, List.getElem_cons_succ])
                refine wpAnyH_done (by kernel_rfl) ?_ _
                have HB : Below wr.heap.size wr wa := by ((repeat' (first | (with_reducible exact Below.refl _ _) | (with_reducible refine Below.drew ?_) | (with_reducible refine Below.alloc ?_ ?_ _) | (with_reducible refine Below.trans ?_ (hbp.mono ?_)) | (with_reducible refine Below.trans ?_ (hba.mono ?_)))); all_goals (first | (simp; done) | (simp; omega) | omega))
                have SW := Lib.hid ((SZ.out.call HB).put (L + fl) (H + fh))
                go_wp2_with fail
                go_roundg (t.vs.xs.length - 1 - (k + 1))
                case measure => have := HN2.out; omega
                case rel => exact ⟨k + 1, by omega, rfl, by first | rfl | go_num, by rw [HSL.out, HSH.out]; exact SW⟩
              refine AllReadyH.cons rfl (fun K hK => ?_) AllReadyH.nil
              go_simp
              (go_at_call 56; (with_reducible refine Calls.mono (FC.out _ ?_) ?_); (focus ((repeat' (first | (with_reducible exact Below.refl _ _) | (with_reducible refine Below.drew ?_) | (with_reducible refine Below.alloc ?_ ?_ _) | (with_reducible refine Below.trans ?_ (hbp.mono ?_)) | (with_reducible refine Below.trans ?_ (hba.mono ?_)))); all_goals (first | (simp; done) | (simp; omega) | omega))); rintro e wp ⟨rfl, obp⟩; have hbp := obp; have hcp := (bcb hbp).1; have hfp := (bcb hbp).2; have hzp := hbp.size; (try simp only [World.size_drew] at hcp hfp); (try have hzp' := Nat.lt_of_succ_le hzp); (try simp at hzp); (try have gp0a : M < wp.heap.size := by omega); (try have gp0b : M ≠ wp.heap.size := by omega);  (try have gp1a : T < wp.heap.size := by omega); (try have gp1b : T ≠ wp.heap.size := by omega); skip)
              (try go_wp2_with fail)
              refine hK.out _ _ ?_ (fun hHeld => ?_)
              · (first | ((refine KF.out _ ?_; ((repeat' (first | (with_reducible exact Below.refl _ _) | (with_reducible refine Below.drew ?_) | (with_reducible refine Below.alloc ?_ ?_ _) | (with_reducible refine Below.trans ?_ (hbp.mono ?_)) | (with_reducible refine Below.trans ?_ (hba.mono ?_)))); all_goals (first | (simp; done) | (simp; omega) | omega)))) | ((refine KT.out _ _ _ ?_; ((repeat' (first | (with_reducible exact Below.refl _ _) | (with_reducible refine Below.drew ?_) | (with_reducible refine Below.alloc ?_ ?_ _) | (with_reducible refine Below.trans ?_ (hbp.mono ?_)) | (with_reducible refine Below.trans ?_ (hba.mono ?_)))); all_goals (first | (simp; done) | (simp; omega) | omega)))))
              clear hK K
              (try simp only [Act.put, List.setIfInBounds_toArray, List.set_cons_zero, List.set_cons_succ, List.getElem_toArray, List.getElem_cons_zero, List.getElem_cons_succ])
              refine wpAnyH_ready (rs := [0]) (by kernel_rfl) (by simp) ?_
              refine AllReadyH.cons rfl (fun K hK => ?_) AllReadyH.nil
              go_simp
              refine hK.out _ _ ?_ (fun hHeld => ?_)
              · (first | ((refine KF.out _ ?_; ((repeat' (first | (with_reducible exact Below.refl _ _) | (with_reducible refine Below.drew ?_) | (with_reducible refine Below.alloc ?_ ?_ _) | (with_reducible refine Below.trans ?_ (hbp.mono ?_)) | (with_reducible refine Below.trans ?_ (hba.mono ?_)))); all_goals (first | (simp; done) | (simp; omega) | omega)))) | ((refine KT.out _ _ _ ?_; ((repeat' (first | (with_reducible exact Below.refl _ _) | (with_reducible refine Below.drew ?_) | (with_reducible refine Below.alloc ?_ ?_ _) | (with_reducible refine Below.trans ?_ (hbp.mono ?_)) | (with_reducible refine Below.trans ?_ (hba.mono ?_)))); all_goals (first | (simp; done) | (simp; omega) | omega)))))
              clear hK K
              (try simp only [Act.put, List.setIfInBounds_toArray, List.set_cons_zero, List.set_cons_succ, List.getElem_toArray, List.getElem_cons_zero, List.getElem_cons_succ])
              refine wpAnyH_ready (rs := [6]) (by kernel_rfl) (by simp) ?_
              refine AllReadyH.cons rfl (fun K hK => ?_) AllReadyH.nil
              go_simp
              (go_at_call 55; (with_reducible refine Calls.mono (AD.out _) ?_); rintro e wa ⟨rfl, oa⟩; have oba := oa.below; have hba := oba; have hca := (bcb hba).1; have hfa := (bcb hba).2; have hza := hba.size; (try simp only [World.size_drew] at hca hfa); (try have hza' := Nat.lt_of_succ_le hza); (try simp at hza); (try have ga0a : M < wa.heap.size := by omega); (try have ga0b : M ≠ wa.heap.size := by omega);  (try have ga1a : T < wa.heap.size := by omega); (try have ga1b : T ≠ wa.heap.size := by omega); skip)
              (try go_wp2_with fail)
              refine hK.out _ _ ?_ (fun hHeld => ?_)
              · (first | ((refine KF.out _ ?_; ((repeat' (first | (with_reducible exact Below.refl _ _) | (with_reducible refine Below.drew ?_) | (with_reducible refine Below.alloc ?_ ?_ _) | (with_reducible refine Below.trans ?_ (hbp.mono ?_)) | (with_reducible refine Below.trans ?_ (hba.mono ?_)))); all_goals (first | (simp; done) | (simp; omega) | omega)))) | ((refine KT.out _ _ _ ?_; ((repeat' (first | (with_reducible exact Below.refl _ _) | (with_reducible refine Below.drew ?_) | (with_reducible refine Below.alloc ?_ ?_ _) | (with_reducible refine Below.trans ?_ (hbp.mono ?_)) | (with_reducible refine Below.trans ?_ (hba.mono ?_)))); all_goals (first | (simp; done) | (simp; omega) | omega)))))
              clear hK K
              (try simp only [Act.put, List.setIfInBounds_toArray, List.set_cons_zero, List.set_cons_succ, List.getElem_toArray, List.getElem_cons_zero, List.getElem_cons_succ])
              refine wpAnyH_ready (rs := [7]) (by kernel_rfl) (by simp) ?_
              refine AllReadyH.cons rfl (fun K hK => ?_) AllReadyH.nil
              go_simp
              refine hK.out _ _ ?_ (fun hHeld => ?_)
              · (first | ((refine KF.out _ ?_; ((repeat' (first | (with_reducible exact Below.refl _ _) | (with_reducible refine Below.drew ?_) | (with_reducible refine Below.alloc ?_ ?_ _) | (with_reducible refine Below.trans ?_ (hbp.mono ?_)) | (with_reducible refine Below.trans ?_ (hba.mono ?_)))); all_goals (first | (simp; done) | (simp; omega) | omega)))) | ((refine KT.out _ _ _ ?_; ((repeat' (first | (with_reducible exact Below.refl _ _) | (with_reducible refine Below.drew ?_) | (with_reducible refine Below.alloc ?_ ?_ _) | (with_reducible refine Below.trans ?_ (hbp.mono ?_)) | (with_reducible refine Below.trans ?_ (hba.mono ?_)))); all_goals (first | (simp; done) | (simp; omega) | omega)))))
              clear hK K
              (try simp only [Act.put, List.setIfInBounds_toArray, List.set_cons_zero, List.set_cons_succ, List.getElem_toArray, List.getElem_cons_zero, List.getElem_cons_succ])
              refine wpAnyH_done (by kernel_rfl) ?_ _
              have HB : Below wr.heap.size wr wa := by ((repeat' (first | (with_reducible exact Below.refl _ _) | (with_reducible refine Below.drew ?_) | (with_reducible refine Below.alloc ?_ ?_ _) | (with_reducible refine Below.trans ?_ (hbp.mono ?_)) | (with_reducible refine Below.trans ?_ (hba.mono ?_)))); all_goals (first | (simp; done) | (simp; omega) | omega))
              have SW := Lib.hid ((SZ.out.call HB).put (L + fl) (H + fh))
              go_wp2_with fail
              go_roundg (t.vs.xs.length - 1 - (k + 1))
              case measure => have := HN2.out; omega
              case rel => exact ⟨k + 1, by omega, rfl, by first | rfl | go_num, by rw [HSL.out, HSH.out]; exact SW⟩
            · obtain rfl : k = t.vs.xs.length - 1 := by omega
              have hno : ¬ (((t.vs.xs.length - 1 : Nat) : Int)) < (t.vs.xs.length : Int) - 1 := by omega
              go_wp2_with fail
              go_roundg (t.us.xs.length - 1 - (i + 1))
              case measure => have := HN.out; omega
              case rel => exact ⟨i + 1, by omega, rfl, by first | rfl | go_num, SZ⟩
        · obtain rfl : i = t.us.xs.length - 1 := by omega
          have hno : ¬ (((t.us.xs.length - 1 : Nat) : Int)) < (t.us.xs.length : Int) - 1 := by omega
          obtain ⟨tr0, tr1⟩ := tr_bd OT.out (i := t.us.xs.length - 1) (by omega) q4
          have EL : Hid (toLo t q = sm (fun i => sm (feLo t q i) (t.vs.xs.length - 1)) (t.us.xs.length - 1)) := rfl
          have EH : Hid (toHi t q = sm (fun i => sm (feHi t q i) (t.vs.xs.length - 1)) (t.us.xs.length - 1)) := rfl
          generalize sm (fun i => sm (feLo t q i) (t.vs.xs.length - 1)) (t.us.xs.length - 1) = L at *
          generalize sm (fun i => sm (feHi t q i) (t.vs.xs.length - 1)) (t.us.xs.length - 1) = H at *
          have DN := Lib.hid (fun W => down_any L 1000 W (by decide) (by decide) (by omega) (by omega))
          have UP := Lib.hid (fun W => up_any H 1000 W (by decide) (by decide) (by omega) (by omega))
          clear tr0 tr1
          obtain ⟨_, _, _, _, _, _, _, ⟨y0, y1, y2, y3, y4⟩, rr, bb, _, _, _, hwr⟩ := SK.out
          have RR := Lib.hid rr
          have BB := Lib.hid bb
          clear SK
          go_wp2_with fail
          go_still_tail 7, (by kernel_rfl)
          still_call ((DN.out _).mono fun _ _ hh => ⟨hh.1, hh.2.symm⟩)
          repeat still_step
          still_call ((UP.out _).mono fun _ _ hh => ⟨hh.1, hh.2.symm⟩)
          repeat still_step
          (try refine wpStill_nil ?_)
          have RR2 := Lib.hid RR.out.drew
          have BB2 := Lib.hid BB.out.drew
          change wpList _ _ _ _ _ wr.drew
          generalize wr.drew = W5 at *
          obtain ⟨z0, z1, z2, z3, z4⟩ := RR2.out
          clear y0 y1 y2 y3 y4 rr bb
          go_wp2_with fail
          refine bodyPost_ret (v := enclE (L / 1000) (upD H 1000) 0) (by simp [results, Try.results25, go_sem, z0, z1]) rfl ⟨by rw [F0.out, F1.out, F2.out, EL.out, EH.out], ?_⟩
          exact (BB2.out.setCell (p := ⟨R, 0, none⟩) hwr _).setCell (p := ⟨R, 1, none⟩) hwr _
end Go.Proofs.Ytgmpipciinphiaa
