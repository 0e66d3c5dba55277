/- Towards of the reference. -/
import Derived.Test.YthmelkakgbchbaaRvo
import Derived.Test.YthmelkakgbchbaaTow
import Derived.Test.YthmelkakgbchbaaRfx
namespace Go.Proofs.Ythmelkakgbchbaa
set_option linter.unusedSimpArgs false
set_option linter.unusedVariables false
open Go.RowKit
attribute [local go_sem ↓] Go.wp_at_zero Go.wp_at_succ

theorem Bq.freshAt {g : Nat} {W : World} (h : g = W.heap.size) (x y : Int) (t : TypeId) : Bq g x y (W.alloc (.cells #[.int .i64 x, .int .i64 y] t)) := h ▸ Bq.fresh W x y t
theorem Bq.below {b : Nat} {x y : Int} {W W1 : World} (h : Bq b x y W) (k : Below W.heap.size W W1) : Bq b x y W1 := h.keep k h.lt
theorem Bq.alloc' {b : Nat} {x y : Int} {W : World} (h : Bq b x y W) (o : Obj) : Bq b x y (W.alloc o) := h.keep (below_new W o) h.lt

set_option maxRecDepth 100000 in
set_option maxHeartbeats 20000000 in
theorem rTowards_any (c : Cat) (n a m v x0 x1 y0 y1 h : Int) (w : World) (hc : CatIn w.heap.size c w) :
    Calls Try.prog 34 #[.agg #[c.tv, c.lv], .int .i64 n, .agg #[.int .i64 a, .int .i64 m, .int .i64 v], .agg #[.int .i64 x0, .int .i64 x1, .int .i64 y0, .int .i64 y1], .int .i64 h] w fun e w' => e = .returned (enclE (twLo c n a m v x0 x1 y0 y1 h) (twHi c n a m v x0 x1 y0 y1 h) (twE c n a m v x0 x1 y0 y1 h)) ∧ Below w.heap.size w w' := by
  have HC := Lib.hid hc
  clear hc
  have LD := Lib.hid (fun W (hh : CatIn W.heap.size c W) => rlamped_any c n W hh)
  have US := Lib.hid (fun W => rused_any a m v W)
  have RE := Lib.hid (fun W => rrect_any x0 x1 y0 y1 h W)
  unfold Cat.tv Cat.lv at *
  have bw0 : Below w.heap.size w ((((w.alloc (.cells #[.slice c.ta c.tabs.length c.tc, .slice c.la c.lamps.length c.lc] 25)).alloc (.cells #[.int .i64 a, .int .i64 m, .int .i64 v] 48)).alloc (.cells #[.int .i64 x0, .int .i64 x1, .int .i64 y0, .int .i64 y1] 40)).alloc (.cells #[.int .i64 0, .int .i64 0] 35)) := ((((Below.refl _ _).alloc (Nat.le_refl _) _).alloc (by simp) _).alloc (by simp; omega) _).alloc (by simp; omega) _
  have kt0 : Kt4 c a m v x0 x1 y0 y1 w.heap.size ((((w.alloc (.cells #[.slice c.ta c.tabs.length c.tc, .slice c.la c.lamps.length c.lc] 25)).alloc (.cells #[.int .i64 a, .int .i64 m, .int .i64 v] 48)).alloc (.cells #[.int .i64 x0, .int .i64 x1, .int .i64 y0, .int .i64 y1] 40)).alloc (.cells #[.int .i64 0, .int .i64 0] 35)) := by constructor <;> simp [go_sem]
  have bz0 : Bq (w.heap.size + 1 + 1 + 1) 0 0 ((((w.alloc (.cells #[.slice c.ta c.tabs.length c.tc, .slice c.la c.lamps.length c.lc] 25)).alloc (.cells #[.int .i64 a, .int .i64 m, .int .i64 v] 48)).alloc (.cells #[.int .i64 x0, .int .i64 x1, .int .i64 y0, .int .i64 y1] 40)).alloc (.cells #[.int .i64 0, .int .i64 0] 35)) := by constructor <;> simp [go_sem]
  have BW0 := Lib.hid bw0
  have KT0 := Lib.hid kt0
  have BZ0 := Lib.hid bz0
  clear bw0 kt0 bz0
  have CI := Lib.hid (fun (W : World) (hh : Below w.heap.size w W) => (HC.out.keep hh (Nat.le_refl _)).more hh.size)
  have HX : Hid (fxE c n a m v = if errOf c n c.lamps.length ≠ 0 then errOf c n c.lamps.length else if useB a m v = true then 0 else 7) := rfl
  have HE : Hid (twE c n a m v x0 x1 y0 y1 h = if fxE c n a m v ≠ 0 then fxE c n a m v else rectE x0 x1 y0 y1 h) := rfl
  have HL : Hid (twLo c n a m v x0 x1 y0 y1 h = if twE c n a m v x0 x1 y0 y1 h ≠ 0 then 0 else (hullLo (fnd (lamT c n) x0 x1 y0 y1 h) * flxLo (lmpAt c.lamps n.toNat) a m v) / 1000) := rfl
  have HH : Hid (twHi c n a m v x0 x1 y0 y1 h = if twE c n a m v x0 x1 y0 y1 h ≠ 0 then 0 else upD (hullHi (fnd (lamT c n) x0 x1 y0 y1 h) * flxHi (lmpAt c.lamps n.toNat) a m v) 1000) := rfl
  by_cases hz : errOf c n c.lamps.length = 0
  case neg =>
    have HF : Hid (twE c n a m v x0 x1 y0 y1 h = errOf c n c.lamps.length) := HE.out.trans ((if_pos (by rw [HX.out, if_pos hz]; exact hz)).trans (HX.out.trans (if_pos hz)))
    have HF1 : Hid (twLo c n a m v x0 x1 y0 y1 h = 0) := HL.out.trans (if_pos (by rw [HF.out]; exact hz))
    have HF2 : Hid (twHi c n a m v x0 x1 y0 y1 h = 0) := HH.out.trans (if_pos (by rw [HF.out]; exact hz))
    have b2 : (errOf c n c.lamps.length != 0) = true := by simpa using hz
    have b3 : (errOf c n c.lamps.length == 0) = false := by simpa using hz
    clear hz
    generalize errOf c n c.lamps.length = e0 at *
    go_enter Try.func34, Try.ntmps34
    go_wp2_with fail
    generalize ((((w.alloc (.cells #[.slice c.ta c.tabs.length c.tc, .slice c.la c.lamps.length c.lc] 25)).alloc (.cells #[.int .i64 a, .int .i64 m, .int .i64 v] 48)).alloc (.cells #[.int .i64 x0, .int .i64 x1, .int .i64 y0, .int .i64 y1] 40)).alloc (.cells #[.int .i64 0, .int .i64 0] 35)) = W0 at *
    refine (LD.out _ (CI.out _ BW0.out)).mono ?_
    rintro e w1 ⟨rfl, o1⟩
    obtain ⟨z0, z1, z2, z3, _⟩ := BZ0.out.keep o1.below BZ0.out.lt
    go_wp2_with fail
    refine bodyPost_ret (v := enclE 0 0 e0) (by simp [results, Try.results34, go_sem, z0, z1]) rfl ⟨by rw [HF.out, HF1.out, HF2.out], ?_⟩
    exact ((BW0.out.trans (o1.below.mono BW0.out.size)).setCell (p := ⟨w.heap.size + 1 + 1 + 1, 0, none⟩) (by show w.heap.size ≤ w.heap.size + 1 + 1 + 1; omega) _).setCell (p := ⟨w.heap.size + 1 + 1 + 1, 1, none⟩) (by show w.heap.size ≤ w.heap.size + 1 + 1 + 1; omega) _
  case pos =>
    obtain ⟨ok, hn0, hn1⟩ := errOf_ok hz
    have HX2 : Hid (fxE c n a m v = if useB a m v = true then 0 else 7) := HX.out.trans (if_neg (fun hh => hh hz))
    rw [hz] at LD
    clear hz HX
    obtain ⟨k, rfl⟩ := Int.eq_ofNat_of_zero_le hn0
    have hm : k < c.lamps.length := by omega
    have okl := ok.lmp k hm
    have ek : (k : Int).toNat = k := rfl
    rw [ek] at HL HH
    clear ek
    cases hu : useB a m v
    case false =>
      have HX3 : Hid (fxE c k a m v = 7) := HX2.out.trans (if_neg (by rw [hu]; decide))
      have HF : Hid (twE c k a m v x0 x1 y0 y1 h = 7) := HE.out.trans ((if_pos (by rw [HX3.out]; decide)).trans HX3.out)
      have HF1 : Hid (twLo c k a m v x0 x1 y0 y1 h = 0) := HL.out.trans (if_pos (by rw [HF.out]; decide))
      have HF2 : Hid (twHi c k a m v x0 x1 y0 y1 h = 0) := HH.out.trans (if_pos (by rw [HF.out]; decide))
      rw [usE_7 hu] at US
      clear hu
      go_enter Try.func34, Try.ntmps34
      go_wp2_with fail
      generalize ((((w.alloc (.cells #[.slice c.ta c.tabs.length c.tc, .slice c.la c.lamps.length c.lc] 25)).alloc (.cells #[.int .i64 a, .int .i64 m, .int .i64 v] 48)).alloc (.cells #[.int .i64 x0, .int .i64 x1, .int .i64 y0, .int .i64 y1] 40)).alloc (.cells #[.int .i64 0, .int .i64 0] 35)) = W0 at *
      refine (LD.out _ (CI.out _ BW0.out)).mono ?_
      rintro e w1 ⟨rfl, o1⟩
      have lt0 := BZ0.out.lt
      obtain ⟨t0, t1, p0, p1, p2, r0, r1, r2, r3⟩ := KT0.out.keep o1.below (by omega)
      have BZ1 := Lib.hid (BZ0.out.keep o1.below BZ0.out.lt)
      have BW1 := Lib.hid (BW0.out.trans (o1.below.mono BW0.out.size))
      clear t0 t1 r0 r1 r2 r3
      go_wp2_with fail
      refine (US.out _).mono ?_
      rintro e w2 ⟨rfl, o2⟩
      clear p0 p1 p2
      obtain ⟨z0, z1, z2, z3, _⟩ := BZ1.out.keep o2.below BZ1.out.lt
      go_wp2_with fail
      refine bodyPost_ret (v := enclE 0 0 7) (by simp [results, Try.results34, go_sem, z0, z1]) rfl ⟨by rw [HF.out, HF1.out, HF2.out], ?_⟩
      exact ((BW1.out.trans (o2.below.mono BW1.out.size)).setCell (p := ⟨w.heap.size + 1 + 1 + 1, 0, none⟩) (by show w.heap.size ≤ w.heap.size + 1 + 1 + 1; omega) _).setCell (p := ⟨w.heap.size + 1 + 1 + 1, 1, none⟩) (by show w.heap.size ≤ w.heap.size + 1 + 1 + 1; omega) _
    case true =>
      have HX3 : Hid (fxE c k a m v = 0) := HX2.out.trans (if_pos hu)
      have HE2 : Hid (twE c k a m v x0 x1 y0 y1 h = rectE x0 x1 y0 y1 h) := HE.out.trans (if_neg (by rw [HX3.out]; exact fun hh => hh rfl))
      rw [usE_0 hu] at US
      have FB := flx_bd okl hu
      have RF := Lib.hid (fun W => rflux_any c.tabs.length (lmpAt c.lamps k) a m v W okl hu)
      unfold Lmp.val at RF
      clear HX2 HE
      generalize hf0 : flxLo (lmpAt c.lamps k) a m v = f0 at *
      generalize hf1 : flxHi (lmpAt c.lamps k) a m v = f1 at *
      clear hf0 hf1
      by_cases hr : rectE x0 x1 y0 y1 h = 0
      case neg =>
        have HF1 : Hid (twLo c k a m v x0 x1 y0 y1 h = 0) := HL.out.trans (if_pos (by rw [HE2.out]; exact hr))
        have HF2 : Hid (twHi c k a m v x0 x1 y0 y1 h = 0) := HH.out.trans (if_pos (by rw [HE2.out]; exact hr))
        have b2 : (rectE x0 x1 y0 y1 h != 0) = true := by simpa using hr
        have b3 : (rectE x0 x1 y0 y1 h == 0) = false := by simpa using hr
        clear hr FB
        generalize rectE x0 x1 y0 y1 h = e0 at *
        go_enter Try.func34, Try.ntmps34
        go_wp2_with fail
        generalize ((((w.alloc (.cells #[.slice c.ta c.tabs.length c.tc, .slice c.la c.lamps.length c.lc] 25)).alloc (.cells #[.int .i64 a, .int .i64 m, .int .i64 v] 48)).alloc (.cells #[.int .i64 x0, .int .i64 x1, .int .i64 y0, .int .i64 y1] 40)).alloc (.cells #[.int .i64 0, .int .i64 0] 35)) = W0 at *
        refine (LD.out _ (CI.out _ BW0.out)).mono ?_
        rintro e w1 ⟨rfl, o1⟩
        have lt0 := BZ0.out.lt
        have KT1 := Lib.hid (KT0.out.keep o1.below (by omega))
        obtain ⟨t0, t1, p0, p1, p2, r0, r1, r2, r3⟩ := KT1.out
        have BZ1 := Lib.hid (BZ0.out.keep o1.below BZ0.out.lt)
        have BW1 := Lib.hid (BW0.out.trans (o1.below.mono BW0.out.size))
        clear t0 t1 r0 r1 r2 r3
        go_wp2_with fail
        refine (US.out _).mono ?_
        rintro e w2 ⟨rfl, o2⟩
        clear p0 p1 p2
        have lt1 := BZ1.out.lt
        obtain ⟨t0, t1, p0, p1, p2, r0, r1, r2, r3⟩ := KT1.out.keep o2.below (by omega)
        have BZ2 := Lib.hid (BZ1.out.keep o2.below BZ1.out.lt)
        have BW2 := Lib.hid (BW1.out.trans (o2.below.mono BW1.out.size))
        clear t0 t1 p0 p1 p2
        go_wp2_with fail
        refine (RE.out _).mono ?_
        rintro e w3 ⟨rfl, o3⟩
        clear r0 r1 r2 r3
        obtain ⟨z0, z1, z2, z3, _⟩ := BZ2.out.keep o3.below BZ2.out.lt
        go_wp2_with fail
        refine bodyPost_ret (v := enclE 0 0 e0) (by simp [results, Try.results34, go_sem, z0, z1]) rfl ⟨by rw [HE2.out, HF1.out, HF2.out], ?_⟩
        exact ((BW2.out.trans (o3.below.mono BW2.out.size)).setCell (p := ⟨w.heap.size + 1 + 1 + 1, 0, none⟩) (by show w.heap.size ≤ w.heap.size + 1 + 1 + 1; omega) _).setCell (p := ⟨w.heap.size + 1 + 1 + 1, 1, none⟩) (by show w.heap.size ≤ w.heap.size + 1 + 1 + 1; omega) _
      case pos =>
        obtain ⟨b0, b1, b2, b3, b4, b5, b6, b7⟩ := rectE_ok hr
        have HR := Lib.hid hr
        rw [hr] at RE
        have hq0 := okl.t0
        have hq1 := okl.t1
        obtain ⟨q, hq⟩ := Int.eq_ofNat_of_zero_le hq0
        have hqm : q < c.tabs.length := by omega
        have okt := ok.tab q hqm
        have HT : Hid (lamT c k = tabAt c.tabs q) := by show tabAt c.tabs (lmpAt c.lamps k).table.toNat = _; rw [hq]; rfl
        have HF1 : Hid (twLo c k a m v x0 x1 y0 y1 h = (hullLo (fnd (tabAt c.tabs q) x0 x1 y0 y1 h) * f0) / 1000) := by have := HL.out.trans (if_neg (by rw [HE2.out]; exact fun hh => hh hr)); rw [HT.out] at this; exact this
        have HF2 : Hid (twHi c k a m v x0 x1 y0 y1 h = upD (hullHi (fnd (tabAt c.tabs q) x0 x1 y0 y1 h) * f1) 1000) := by have := HH.out.trans (if_neg (by rw [HE2.out]; exact fun hh => hh hr)); rw [HT.out] at this; exact this
        have HB := hull_bd okt b0 b1 b2 b3 b4 b5 b6 b7
        have OV := Lib.hid (fun (W : World) (hu : IntsIn W.heap.size (tabAt c.tabs q).us.a (tabAt c.tabs q).us.xs W) (hv : IntsIn W.heap.size (tabAt c.tabs q).vs.a (tabAt c.tabs q).vs.xs W) (hrr : RowsIn W.heap.size (tabAt c.tabs q).ra (tabAt c.tabs q).rows W) => rover_any (tabAt c.tabs q) x0 x1 y0 y1 h W okt hu hv hrr b0 b1 b2 b3 b4 b5 b6 b7)
        clear HL HH hr
        generalize hullLo (fnd (tabAt c.tabs q) x0 x1 y0 y1 h) = g0 at *
        generalize hullHi (fnd (tabAt c.tabs q) x0 x1 y0 y1 h) = g1 at *
        have M1 := mul_bd (x := g0) (X := 10000000) (y := f0) (Y := 1000000) HB.1 (by omega) FB.1 FB.2.1
        have M2 := mul_bd (x := g1) (X := 10000000) (y := f1) (Y := 1000000) (by omega) (by omega) FB.2.2.1 FB.2.2.2
        have e5 : IntKind.i64.wrap (g0 * f0) = g0 * f0 := IntWalk.i64_in _ (by omega)
        have e6 : IntKind.i64.wrap (g1 * f1) = g1 * f1 := IntWalk.i64_in _ (by omega)
        have DN := Lib.hid (fun W => rdown_any (g0 * f0) 1000 W (by omega) (by omega) (by omega) (by omega))
        have UP := Lib.hid (fun W => rup_any (g1 * f1) 1000 W (by omega) (by omega) (by omega) (by omega))
        clear M1 M2 FB HB b0 b1 b2 b3 b4 b5 b6 b7
        go_enter Try.func34, Try.ntmps34
        go_wp2_with fail
        generalize ((((w.alloc (.cells #[.slice c.ta c.tabs.length c.tc, .slice c.la c.lamps.length c.lc] 25)).alloc (.cells #[.int .i64 a, .int .i64 m, .int .i64 v] 48)).alloc (.cells #[.int .i64 x0, .int .i64 x1, .int .i64 y0, .int .i64 y1] 40)).alloc (.cells #[.int .i64 0, .int .i64 0] 35)) = W0 at *
        refine (LD.out _ (CI.out _ BW0.out)).mono ?_
        rintro e w1 ⟨rfl, o1⟩
        have lt0 := BZ0.out.lt
        have KT1 := Lib.hid (KT0.out.keep o1.below (by omega))
        obtain ⟨t0, t1, p0, p1, p2, r0, r1, r2, r3⟩ := KT1.out
        have BZ1 := Lib.hid (BZ0.out.keep o1.below BZ0.out.lt)
        have BW1 := Lib.hid (BW0.out.trans (o1.below.mono BW0.out.size))
        clear t0 t1 r0 r1 r2 r3
        go_wp2_with fail
        refine (US.out _).mono ?_
        rintro e w2 ⟨rfl, o2⟩
        clear p0 p1 p2
        have lt1 := BZ1.out.lt
        have KT2 := Lib.hid (KT1.out.keep o2.below (by omega))
        obtain ⟨t0, t1, p0, p1, p2, r0, r1, r2, r3⟩ := KT2.out
        have BZ2 := Lib.hid (BZ1.out.keep o2.below BZ1.out.lt)
        have BW2 := Lib.hid (BW1.out.trans (o2.below.mono BW1.out.size))
        clear t0 t1 p0 p1 p2
        go_wp2_with fail
        refine (RE.out _).mono ?_
        rintro e w3 ⟨rfl, o3⟩
        clear r0 r1 r2 r3
        have lt2 := BZ2.out.lt
        have KT3 := Lib.hid (KT2.out.keep o3.below (by omega))
        have BZ3 := Lib.hid (BZ2.out.keep o3.below BZ2.out.lt)
        have BW3 := Lib.hid (BW2.out.trans (o3.below.mono BW2.out.size))
        have lt3 := BZ3.out.lt
        obtain ⟨t0, t1, _, _, _, _, _, _, _⟩ := KT3.out
        obtain ⟨lb, lo, ha2, hb2, hl⟩ := lmpAt_cells (HC.out.keep BW3.out (Nat.le_refl _)) hm
        rw [ha2] at t1
        obtain ⟨ll0, ll1, c0, c1, c2, c3, c4, c5, c6, c7, c8, c9, c10, c11, c12, c13⟩ := hl
        have n1 : (0 : Int) ≤ (k : Int) := by omega
        have n2 : (k : Int) < (c.lamps.length : Int) := by omega
        clear ll0 ll1 ha2 o1 o2 o3
        go_wp2_with fail
        clear t0 t1 c0 c1 c2 c3 c4 c5 c6 c7 c8 c9 c10 c11 c12 c13
        have CL : Hid ((w3.alloc (.cells #[.string (lmpAt c.lamps k).name, .int .i64 ((q : Nat) : Int), .int .i64 (lmpAt c.lamps k).kind, .int .i64 (lmpAt c.lamps k).lumens, .int .i64 (lmpAt c.lamps k).power, .int .i64 (lmpAt c.lamps k).standing, .int .i64 (lmpAt c.lamps k).tol, .int .i64 (lmpAt c.lamps k).alo, .int .i64 (lmpAt c.lamps k).ahi, .int .i64 (lmpAt c.lamps k).dlo, .int .i64 (lmpAt c.lamps k).dhi, .int .i64 (lmpAt c.lamps k).life, .int .i64 (lmpAt c.lamps k).dim, .int .i64 (lmpAt c.lamps k).rest] 82)).cell? ⟨w3.heap.size, 0, none⟩ = some (.string (lmpAt c.lamps k).name) ∧ (w3.alloc (.cells #[.string (lmpAt c.lamps k).name, .int .i64 ((q : Nat) : Int), .int .i64 (lmpAt c.lamps k).kind, .int .i64 (lmpAt c.lamps k).lumens, .int .i64 (lmpAt c.lamps k).power, .int .i64 (lmpAt c.lamps k).standing, .int .i64 (lmpAt c.lamps k).tol, .int .i64 (lmpAt c.lamps k).alo, .int .i64 (lmpAt c.lamps k).ahi, .int .i64 (lmpAt c.lamps k).dlo, .int .i64 (lmpAt c.lamps k).dhi, .int .i64 (lmpAt c.lamps k).life, .int .i64 (lmpAt c.lamps k).dim, .int .i64 (lmpAt c.lamps k).rest] 82)).cell? ⟨w3.heap.size, 1, none⟩ = some (.int .i64 ((q : Nat) : Int)) ∧ (w3.alloc (.cells #[.string (lmpAt c.lamps k).name, .int .i64 ((q : Nat) : Int), .int .i64 (lmpAt c.lamps k).kind, .int .i64 (lmpAt c.lamps k).lumens, .int .i64 (lmpAt c.lamps k).power, .int .i64 (lmpAt c.lamps k).standing, .int .i64 (lmpAt c.lamps k).tol, .int .i64 (lmpAt c.lamps k).alo, .int .i64 (lmpAt c.lamps k).ahi, .int .i64 (lmpAt c.lamps k).dlo, .int .i64 (lmpAt c.lamps k).dhi, .int .i64 (lmpAt c.lamps k).life, .int .i64 (lmpAt c.lamps k).dim, .int .i64 (lmpAt c.lamps k).rest] 82)).cell? ⟨w3.heap.size, 2, none⟩ = some (.int .i64 (lmpAt c.lamps k).kind) ∧ (w3.alloc (.cells #[.string (lmpAt c.lamps k).name, .int .i64 ((q : Nat) : Int), .int .i64 (lmpAt c.lamps k).kind, .int .i64 (lmpAt c.lamps k).lumens, .int .i64 (lmpAt c.lamps k).power, .int .i64 (lmpAt c.lamps k).standing, .int .i64 (lmpAt c.lamps k).tol, .int .i64 (lmpAt c.lamps k).alo, .int .i64 (lmpAt c.lamps k).ahi, .int .i64 (lmpAt c.lamps k).dlo, .int .i64 (lmpAt c.lamps k).dhi, .int .i64 (lmpAt c.lamps k).life, .int .i64 (lmpAt c.lamps k).dim, .int .i64 (lmpAt c.lamps k).rest] 82)).cell? ⟨w3.heap.size, 3, none⟩ = some (.int .i64 (lmpAt c.lamps k).lumens) ∧ (w3.alloc (.cells #[.string (lmpAt c.lamps k).name, .int .i64 ((q : Nat) : Int), .int .i64 (lmpAt c.lamps k).kind, .int .i64 (lmpAt c.lamps k).lumens, .int .i64 (lmpAt c.lamps k).power, .int .i64 (lmpAt c.lamps k).standing, .int .i64 (lmpAt c.lamps k).tol, .int .i64 (lmpAt c.lamps k).alo, .int .i64 (lmpAt c.lamps k).ahi, .int .i64 (lmpAt c.lamps k).dlo, .int .i64 (lmpAt c.lamps k).dhi, .int .i64 (lmpAt c.lamps k).life, .int .i64 (lmpAt c.lamps k).dim, .int .i64 (lmpAt c.lamps k).rest] 82)).cell? ⟨w3.heap.size, 4, none⟩ = some (.int .i64 (lmpAt c.lamps k).power) ∧ (w3.alloc (.cells #[.string (lmpAt c.lamps k).name, .int .i64 ((q : Nat) : Int), .int .i64 (lmpAt c.lamps k).kind, .int .i64 (lmpAt c.lamps k).lumens, .int .i64 (lmpAt c.lamps k).power, .int .i64 (lmpAt c.lamps k).standing, .int .i64 (lmpAt c.lamps k).tol, .int .i64 (lmpAt c.lamps k).alo, .int .i64 (lmpAt c.lamps k).ahi, .int .i64 (lmpAt c.lamps k).dlo, .int .i64 (lmpAt c.lamps k).dhi, .int .i64 (lmpAt c.lamps k).life, .int .i64 (lmpAt c.lamps k).dim, .int .i64 (lmpAt c.lamps k).rest] 82)).cell? ⟨w3.heap.size, 5, none⟩ = some (.int .i64 (lmpAt c.lamps k).standing) ∧ (w3.alloc (.cells #[.string (lmpAt c.lamps k).name, .int .i64 ((q : Nat) : Int), .int .i64 (lmpAt c.lamps k).kind, .int .i64 (lmpAt c.lamps k).lumens, .int .i64 (lmpAt c.lamps k).power, .int .i64 (lmpAt c.lamps k).standing, .int .i64 (lmpAt c.lamps k).tol, .int .i64 (lmpAt c.lamps k).alo, .int .i64 (lmpAt c.lamps k).ahi, .int .i64 (lmpAt c.lamps k).dlo, .int .i64 (lmpAt c.lamps k).dhi, .int .i64 (lmpAt c.lamps k).life, .int .i64 (lmpAt c.lamps k).dim, .int .i64 (lmpAt c.lamps k).rest] 82)).cell? ⟨w3.heap.size, 6, none⟩ = some (.int .i64 (lmpAt c.lamps k).tol) ∧ (w3.alloc (.cells #[.string (lmpAt c.lamps k).name, .int .i64 ((q : Nat) : Int), .int .i64 (lmpAt c.lamps k).kind, .int .i64 (lmpAt c.lamps k).lumens, .int .i64 (lmpAt c.lamps k).power, .int .i64 (lmpAt c.lamps k).standing, .int .i64 (lmpAt c.lamps k).tol, .int .i64 (lmpAt c.lamps k).alo, .int .i64 (lmpAt c.lamps k).ahi, .int .i64 (lmpAt c.lamps k).dlo, .int .i64 (lmpAt c.lamps k).dhi, .int .i64 (lmpAt c.lamps k).life, .int .i64 (lmpAt c.lamps k).dim, .int .i64 (lmpAt c.lamps k).rest] 82)).cell? ⟨w3.heap.size, 7, none⟩ = some (.int .i64 (lmpAt c.lamps k).alo) ∧ (w3.alloc (.cells #[.string (lmpAt c.lamps k).name, .int .i64 ((q : Nat) : Int), .int .i64 (lmpAt c.lamps k).kind, .int .i64 (lmpAt c.lamps k).lumens, .int .i64 (lmpAt c.lamps k).power, .int .i64 (lmpAt c.lamps k).standing, .int .i64 (lmpAt c.lamps k).tol, .int .i64 (lmpAt c.lamps k).alo, .int .i64 (lmpAt c.lamps k).ahi, .int .i64 (lmpAt c.lamps k).dlo, .int .i64 (lmpAt c.lamps k).dhi, .int .i64 (lmpAt c.lamps k).life, .int .i64 (lmpAt c.lamps k).dim, .int .i64 (lmpAt c.lamps k).rest] 82)).cell? ⟨w3.heap.size, 8, none⟩ = some (.int .i64 (lmpAt c.lamps k).ahi) ∧ (w3.alloc (.cells #[.string (lmpAt c.lamps k).name, .int .i64 ((q : Nat) : Int), .int .i64 (lmpAt c.lamps k).kind, .int .i64 (lmpAt c.lamps k).lumens, .int .i64 (lmpAt c.lamps k).power, .int .i64 (lmpAt c.lamps k).standing, .int .i64 (lmpAt c.lamps k).tol, .int .i64 (lmpAt c.lamps k).alo, .int .i64 (lmpAt c.lamps k).ahi, .int .i64 (lmpAt c.lamps k).dlo, .int .i64 (lmpAt c.lamps k).dhi, .int .i64 (lmpAt c.lamps k).life, .int .i64 (lmpAt c.lamps k).dim, .int .i64 (lmpAt c.lamps k).rest] 82)).cell? ⟨w3.heap.size, 9, none⟩ = some (.int .i64 (lmpAt c.lamps k).dlo) ∧ (w3.alloc (.cells #[.string (lmpAt c.lamps k).name, .int .i64 ((q : Nat) : Int), .int .i64 (lmpAt c.lamps k).kind, .int .i64 (lmpAt c.lamps k).lumens, .int .i64 (lmpAt c.lamps k).power, .int .i64 (lmpAt c.lamps k).standing, .int .i64 (lmpAt c.lamps k).tol, .int .i64 (lmpAt c.lamps k).alo, .int .i64 (lmpAt c.lamps k).ahi, .int .i64 (lmpAt c.lamps k).dlo, .int .i64 (lmpAt c.lamps k).dhi, .int .i64 (lmpAt c.lamps k).life, .int .i64 (lmpAt c.lamps k).dim, .int .i64 (lmpAt c.lamps k).rest] 82)).cell? ⟨w3.heap.size, 10, none⟩ = some (.int .i64 (lmpAt c.lamps k).dhi) ∧ (w3.alloc (.cells #[.string (lmpAt c.lamps k).name, .int .i64 ((q : Nat) : Int), .int .i64 (lmpAt c.lamps k).kind, .int .i64 (lmpAt c.lamps k).lumens, .int .i64 (lmpAt c.lamps k).power, .int .i64 (lmpAt c.lamps k).standing, .int .i64 (lmpAt c.lamps k).tol, .int .i64 (lmpAt c.lamps k).alo, .int .i64 (lmpAt c.lamps k).ahi, .int .i64 (lmpAt c.lamps k).dlo, .int .i64 (lmpAt c.lamps k).dhi, .int .i64 (lmpAt c.lamps k).life, .int .i64 (lmpAt c.lamps k).dim, .int .i64 (lmpAt c.lamps k).rest] 82)).cell? ⟨w3.heap.size, 11, none⟩ = some (.int .i64 (lmpAt c.lamps k).life) ∧ (w3.alloc (.cells #[.string (lmpAt c.lamps k).name, .int .i64 ((q : Nat) : Int), .int .i64 (lmpAt c.lamps k).kind, .int .i64 (lmpAt c.lamps k).lumens, .int .i64 (lmpAt c.lamps k).power, .int .i64 (lmpAt c.lamps k).standing, .int .i64 (lmpAt c.lamps k).tol, .int .i64 (lmpAt c.lamps k).alo, .int .i64 (lmpAt c.lamps k).ahi, .int .i64 (lmpAt c.lamps k).dlo, .int .i64 (lmpAt c.lamps k).dhi, .int .i64 (lmpAt c.lamps k).life, .int .i64 (lmpAt c.lamps k).dim, .int .i64 (lmpAt c.lamps k).rest] 82)).cell? ⟨w3.heap.size, 12, none⟩ = some (.int .i64 (lmpAt c.lamps k).dim) ∧ (w3.alloc (.cells #[.string (lmpAt c.lamps k).name, .int .i64 ((q : Nat) : Int), .int .i64 (lmpAt c.lamps k).kind, .int .i64 (lmpAt c.lamps k).lumens, .int .i64 (lmpAt c.lamps k).power, .int .i64 (lmpAt c.lamps k).standing, .int .i64 (lmpAt c.lamps k).tol, .int .i64 (lmpAt c.lamps k).alo, .int .i64 (lmpAt c.lamps k).ahi, .int .i64 (lmpAt c.lamps k).dlo, .int .i64 (lmpAt c.lamps k).dhi, .int .i64 (lmpAt c.lamps k).life, .int .i64 (lmpAt c.lamps k).dim, .int .i64 (lmpAt c.lamps k).rest] 82)).cell? ⟨w3.heap.size, 13, none⟩ = some (.int .i64 (lmpAt c.lamps k).rest)) := by
          show _ ∧ _
          refine ⟨?_, ?_, ?_, ?_, ?_, ?_, ?_, ?_, ?_, ?_, ?_, ?_, ?_, ?_⟩ <;> simp [go_sem]
        have WL := Lib.hid (below_new w3 (.cells #[.string (lmpAt c.lamps k).name, .int .i64 ((q : Nat) : Int), .int .i64 (lmpAt c.lamps k).kind, .int .i64 (lmpAt c.lamps k).lumens, .int .i64 (lmpAt c.lamps k).power, .int .i64 (lmpAt c.lamps k).standing, .int .i64 (lmpAt c.lamps k).tol, .int .i64 (lmpAt c.lamps k).alo, .int .i64 (lmpAt c.lamps k).ahi, .int .i64 (lmpAt c.lamps k).dlo, .int .i64 (lmpAt c.lamps k).dhi, .int .i64 (lmpAt c.lamps k).life, .int .i64 (lmpAt c.lamps k).dim, .int .i64 (lmpAt c.lamps k).rest] 82))
        have SL : Hid (w3.heap.size < (w3.alloc (.cells #[.string (lmpAt c.lamps k).name, .int .i64 ((q : Nat) : Int), .int .i64 (lmpAt c.lamps k).kind, .int .i64 (lmpAt c.lamps k).lumens, .int .i64 (lmpAt c.lamps k).power, .int .i64 (lmpAt c.lamps k).standing, .int .i64 (lmpAt c.lamps k).tol, .int .i64 (lmpAt c.lamps k).alo, .int .i64 (lmpAt c.lamps k).ahi, .int .i64 (lmpAt c.lamps k).dlo, .int .i64 (lmpAt c.lamps k).dhi, .int .i64 (lmpAt c.lamps k).life, .int .i64 (lmpAt c.lamps k).dim, .int .i64 (lmpAt c.lamps k).rest] 82)).heap.size) := by show _ < _; simp
        have KT4 := Lib.hid (KT3.out.keep WL.out (by omega))
        have BZ4 := Lib.hid (BZ3.out.keep WL.out lt3)
        have BW4 := Lib.hid (BW3.out.trans (WL.out.mono BW3.out.size))
        generalize w3.alloc (.cells #[.string (lmpAt c.lamps k).name, .int .i64 ((q : Nat) : Int), .int .i64 (lmpAt c.lamps k).kind, .int .i64 (lmpAt c.lamps k).lumens, .int .i64 (lmpAt c.lamps k).power, .int .i64 (lmpAt c.lamps k).standing, .int .i64 (lmpAt c.lamps k).tol, .int .i64 (lmpAt c.lamps k).alo, .int .i64 (lmpAt c.lamps k).ahi, .int .i64 (lmpAt c.lamps k).dlo, .int .i64 (lmpAt c.lamps k).dhi, .int .i64 (lmpAt c.lamps k).life, .int .i64 (lmpAt c.lamps k).dim, .int .i64 (lmpAt c.lamps k).rest] 82) = W4 at *
        generalize w3.heap.size = L at *
        have HCW := Lib.hid (HC.out.keep BW4.out (Nat.le_refl _))
        obtain ⟨tb, tto, ha, hb, ht⟩ := tabAt_cells HCW.out hqm
        have sl := SL.out
        have sw : w.heap.size < W4.heap.size := by omega
        have KF := Lib.hid (show ∀ Wz : World, Below W4.heap.size W4 Wz → (Wz.cell? ⟨w.heap.size, 0, none⟩ = some (.slice (some ⟨tb, tto, none⟩) c.tabs.length c.tc) ∧ Wz.cell? ⟨w.heap.size + 1, 0, none⟩ = some (.int .i64 a) ∧ Wz.cell? ⟨w.heap.size + 1, 1, none⟩ = some (.int .i64 m) ∧ Wz.cell? ⟨w.heap.size + 1, 2, none⟩ = some (.int .i64 v) ∧ Wz.cell? ⟨w.heap.size + 1 + 1, 0, none⟩ = some (.int .i64 x0) ∧ Wz.cell? ⟨w.heap.size + 1 + 1, 1, none⟩ = some (.int .i64 x1) ∧ Wz.cell? ⟨w.heap.size + 1 + 1, 2, none⟩ = some (.int .i64 y0) ∧ Wz.cell? ⟨w.heap.size + 1 + 1, 3, none⟩ = some (.int .i64 y1) ∧ Wz.cell? ⟨tb, tto + q * 6, none⟩ = some (.string (tabAt c.tabs q).name) ∧ Wz.cell? ⟨tb, tto + q * 6 + 1, none⟩ = some (.slice (tabAt c.tabs q).us.a (tabAt c.tabs q).us.xs.length (tabAt c.tabs q).us.c) ∧ Wz.cell? ⟨tb, tto + q * 6 + 2, none⟩ = some (.slice (tabAt c.tabs q).vs.a (tabAt c.tabs q).vs.xs.length (tabAt c.tabs q).vs.c) ∧ Wz.cell? ⟨tb, tto + q * 6 + 3, none⟩ = some (.slice (tabAt c.tabs q).ra (tabAt c.tabs q).rows.length (tabAt c.tabs q).rc) ∧ Wz.cell? ⟨tb, tto + q * 6 + 4, none⟩ = some (.int .i64 (tabAt c.tabs q).side) ∧ Wz.cell? ⟨tb, tto + q * 6 + 5, none⟩ = some (.int .i64 (tabAt c.tabs q).sky) ∧ Wz.cell? ⟨L, 0, none⟩ = some (.string (lmpAt c.lamps k).name) ∧ Wz.cell? ⟨L, 1, none⟩ = some (.int .i64 (q : Nat)) ∧ Wz.cell? ⟨L, 2, none⟩ = some (.int .i64 (lmpAt c.lamps k).kind) ∧ Wz.cell? ⟨L, 3, none⟩ = some (.int .i64 (lmpAt c.lamps k).lumens) ∧ Wz.cell? ⟨L, 4, none⟩ = some (.int .i64 (lmpAt c.lamps k).power) ∧ Wz.cell? ⟨L, 5, none⟩ = some (.int .i64 (lmpAt c.lamps k).standing) ∧ Wz.cell? ⟨L, 6, none⟩ = some (.int .i64 (lmpAt c.lamps k).tol) ∧ Wz.cell? ⟨L, 7, none⟩ = some (.int .i64 (lmpAt c.lamps k).alo) ∧ Wz.cell? ⟨L, 8, none⟩ = some (.int .i64 (lmpAt c.lamps k).ahi) ∧ Wz.cell? ⟨L, 9, none⟩ = some (.int .i64 (lmpAt c.lamps k).dlo) ∧ Wz.cell? ⟨L, 10, none⟩ = some (.int .i64 (lmpAt c.lamps k).dhi) ∧ Wz.cell? ⟨L, 11, none⟩ = some (.int .i64 (lmpAt c.lamps k).life) ∧ Wz.cell? ⟨L, 12, none⟩ = some (.int .i64 (lmpAt c.lamps k).dim) ∧ Wz.cell? ⟨L, 13, none⟩ = some (.int .i64 (lmpAt c.lamps k).rest)) from fun Wz hk => by
          have e : ∀ p : Addr, p.block < W4.heap.size → Wz.cell? p = W4.cell? p := fun p hp => hk.cell hp
          have u0 := KT4.out.t0
          rw [ha] at u0
          have q1 := ht.c1
          have q2 := ht.c2
          unfold Ints.val at q1 q2
          have eL : ∀ i : Nat, Wz.cell? ⟨L, i, none⟩ = W4.cell? ⟨L, i, none⟩ := fun i => hk.cell (p := ⟨L, i, none⟩) sl
          refine ⟨?_, ?_, ?_, ?_, ?_, ?_, ?_, ?_, ?_, ?_, ?_, ?_, ?_, ?_, ?_⟩
          · rw [e _ (by show w.heap.size < _; omega)]; exact u0
          · rw [e _ (by show w.heap.size + 1 < _; omega)]; exact KT4.out.p0
          · rw [e _ (by show w.heap.size + 1 < _; omega)]; exact KT4.out.p1
          · rw [e _ (by show w.heap.size + 1 < _; omega)]; exact KT4.out.p2
          · rw [e _ (by show w.heap.size + 1 + 1 < _; omega)]; exact KT4.out.r0
          · rw [e _ (by show w.heap.size + 1 + 1 < _; omega)]; exact KT4.out.r1
          · rw [e _ (by show w.heap.size + 1 + 1 < _; omega)]; exact KT4.out.r2
          · rw [e _ (by show w.heap.size + 1 + 1 < _; omega)]; exact KT4.out.r3
          · rw [e _ (by show tb < _; omega)]; exact ht.c0
          · rw [e _ (by show tb < _; omega)]; exact q1
          · rw [e _ (by show tb < _; omega)]; exact q2
          · rw [e _ (by show tb < _; omega)]; exact ht.c3
          · rw [e _ (by show tb < _; omega)]; exact ht.c4
          · rw [e _ (by show tb < _; omega)]; exact ht.c5
          · simp only [eL]; exact CL.out)
        have OV2 := Lib.hid (fun (Wz : World) (hk : Below W4.heap.size W4 Wz) => OV.out Wz ((ht.us.keep hk (by omega)).more (by have := hk.size; omega)) ((ht.vs.keep hk (by omega)).more (by have := hk.size; omega)) ((ht.rows.keep hk (by omega)).more (by have := hk.size; omega)))
        rw [hq] at RF
        have n3 : (0 : Int) ≤ (q : Int) := by omega
        have n4 : (q : Int) < (c.tabs.length : Int) := by omega
        clear ht ha hq hq0 hq1 okt okl ok
        go_upto_region 9 with fail
        go_cut [14, 15] (fun s14 s15 wx => ∃ g1' g2' : Nat, s14 = .pointer (some ⟨g1', 0, none⟩) ∧ s15 = .pointer (some ⟨g2', 0, none⟩) ∧ Bq g1' f0 f1 wx ∧ Bq g2' g0 g1 wx ∧ Below W4.heap.size W4 wx)
        case first =>
          go_region_held3 (fun w' => w'.cell? ⟨w.heap.size, 0, none⟩ = some (.slice (some ⟨tb, tto, none⟩) c.tabs.length c.tc) ∧ w'.cell? ⟨w.heap.size + 1, 0, none⟩ = some (.int .i64 a) ∧ w'.cell? ⟨w.heap.size + 1, 1, none⟩ = some (.int .i64 m) ∧ w'.cell? ⟨w.heap.size + 1, 2, none⟩ = some (.int .i64 v) ∧ w'.cell? ⟨w.heap.size + 1 + 1, 0, none⟩ = some (.int .i64 x0) ∧ w'.cell? ⟨w.heap.size + 1 + 1, 1, none⟩ = some (.int .i64 x1) ∧ w'.cell? ⟨w.heap.size + 1 + 1, 2, none⟩ = some (.int .i64 y0) ∧ w'.cell? ⟨w.heap.size + 1 + 1, 3, none⟩ = some (.int .i64 y1) ∧ w'.cell? ⟨tb, tto + q * 6, none⟩ = some (.string (tabAt c.tabs q).name) ∧ w'.cell? ⟨tb, tto + q * 6 + 1, none⟩ = some (.slice (tabAt c.tabs q).us.a (tabAt c.tabs q).us.xs.length (tabAt c.tabs q).us.c) ∧ w'.cell? ⟨tb, tto + q * 6 + 2, none⟩ = some (.slice (tabAt c.tabs q).vs.a (tabAt c.tabs q).vs.xs.length (tabAt c.tabs q).vs.c) ∧ w'.cell? ⟨tb, tto + q * 6 + 3, none⟩ = some (.slice (tabAt c.tabs q).ra (tabAt c.tabs q).rows.length (tabAt c.tabs q).rc) ∧ w'.cell? ⟨tb, tto + q * 6 + 4, none⟩ = some (.int .i64 (tabAt c.tabs q).side) ∧ w'.cell? ⟨tb, tto + q * 6 + 5, none⟩ = some (.int .i64 (tabAt c.tabs q).sky) ∧ w'.cell? ⟨L, 0, none⟩ = some (.string (lmpAt c.lamps k).name) ∧ w'.cell? ⟨L, 1, none⟩ = some (.int .i64 (q : Nat)) ∧ w'.cell? ⟨L, 2, none⟩ = some (.int .i64 (lmpAt c.lamps k).kind) ∧ w'.cell? ⟨L, 3, none⟩ = some (.int .i64 (lmpAt c.lamps k).lumens) ∧ w'.cell? ⟨L, 4, none⟩ = some (.int .i64 (lmpAt c.lamps k).power) ∧ w'.cell? ⟨L, 5, none⟩ = some (.int .i64 (lmpAt c.lamps k).standing) ∧ w'.cell? ⟨L, 6, none⟩ = some (.int .i64 (lmpAt c.lamps k).tol) ∧ w'.cell? ⟨L, 7, none⟩ = some (.int .i64 (lmpAt c.lamps k).alo) ∧ w'.cell? ⟨L, 8, none⟩ = some (.int .i64 (lmpAt c.lamps k).ahi) ∧ w'.cell? ⟨L, 9, none⟩ = some (.int .i64 (lmpAt c.lamps k).dlo) ∧ w'.cell? ⟨L, 10, none⟩ = some (.int .i64 (lmpAt c.lamps k).dhi) ∧ w'.cell? ⟨L, 11, none⟩ = some (.int .i64 (lmpAt c.lamps k).life) ∧ w'.cell? ⟨L, 12, none⟩ = some (.int .i64 (lmpAt c.lamps k).dim) ∧ w'.cell? ⟨L, 13, none⟩ = some (.int .i64 (lmpAt c.lamps k).rest))
            ((refine KF.out _ ?_; (repeat' (first | (with_reducible exact Below.refl _ _) | (with_reducible refine Below.drew ?_) | (with_reducible refine Below.alloc ?_ ?_ _) | (with_reducible refine Below.setCell ?_ ?_ _) | (with_reducible refine Below.trans ?_ (hbF.mono ?_)) | (with_reducible refine Below.trans ?_ (hbO.mono ?_)))); all_goals (first | (simp; done) | (simp; omega) | omega)))
            (first | (go_at_call 65; (with_reducible refine Calls.mono (RF.out _) ?_); (rintro e wF ⟨rfl, hoF⟩; have hbF := hoF.below; clear hoF; have hcF := (bcb hbF).1; have hfF := (bcb hbF).2; have hzF := hbF.size; (try simp at hzF); (try have ga1 : W4.heap.size < wF.heap.size := by omega); (try have ga2 : W4.heap.size ≠ wF.heap.size := by omega); (try have gb1 : W4.heap.size + 1 < wF.heap.size := by omega); (try have gb2 : W4.heap.size + 1 ≠ wF.heap.size := by omega))) | (go_at_call 53; (with_reducible refine Calls.mono (OV2.out _ ?_) ?_); (focus ((repeat' (first | (with_reducible exact Below.refl _ _) | (with_reducible refine Below.drew ?_) | (with_reducible refine Below.alloc ?_ ?_ _) | (with_reducible refine Below.setCell ?_ ?_ _) | (with_reducible refine Below.trans ?_ (hbF.mono ?_)) | (with_reducible refine Below.trans ?_ (hbO.mono ?_)))); all_goals (first | (simp; done) | (simp; omega) | omega))); (rintro e wO ⟨rfl, hbO⟩; have hcO := (bcb hbO).1; have hfO := (bcb hbO).2; have hzO := hbO.size; (try simp at hzO); (try have gc1 : W4.heap.size < wO.heap.size := by omega); (try have gc2 : W4.heap.size ≠ wO.heap.size := by omega); (try have gd1 : W4.heap.size + 1 < wO.heap.size := by omega); (try have gd2 : W4.heap.size + 1 ≠ wO.heap.size := by omega); (try have ge1 : wF.heap.size < wO.heap.size := by omega); (try have ge2 : wF.heap.size ≠ wO.heap.size := by omega); (try have gf1 : wF.heap.size + 1 < wO.heap.size := by omega); (try have gf2 : wF.heap.size + 1 ≠ wO.heap.size := by omega))))
          all_goals go_wp2_with fail
          all_goals go_meet
          all_goals
            case rel =>
              refine ⟨_, _, rfl, rfl, ?_, ?_, ?_⟩
              · (repeat' (first | ((with_reducible refine Bq.freshAt ?_ _ _ _); focus (simp; done)) | (with_reducible refine Bq.alloc' ?_ _) | (with_reducible refine Bq.drew ?_) | (with_reducible refine Bq.below ?_ hbF) | (with_reducible refine Bq.below ?_ hbO) | (with_reducible refine Bq.set (x := 0) (y := 0) ?_ _ _) | ((with_reducible refine Bq.other ?_ ?_ _ _); rotate_left; focus (first | omega | (simp; omega)))))
              · (repeat' (first | ((with_reducible refine Bq.freshAt ?_ _ _ _); focus (simp; done)) | (with_reducible refine Bq.alloc' ?_ _) | (with_reducible refine Bq.drew ?_) | (with_reducible refine Bq.below ?_ hbF) | (with_reducible refine Bq.below ?_ hbO) | (with_reducible refine Bq.set (x := 0) (y := 0) ?_ _ _) | ((with_reducible refine Bq.other ?_ ?_ _ _); rotate_left; focus (first | omega | (simp; omega)))))
              · (repeat' (first | (with_reducible exact Below.refl _ _) | (with_reducible refine Below.drew ?_) | (with_reducible refine Below.alloc ?_ ?_ _) | (with_reducible refine Below.setCell ?_ ?_ _) | (with_reducible refine Below.trans ?_ (hbF.mono ?_)) | (with_reducible refine Below.trans ?_ (hbO.mono ?_)))); all_goals (first | (simp; done) | (simp; omega) | omega)
        case rest =>
          obtain ⟨j1, j2, rfl, rfl, bg1, bg2, bw⟩ := hcut
          obtain ⟨d0, d1, _, _, _⟩ := bg1
          obtain ⟨x0', x1', _, _, _⟩ := bg2
          have BZ5 := Lib.hid (BZ4.out.keep bw BZ4.out.lt)
          have BW5 := Lib.hid (BW4.out.trans (bw.mono BW4.out.size))
          go_upto_region 10 with fail
          go_still_tail 13, (by kernel_rfl)
          still_call ((DN.out _).mono fun _ _ hh => ⟨hh.1, hh.2.symm⟩)
          repeat still_step
          still_call ((UP.out _).mono fun _ _ hh => ⟨hh.1, hh.2.symm⟩)
          repeat still_step
          refine wpStill_nil ?_
          have k9 := BW5.out.drew
          obtain ⟨z0, z1, z2, z3, _⟩ := BZ5.out.drew
          change wpList _ _ _ _ _ wc.drew
          generalize wc.drew = W6 at *
          clear d0 d1 x0' x1'
          go_wp2_with fail
          refine bodyPost_ret (v := enclE ((g0 * f0) / 1000) (upD (g1 * f1) 1000) 0) (by simp [results, Try.results34, go_sem, z0, z1]) rfl ⟨by rw [HE2.out, HF1.out, HF2.out, HR.out], ?_⟩
          exact (k9.setCell (p := ⟨w.heap.size + 1 + 1 + 1, 0, none⟩) (by show w.heap.size ≤ w.heap.size + 1 + 1 + 1; omega) _).setCell (p := ⟨w.heap.size + 1 + 1 + 1, 1, none⟩) (by show w.heap.size ≤ w.heap.size + 1 + 1 + 1; omega) _
end Go.Proofs.Ythmelkakgbchbaa
