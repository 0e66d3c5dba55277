/- Towards of the code. -/
import Derived.Test.YthmelkakgbchbaaBxs
import Derived.Test.YthmelkakgbchbaaOve
import Derived.Test.YthmelkakgbchbaaFlx
import Derived.Deep.DeepCutAuto
import Derived.Deep.DrawnRows
import Derived.Deep.RegionHeld3
import Derived.StillTailTactics
namespace Go.Proofs.Ythmelkakgbchbaa
set_option linter.unusedSimpArgs false
set_option linter.unusedVariables false
open Go.RowKit
attribute [local go_sem ↓] Go.wp_at_zero Go.wp_at_succ

/-- the table of a lamp -/
def lamT (c : Cat) (n : Int) : Tab := tabAt c.tabs (lmpAt c.lamps n.toNat).table.toNat
def twE (c : Cat) (n a m v x0 x1 y0 y1 h : Int) : Int := if fxE c n a m v ≠ 0 then fxE c n a m v else rectE x0 x1 y0 y1 h
def twLo (c : Cat) (n a m v x0 x1 y0 y1 h : Int) : Int := if twE c n a m v x0 x1 y0 y1 h ≠ 0 then 0 else (hullLo (fnd (lamT c n) x0 x1 y0 y1 h) * flxLo (lmpAt c.lamps n.toNat) a m v) / 1000
def twHi (c : Cat) (n a m v x0 x1 y0 y1 h : Int) : Int := if twE c n a m v x0 x1 y0 y1 h ≠ 0 then 0 else upD (hullHi (fnd (lamT c n) x0 x1 y0 y1 h) * flxHi (lmpAt c.lamps n.toNat) a m v) 1000

theorem fxE_ok {c : Cat} {n a m v : Int} (h : fxE c n a m v = 0) : errOf c n c.lamps.length = 0 ∧ useB a m v = true := by
  unfold fxE at h
  split at h
  · rename_i h1; exact absurd h h1
  · rename_i h1
    split at h
    · rename_i h2; exact ⟨by omega, h2⟩
    · omega

/-- the flux is from 0 to a million lumens -/
theorem flx_bd {nt : Nat} {l : Lmp} (ok : LmpOk nt l) {a m v : Int} (hu : useB a m v = true) : 0 ≤ flxLo l a m v ∧ flxLo l a m v ≤ 1000000 ∧ 0 ≤ flxHi l a m v ∧ flxHi l a m v ≤ 1000000 := by
  obtain ⟨u0, u1, u2, u3, u4, u5⟩ := useB_ok hu
  have k0 := ok.l0
  have k1 := ok.l1
  have k2 := ok.a0
  have k3 := ok.a1
  have k5 := ok.d0
  have k6 := ok.d1
  have A1 := Int.mul_nonneg (show 0 ≤ l.ahi by omega) u0
  have A2 := Int.mul_nonneg k2 u0
  have A3 := Int.mul_nonneg (show 0 ≤ l.dhi by omega) u2
  have A4 := Int.mul_nonneg k5 u2
  unfold flxLo flxHi rem
  dsimp only
  have d1 := down_share l.lumens (max 0 (1000000 - l.ahi * a)) 1000000 (by omega) (by omega) (by omega) (by omega)
  have d2 := down_share _ (max 0 (1000 - l.dhi * m)) 1000 d1.1 (by omega) (by omega) (by omega)
  have d3 := down_share _ v 1000 d2.1 u4 u5 (by omega)
  have e1 := up_share l.lumens (max 0 (1000000 - l.alo * a)) 1000000 (by omega) (by omega) (by omega) (by omega)
  have e2 := up_share _ (max 0 (1000 - l.dlo * m)) 1000 e1.1 (by omega) (by omega) (by omega)
  have e3 := up_share _ v 1000 e2.1 u4 u5 (by omega)
  exact ⟨d3.1, by have := d3.2; have := d2.2; have := d1.2; omega, e3.1, by have := e3.2; have := e2.2; have := e1.2; omega⟩

structure Kt4 (c : Cat) (a m v x0 x1 y0 y1 : Int) (s : Nat) (W : World) : Prop where
  t0 : W.cell? ⟨s, 0, none⟩ = some (.slice c.ta c.tabs.length c.tc)
  t1 : W.cell? ⟨s, 1, none⟩ = some (.slice c.la c.lamps.length c.lc)
  p0 : W.cell? ⟨s + 1, 0, none⟩ = some (.int .i64 a)
  p1 : W.cell? ⟨s + 1, 1, none⟩ = some (.int .i64 m)
  p2 : W.cell? ⟨s + 1, 2, none⟩ = some (.int .i64 v)
  r0 : W.cell? ⟨s + 1 + 1, 0, none⟩ = some (.int .i64 x0)
  r1 : W.cell? ⟨s + 1 + 1, 1, none⟩ = some (.int .i64 x1)
  r2 : W.cell? ⟨s + 1 + 1, 2, none⟩ = some (.int .i64 y0)
  r3 : W.cell? ⟨s + 1 + 1, 3, none⟩ = some (.int .i64 y1)
theorem Kt4.keep {c : Cat} {a m v x0 x1 y0 y1 : Int} {s B : Nat} {W W1 : World} (h : Kt4 c a m v x0 x1 y0 y1 s W) (k : Below B W W1) (hs : s + 1 + 1 < B) : Kt4 c a m v x0 x1 y0 y1 s W1 := by
  refine ⟨?_, ?_, ?_, ?_, ?_, ?_, ?_, ?_, ?_⟩
  · rw [k.cell (p := ⟨s, 0, none⟩) (by show s < B; omega)]; exact h.t0
  · rw [k.cell (p := ⟨s, 1, none⟩) (by show s < B; omega)]; exact h.t1
  · rw [k.cell (p := ⟨s + 1, 0, none⟩) (by show s + 1 < B; omega)]; exact h.p0
  · rw [k.cell (p := ⟨s + 1, 1, none⟩) (by show s + 1 < B; omega)]; exact h.p1
  · rw [k.cell (p := ⟨s + 1, 2, none⟩) (by show s + 1 < B; omega)]; exact h.p2
  · rw [k.cell (p := ⟨s + 1 + 1, 0, none⟩) hs]; exact h.r0
  · rw [k.cell (p := ⟨s + 1 + 1, 1, none⟩) hs]; exact h.r1
  · rw [k.cell (p := ⟨s + 1 + 1, 2, none⟩) hs]; exact h.r2
  · rw [k.cell (p := ⟨s + 1 + 1, 3, none⟩) hs]; exact h.r3

set_option maxRecDepth 100000 in
set_option maxHeartbeats 8000000 in
theorem Towards_any (c : Cat) (n a m v x0 x1 y0 y1 h : Int) (w : World) (hc : CatIn w.heap.size c w) :
    Calls Try.prog 33 #[.agg #[c.tv, c.lv], .int .i64 n, .agg #[.int .i64 a, .int .i64 m, .int .i64 v], .agg #[.int .i64 x0, .int .i64 x1, .int .i64 y0, .int .i64 y1], .int .i64 h] w fun e w' => e = .returned (enclE (twLo c n a m v x0 x1 y0 y1 h) (twHi c n a m v x0 x1 y0 y1 h) (twE c n a m v x0 x1 y0 y1 h)) ∧ Below w.heap.size w w' := by
  have HC := Lib.hid hc
  clear hc
  have FL := Lib.hid (fun W (hh : CatIn W.heap.size c W) => Flux_any c n a m v W hh)
  unfold Cat.tv Cat.lv at *
  have bw0 : Below w.heap.size w ((((w.alloc (.cells #[.slice c.ta c.tabs.length c.tc, .slice c.la c.lamps.length c.lc] 25)).alloc (.cells #[.int .i64 a, .int .i64 m, .int .i64 v] 48)).alloc (.cells #[.int .i64 x0, .int .i64 x1, .int .i64 y0, .int .i64 y1] 40)).alloc (.cells #[.int .i64 0, .int .i64 0] 35)) := ((((Below.refl _ _).alloc (Nat.le_refl _) _).alloc (by simp) _).alloc (by simp; omega) _).alloc (by simp; omega) _
  have kt0 : Kt4 c a m v x0 x1 y0 y1 w.heap.size ((((w.alloc (.cells #[.slice c.ta c.tabs.length c.tc, .slice c.la c.lamps.length c.lc] 25)).alloc (.cells #[.int .i64 a, .int .i64 m, .int .i64 v] 48)).alloc (.cells #[.int .i64 x0, .int .i64 x1, .int .i64 y0, .int .i64 y1] 40)).alloc (.cells #[.int .i64 0, .int .i64 0] 35)) := by constructor <;> simp [go_sem]
  have bz0 : Bq (w.heap.size + 1 + 1 + 1) 0 0 ((((w.alloc (.cells #[.slice c.ta c.tabs.length c.tc, .slice c.la c.lamps.length c.lc] 25)).alloc (.cells #[.int .i64 a, .int .i64 m, .int .i64 v] 48)).alloc (.cells #[.int .i64 x0, .int .i64 x1, .int .i64 y0, .int .i64 y1] 40)).alloc (.cells #[.int .i64 0, .int .i64 0] 35)) := by constructor <;> simp [go_sem]
  have BW0 := Lib.hid bw0
  have KT0 := Lib.hid kt0
  have BZ0 := Lib.hid bz0
  clear bw0 kt0 bz0
  have CI := Lib.hid (fun (W : World) (hh : Below w.heap.size w W) => (HC.out.keep hh (Nat.le_refl _)).more hh.size)
  have HE : Hid (twE c n a m v x0 x1 y0 y1 h = if fxE c n a m v ≠ 0 then fxE c n a m v else rectE x0 x1 y0 y1 h) := rfl
  have HL : Hid (twLo c n a m v x0 x1 y0 y1 h = if twE c n a m v x0 x1 y0 y1 h ≠ 0 then 0 else (hullLo (fnd (lamT c n) x0 x1 y0 y1 h) * flxLo (lmpAt c.lamps n.toNat) a m v) / 1000) := rfl
  have HH : Hid (twHi c n a m v x0 x1 y0 y1 h = if twE c n a m v x0 x1 y0 y1 h ≠ 0 then 0 else upD (hullHi (fnd (lamT c n) x0 x1 y0 y1 h) * flxHi (lmpAt c.lamps n.toNat) a m v) 1000) := rfl
  by_cases hz : fxE c n a m v = 0
  case neg =>
    have HF : Hid (twE c n a m v x0 x1 y0 y1 h = fxE c n a m v) := HE.out.trans (if_pos hz)
    have HF1 : Hid (twLo c n a m v x0 x1 y0 y1 h = 0) := HL.out.trans (if_pos (by rw [HF.out]; exact hz))
    have HF2 : Hid (twHi c n a m v x0 x1 y0 y1 h = 0) := HH.out.trans (if_pos (by rw [HF.out]; exact hz))
    have b2 : (fxE c n a m v != 0) = true := by simpa using hz
    clear hz
    generalize fxE c n a m v = e0 at *
    generalize fxLo c n a m v = f0 at *
    generalize fxHi c n a m v = f1 at *
    go_enter Try.func33, Try.ntmps33
    go_wp2_with fail
    generalize ((((w.alloc (.cells #[.slice c.ta c.tabs.length c.tc, .slice c.la c.lamps.length c.lc] 25)).alloc (.cells #[.int .i64 a, .int .i64 m, .int .i64 v] 48)).alloc (.cells #[.int .i64 x0, .int .i64 x1, .int .i64 y0, .int .i64 y1] 40)).alloc (.cells #[.int .i64 0, .int .i64 0] 35)) = W0 at *
    refine (FL.out _ (CI.out _ BW0.out)).mono ?_
    rintro e w1 ⟨rfl, o1⟩
    have s0 := BZ0.out.lt
    have s1 := o1.size
    obtain ⟨z0, z1, z2, z3, _⟩ := BZ0.out.keep o1.below s0
    have lt1 : w.heap.size + 1 + 1 + 1 < w1.heap.size := by omega
    have ne1 : w.heap.size + 1 + 1 + 1 ≠ w1.heap.size := by omega
    go_wp2_with fail
    refine bodyPost_ret (v := enclE 0 0 e0) (by simp [results, Try.results33, go_sem, z0, z1, lt1, ne1]) rfl ⟨by rw [HF.out, HF1.out, HF2.out], ?_⟩
    have k1 := BW0.out.trans (o1.below.mono BW0.out.size)
    have k2 := (k1.setCell (p := ⟨w.heap.size + 1 + 1 + 1, 0, none⟩) (by show w.heap.size ≤ w.heap.size + 1 + 1 + 1; omega) (.int .i64 0)).setCell (p := ⟨w.heap.size + 1 + 1 + 1, 1, none⟩) (by show w.heap.size ≤ w.heap.size + 1 + 1 + 1; omega) (.int .i64 0)
    exact k2.alloc k2.size _
  case pos =>
    obtain ⟨hz2, hu⟩ := fxE_ok hz
    obtain ⟨ok, hn0, hn1⟩ := errOf_ok hz2
    have HZ := Lib.hid hz
    have HE2 : Hid (twE c n a m v x0 x1 y0 y1 h = rectE x0 x1 y0 y1 h) := HE.out.trans (if_neg (fun hh => hh hz))
    have HX1 : Hid (fxLo c n a m v = flxLo (lmpAt c.lamps n.toNat) a m v) := if_neg (fun hh => hh hz)
    have HX2 : Hid (fxHi c n a m v = flxHi (lmpAt c.lamps n.toNat) a m v) := if_neg (fun hh => hh hz)
    clear hz HE hz2
    rw [HX1.out, HX2.out, HZ.out] at FL
    obtain ⟨k, rfl⟩ := Int.eq_ofNat_of_zero_le hn0
    have hm : k < c.lamps.length := by omega
    have okl := ok.lmp k hm
    have FB := flx_bd okl hu
    have e1 : (k : Int).toNat = k := rfl
    rw [e1] at FL HL HH
    clear HX1 HX2 e1
    have HFL : Hid (flxLo (lmpAt c.lamps k) a m v = flxLo (lmpAt c.lamps k) a m v) := rfl
    generalize hf0 : flxLo (lmpAt c.lamps k) a m v = f0 at *
    generalize hf1 : flxHi (lmpAt c.lamps k) a m v = f1 at *
    clear hf0 hf1 HFL
    by_cases hr : rectE x0 x1 y0 y1 h = 0
    case neg =>
      have HF1 : Hid (twLo c k a m v x0 x1 y0 y1 h = 0) := HL.out.trans (if_pos (by rw [HE2.out]; exact hr))
      have HF2 : Hid (twHi c k a m v x0 x1 y0 y1 h = 0) := HH.out.trans (if_pos (by rw [HE2.out]; exact hr))
      have b2 : (rectE x0 x1 y0 y1 h != 0) = true := by simpa using hr
      have RE := Lib.hid (fun W => rectError_any x0 x1 y0 y1 h W)
      clear hr FB
      generalize rectE x0 x1 y0 y1 h = e0 at *
      go_enter Try.func33, Try.ntmps33
      go_wp2_with fail
      generalize ((((w.alloc (.cells #[.slice c.ta c.tabs.length c.tc, .slice c.la c.lamps.length c.lc] 25)).alloc (.cells #[.int .i64 a, .int .i64 m, .int .i64 v] 48)).alloc (.cells #[.int .i64 x0, .int .i64 x1, .int .i64 y0, .int .i64 y1] 40)).alloc (.cells #[.int .i64 0, .int .i64 0] 35)) = W0 at *
      refine (FL.out _ (CI.out _ BW0.out)).mono ?_
      rintro e w1 ⟨rfl, o1⟩
      have s0 := BZ0.out.lt
      have s1 := o1.size
      obtain ⟨t0, t1, p0, p1, p2, r0, r1, r2, r3⟩ := KT0.out.keep o1.below (by omega)
      have BW1 := Lib.hid ((BW0.out.trans (o1.below.mono BW0.out.size)).alloc (Nat.le_trans BW0.out.size o1.below.size) (.cells #[.int .i64 f0, .int .i64 f1] 35))
      have BZ1 := Lib.hid ((BZ0.out.keep o1.below s0).keep (below_new w1 (.cells #[.int .i64 f0, .int .i64 f1] 35)) (by omega))
      have lt1 : w.heap.size + 1 + 1 < w1.heap.size := by omega
      have ne1 : w.heap.size + 1 + 1 ≠ w1.heap.size := by omega
      clear t0 t1 p0 p1 p2
      go_wp2_with fail
      generalize w1.alloc (.cells #[.int .i64 f0, .int .i64 f1] 35) = W1 at *
      refine (RE.out _).mono ?_
      rintro e w2 ⟨rfl, o2⟩
      clear r0 r1 r2 r3
      obtain ⟨z0, z1, z2, z3, _⟩ := BZ1.out.keep o2.below BZ1.out.lt
      have lt2 : w.heap.size + 1 + 1 + 1 < w2.heap.size := Nat.lt_of_lt_of_le BZ1.out.lt o2.size
      go_wp2_with fail
      refine bodyPost_ret (v := enclE 0 0 e0) (by simp [results, Try.results33, go_sem, z0, z1]) rfl ⟨by rw [HE2.out, HF1.out, HF2.out], ?_⟩
      have k1 := BW1.out.trans (o2.below.mono BW1.out.size)
      exact (k1.setCell (p := ⟨w.heap.size + 1 + 1 + 1, 0, none⟩) (by show w.heap.size ≤ w.heap.size + 1 + 1 + 1; omega) _).setCell (p := ⟨w.heap.size + 1 + 1 + 1, 1, none⟩) (by show w.heap.size ≤ w.heap.size + 1 + 1 + 1; omega) _
    case pos =>
      obtain ⟨b0, b1, b2, b3, b4, b5, b6, b7⟩ := rectE_ok hr
      have HR := Lib.hid hr
      have RE := Lib.hid (fun W => rectError_any x0 x1 y0 y1 h W)
      rw [hr] at RE
      have hq0 := okl.t0
      have hq1 := okl.t1
      obtain ⟨q, hq⟩ := Int.eq_ofNat_of_zero_le hq0
      have hqm : q < c.tabs.length := by omega
      have okt := ok.tab q hqm
      have HT : Hid (lamT c k = tabAt c.tabs q) := by show tabAt c.tabs (lmpAt c.lamps k).table.toNat = _; rw [hq]; rfl
      have HF1 : Hid (twLo c k a m v x0 x1 y0 y1 h = (hullLo (fnd (tabAt c.tabs q) x0 x1 y0 y1 h) * f0) / 1000) := by have := HL.out.trans (if_neg (by rw [HE2.out]; exact fun hh => hh hr)); rw [HT.out] at this; exact this
      have HF2 : Hid (twHi c k a m v x0 x1 y0 y1 h = upD (hullHi (fnd (tabAt c.tabs q) x0 x1 y0 y1 h) * f1) 1000) := by have := HH.out.trans (if_neg (by rw [HE2.out]; exact fun hh => hh hr)); rw [HT.out] at this; exact this
      have HB := hull_bd okt b0 b1 b2 b3 b4 b5 b6 b7
      have OV := Lib.hid (fun (W : World) (hu : IntsIn W.heap.size (tabAt c.tabs q).us.a (tabAt c.tabs q).us.xs W) (hv : IntsIn W.heap.size (tabAt c.tabs q).vs.a (tabAt c.tabs q).vs.xs W) (hrr : RowsIn W.heap.size (tabAt c.tabs q).ra (tabAt c.tabs q).rows W) => over_any (tabAt c.tabs q) x0 x1 y0 y1 h W okt hu hv hrr b0 b1 b2 b3 b4 b5 b6 b7)
      clear HL HH hr
      generalize hullLo (fnd (tabAt c.tabs q) x0 x1 y0 y1 h) = g0 at *
      generalize hullHi (fnd (tabAt c.tabs q) x0 x1 y0 y1 h) = g1 at *
      have M1 := mul_bd (x := g0) (X := 10000000) (y := f0) (Y := 1000000) HB.1 (by omega) FB.1 FB.2.1
      have M2 := mul_bd (x := g1) (X := 10000000) (y := f1) (Y := 1000000) (by omega) (by omega) FB.2.2.1 FB.2.2.2
      have e5 : IntKind.i64.wrap (g0 * f0) = g0 * f0 := IntWalk.i64_in _ (by omega)
      have e6 : IntKind.i64.wrap (g1 * f1) = g1 * f1 := IntWalk.i64_in _ (by omega)
      have DN := Lib.hid (fun W => down_any (g0 * f0) 1000 W (by omega) (by omega) (by omega) (by omega))
      have UP := Lib.hid (fun W => up_any (g1 * f1) 1000 W (by omega) (by omega) (by omega) (by omega))
      clear M1 M2 FB HB b0 b1 b2 b3 b4 b5 b6 b7
      go_enter Try.func33, Try.ntmps33
      go_wp2_with fail
      generalize ((((w.alloc (.cells #[.slice c.ta c.tabs.length c.tc, .slice c.la c.lamps.length c.lc] 25)).alloc (.cells #[.int .i64 a, .int .i64 m, .int .i64 v] 48)).alloc (.cells #[.int .i64 x0, .int .i64 x1, .int .i64 y0, .int .i64 y1] 40)).alloc (.cells #[.int .i64 0, .int .i64 0] 35)) = W0 at *
      refine (FL.out _ (CI.out _ BW0.out)).mono ?_
      rintro e w1 ⟨rfl, o1⟩
      have s0 := BZ0.out.lt
      have s1 := o1.size
      obtain ⟨t0, t1, p0, p1, p2, r0, r1, r2, r3⟩ := KT0.out.keep o1.below (by omega)
      have BW1 := Lib.hid ((BW0.out.trans (o1.below.mono BW0.out.size)).alloc (Nat.le_trans BW0.out.size o1.below.size) (.cells #[.int .i64 f0, .int .i64 f1] 35))
      have BZ1 := Lib.hid ((BZ0.out.keep o1.below s0).keep (below_new w1 (.cells #[.int .i64 f0, .int .i64 f1] 35)) (by omega))
      have KT1 := Lib.hid ((KT0.out.keep o1.below (by omega)).keep (below_new w1 (.cells #[.int .i64 f0, .int .i64 f1] 35)) (by omega))
      have BA1 := Lib.hid (Bq.fresh w1 f0 f1 35)
      have lt1 : w.heap.size + 1 + 1 < w1.heap.size := by omega
      have ne1 : w.heap.size + 1 + 1 ≠ w1.heap.size := by omega
      have lt1' : w.heap.size + 1 + 1 + 1 < w1.heap.size := by omega
      clear t0 t1 p0 p1 p2
      go_wp2_with fail
      generalize w1.alloc (.cells #[.int .i64 f0, .int .i64 f1] 35) = W1 at *
      clear ne1 s1 o1
      generalize w1.heap.size = A at *
      refine (RE.out _).mono ?_
      rintro e w2 ⟨rfl, o2⟩
      clear r0 r1 r2 r3
      have BA2 := Lib.hid (BA1.out.keep o2.below BA1.out.lt)
      have BZ2 := Lib.hid (BZ1.out.keep o2.below BZ1.out.lt)
      have KT2 := Lib.hid (KT1.out.keep o2.below (by have := BZ1.out.lt; omega))
      have BW2 := Lib.hid (BW1.out.trans (o2.below.mono BW1.out.size))
      have sA := BA2.out.lt
      have sw : w.heap.size < w2.heap.size := by omega
      have HCW := Lib.hid (HC.out.keep BW2.out (Nat.le_refl _))
      obtain ⟨tb, tto, ha, hb, ht⟩ := tabAt_cells HCW.out hqm
      obtain ⟨lb, lo, ha2, hb2, hl⟩ := lmpAt_cells HCW.out hm
      have cl1 := hl.c1
      rw [hq] at cl1
      have KF := Lib.hid (show ∀ Wz : World, Below w2.heap.size w2 Wz → (Wz.cell? ⟨w.heap.size, 0, none⟩ = some (.slice (some ⟨tb, tto, none⟩) c.tabs.length c.tc) ∧ Wz.cell? ⟨w.heap.size, 1, none⟩ = some (.slice (some ⟨lb, lo, none⟩) c.lamps.length c.lc) ∧ Wz.cell? ⟨lb, lo + k * 14 + 1, none⟩ = some (.int .i64 (q : Nat)) ∧ Wz.cell? ⟨tb, tto + q * 6, none⟩ = some (.string (tabAt c.tabs q).name) ∧ Wz.cell? ⟨tb, tto + q * 6 + 1, none⟩ = some (.slice (tabAt c.tabs q).us.a (tabAt c.tabs q).us.xs.length (tabAt c.tabs q).us.c) ∧ Wz.cell? ⟨tb, tto + q * 6 + 2, none⟩ = some (.slice (tabAt c.tabs q).vs.a (tabAt c.tabs q).vs.xs.length (tabAt c.tabs q).vs.c) ∧ Wz.cell? ⟨tb, tto + q * 6 + 3, none⟩ = some (.slice (tabAt c.tabs q).ra (tabAt c.tabs q).rows.length (tabAt c.tabs q).rc) ∧ Wz.cell? ⟨tb, tto + q * 6 + 4, none⟩ = some (.int .i64 (tabAt c.tabs q).side) ∧ Wz.cell? ⟨tb, tto + q * 6 + 5, none⟩ = some (.int .i64 (tabAt c.tabs q).sky) ∧ Wz.cell? ⟨w.heap.size + 1 + 1, 0, none⟩ = some (.int .i64 x0) ∧ Wz.cell? ⟨w.heap.size + 1 + 1, 1, none⟩ = some (.int .i64 x1) ∧ Wz.cell? ⟨w.heap.size + 1 + 1, 2, none⟩ = some (.int .i64 y0) ∧ Wz.cell? ⟨w.heap.size + 1 + 1, 3, none⟩ = some (.int .i64 y1)) from fun Wz hk => by
        have e : ∀ p : Addr, p.block < w2.heap.size → Wz.cell? p = w2.cell? p := fun p hp => hk.cell hp
        have u0 := KT2.out.t0
        have u1 := KT2.out.t1
        rw [ha] at u0
        rw [ha2] at u1
        have q1 := ht.c1
        have q2 := ht.c2
        unfold Ints.val at q1 q2
        refine ⟨?_, ?_, ?_, ?_, ?_, ?_, ?_, ?_, ?_, ?_, ?_, ?_, ?_⟩
        · rw [e _ (by show w.heap.size < _; omega)]; exact u0
        · rw [e _ (by show w.heap.size < _; omega)]; exact u1
        · rw [e _ (by show lb < _; omega)]; exact cl1
        · rw [e _ (by show tb < _; omega)]; exact ht.c0
        · rw [e _ (by show tb < _; omega)]; exact q1
        · rw [e _ (by show tb < _; omega)]; exact q2
        · rw [e _ (by show tb < _; omega)]; exact ht.c3
        · rw [e _ (by show tb < _; omega)]; exact ht.c4
        · rw [e _ (by show tb < _; omega)]; exact ht.c5
        · rw [e _ (by show w.heap.size + 1 + 1 < _; omega)]; exact KT2.out.r0
        · rw [e _ (by show w.heap.size + 1 + 1 < _; omega)]; exact KT2.out.r1
        · rw [e _ (by show w.heap.size + 1 + 1 < _; omega)]; exact KT2.out.r2
        · rw [e _ (by show w.heap.size + 1 + 1 < _; omega)]; exact KT2.out.r3)
      have OV2 := Lib.hid (fun (Wz : World) (hk : Below w2.heap.size w2 Wz) => OV.out Wz ((ht.us.keep hk (by omega)).more (by have := hk.size; omega)) ((ht.vs.keep hk (by omega)).more (by have := hk.size; omega)) ((ht.rows.keep hk (by omega)).more (by have := hk.size; omega)))
      have n1 : (0 : Int) ≤ (k : Int) := by omega
      have n2 : (k : Int) < (c.lamps.length : Int) := by omega
      have n3 : (0 : Int) ≤ (q : Int) := by omega
      have n4 : (q : Int) < (c.tabs.length : Int) := by omega
      clear ht hl cl1 ha ha2 hq hq0 hq1 okt okl ok o2
      go_upto_region 7 with fail
      go_cut [15] (fun s15 wx => ∃ g : Nat, s15 = .pointer (some ⟨g, 0, none⟩) ∧ Bq g g0 g1 wx ∧ Below w2.heap.size w2 wx ∧ w2.heap.size ≤ g)
      case first =>
        go_region_held3 (fun w' => w'.cell? ⟨w.heap.size, 0, none⟩ = some (.slice (some ⟨tb, tto, none⟩) c.tabs.length c.tc) ∧ w'.cell? ⟨w.heap.size, 1, none⟩ = some (.slice (some ⟨lb, lo, none⟩) c.lamps.length c.lc) ∧ w'.cell? ⟨lb, lo + k * 14 + 1, none⟩ = some (.int .i64 (q : Nat)) ∧ w'.cell? ⟨tb, tto + q * 6, none⟩ = some (.string (tabAt c.tabs q).name) ∧ w'.cell? ⟨tb, tto + q * 6 + 1, none⟩ = some (.slice (tabAt c.tabs q).us.a (tabAt c.tabs q).us.xs.length (tabAt c.tabs q).us.c) ∧ w'.cell? ⟨tb, tto + q * 6 + 2, none⟩ = some (.slice (tabAt c.tabs q).vs.a (tabAt c.tabs q).vs.xs.length (tabAt c.tabs q).vs.c) ∧ w'.cell? ⟨tb, tto + q * 6 + 3, none⟩ = some (.slice (tabAt c.tabs q).ra (tabAt c.tabs q).rows.length (tabAt c.tabs q).rc) ∧ w'.cell? ⟨tb, tto + q * 6 + 4, none⟩ = some (.int .i64 (tabAt c.tabs q).side) ∧ w'.cell? ⟨tb, tto + q * 6 + 5, none⟩ = some (.int .i64 (tabAt c.tabs q).sky) ∧ w'.cell? ⟨w.heap.size + 1 + 1, 0, none⟩ = some (.int .i64 x0) ∧ w'.cell? ⟨w.heap.size + 1 + 1, 1, none⟩ = some (.int .i64 x1) ∧ w'.cell? ⟨w.heap.size + 1 + 1, 2, none⟩ = some (.int .i64 y0) ∧ w'.cell? ⟨w.heap.size + 1 + 1, 3, none⟩ = some (.int .i64 y1))
          ((refine KF.out _ ?_; (repeat' (first | (with_reducible exact Below.refl _ _) | (with_reducible refine Below.drew ?_) | (with_reducible refine Below.alloc ?_ ?_ _) | (with_reducible refine Below.setCell ?_ ?_ _) | (with_reducible refine Below.trans ?_ (hbq.mono ?_)))); all_goals (first | (simp; done) | (simp; omega) | omega)))
          (first | (go_at_call 51; (with_reducible refine Calls.mono (OV2.out _ ?_) ?_); (focus ((repeat' (first | (with_reducible exact Below.refl _ _) | (with_reducible refine Below.drew ?_) | (with_reducible refine Below.alloc ?_ ?_ _) | (with_reducible refine Below.setCell ?_ ?_ _) | (with_reducible refine Below.trans ?_ (hbq.mono ?_)))); all_goals (first | (simp; done) | (simp; omega) | omega))); (rintro e wq ⟨rfl, hbq⟩; have hcq := (bcb hbq).1; have hfq := (bcb hbq).2; have hzq := hbq.size; (try simp at hzq))))
        all_goals go_wp2_with fail
        all_goals go_meet
        all_goals
          case rel =>
            refine ⟨_, rfl, ?_, ?_, ?_⟩
            · first | exact Bq.fresh _ _ _ _ | exact (Bq.fresh _ _ _ _).drew | exact ((Bq.fresh w2 0 0 35).drew.keep hbq (by simp)).set _ _ | exact ((Bq.fresh w2 0 0 35).keep hbq (by simp)).set _ _
            · (repeat' (first | (with_reducible exact Below.refl _ _) | (with_reducible refine Below.drew ?_) | (with_reducible refine Below.alloc ?_ ?_ _) | (with_reducible refine Below.setCell ?_ ?_ _) | (with_reducible refine Below.trans ?_ (hbq.mono ?_)))); all_goals (first | (simp; done) | (simp; omega) | omega)
            · first | omega | (simp; omega)
      case rest =>
        obtain ⟨g, rfl, bg, bw, hg⟩ := hcut
        obtain ⟨d0, d1, d2, d3, d4⟩ := bg
        obtain ⟨x0', x1', x2', x3', _⟩ := BA2.out.keep bw sA
        have BZ3 := Lib.hid (BZ2.out.keep bw BZ2.out.lt)
        have BW3 := Lib.hid (BW2.out.trans (bw.mono BW2.out.size))
        go_upto_region 8 with fail
        go_still_tail 13, (by kernel_rfl)
        still_call ((DN.out _).mono fun _ _ hh => ⟨hh.1, hh.2.symm⟩)
        repeat still_step
        still_call ((UP.out _).mono fun _ _ hh => ⟨hh.1, hh.2.symm⟩)
        repeat still_step
        refine wpStill_nil ?_
        have k9 := BW3.out.drew
        obtain ⟨z0, z1, z2, z3, _⟩ := BZ3.out.drew
        change wpList _ _ _ _ _ wc.drew
        generalize wc.drew = W3 at *
        clear d0 d1 d2 d3 d4 x0' x1' x2' x3'
        go_wp2_with fail
        refine bodyPost_ret (v := enclE ((g0 * f0) / 1000) (upD (g1 * f1) 1000) 0) (by simp [results, Try.results33, go_sem, z0, z1]) rfl ⟨by rw [HE2.out, HF1.out, HF2.out, HR.out], ?_⟩
        exact (k9.setCell (p := ⟨w.heap.size + 1 + 1 + 1, 0, none⟩) (by show w.heap.size ≤ w.heap.size + 1 + 1 + 1; omega) _).setCell (p := ⟨w.heap.size + 1 + 1 + 1, 1, none⟩) (by show w.heap.size ≤ w.heap.size + 1 + 1 + 1; omega) _
end Go.Proofs.Ythmelkakgbchbaa
