/- LampHolds: its way where all is small. -/
import Derived.Test.YthmelkakgbchbaaHow
namespace Go.Proofs.Ythmelkakgbchbaa
set_option linter.unusedSimpArgs false
set_option linter.unusedVariables false
open Go.RowKit
attribute [local go_sem ↓] Go.wp_at_zero Go.wp_at_succ

set_option maxRecDepth 100000 in
set_option maxHeartbeats 8000000 in
theorem holds_good (c : Cat) (n x0 x1 y0 y1 h p q : Int) (w : World) (hc : CatIn w.heap.size c w) (p0 : 0 ≤ p) (p1 : p ≤ 255) (q0 : 0 ≤ q) (q1 : q ≤ 255) (hE : ovE c n x0 x1 y0 y1 h = 0) (hh : h ≤ 1000) :
    Calls Try.prog 10 #[.agg #[c.tv, c.lv, .int .i64 n, .int .i64 x0, .int .i64 x1, .int .i64 y0, .int .i64 y1, .int .i64 h], .agg #[.int .u8 p, .int .u8 q]] w fun e w' => e = .returned (.bool true) ∧ Below w.heap.size w w' := by
  have HC := Lib.hid hc
  clear hc
  have CI := Lib.hid (fun (W : World) (g : Below w.heap.size w W) => (HC.out.keep g (Nat.le_refl _)).more g.size)
  have OKo := ov_ok hE
  have OV := Lib.hid (fun W (g : CatIn W.heap.size c W) => Over_any c n x0 x1 y0 y1 h W g)
  rw [hE] at OV
  obtain ⟨k, rfl⟩ := Int.eq_ofNat_of_zero_le OKo.n0
  have hk : k < c.tabs.length := by have := OKo.n1; simpa using this
  have X1 := OKo.gx01; have Y1 := OKo.gy01; have X0 := OKo.gx0; have X2 := OKo.gx1; have Y0 := OKo.gy0; have Y2 := OKo.gy1; have H0 := OKo.gh0
  obtain ⟨ex, ex0, ex1, px0, px1⟩ := at255 X1 p0 p1
  obtain ⟨ey, ey0, ey1, py0, py1⟩ := at255 Y1 q0 q1
  obtain ⟨mx, hmx⟩ : ∃ mx, x0 + (x1 - x0) * p / 255 = mx := ⟨_, rfl⟩
  obtain ⟨my, hmy⟩ : ∃ my, y0 + (y1 - y0) * q / 255 = my := ⟨_, rfl⟩
  have vp : IntKind.i64.wrap p = p := IntWalk.i64_in _ (by omega)
  have vq : IntKind.i64.wrap q = q := IntWalk.i64_in _ (by omega)
  have v1 : IntKind.i64.wrap (x1 - x0) = x1 - x0 := IntWalk.i64_in _ (by omega)
  have v2 : IntKind.i64.wrap ((x1 - x0) * p) = (x1 - x0) * p := IntWalk.i64_in _ (by omega)
  have v3 : IntKind.i64.wrap ((x1 - x0) * p / 255) = (x1 - x0) * p / 255 := IntWalk.i64_in _ (by omega)
  have v4 : IntKind.i64.wrap (x0 + (x1 - x0) * p / 255) = mx := by rw [← hmx]; exact IntWalk.i64_in _ (by omega)
  have v5 : IntKind.i64.wrap (y1 - y0) = y1 - y0 := IntWalk.i64_in _ (by omega)
  have v6 : IntKind.i64.wrap ((y1 - y0) * q) = (y1 - y0) * q := IntWalk.i64_in _ (by omega)
  have v7 : IntKind.i64.wrap ((y1 - y0) * q / 255) = (y1 - y0) * q / 255 := IntWalk.i64_in _ (by omega)
  have v8 : IntKind.i64.wrap (y0 + (y1 - y0) * q / 255) = my := by rw [← hmy]; exact IntWalk.i64_in _ (by omega)
  have v9 : IntKind.i64.wrap (1000 * mx) = 1000 * mx := by rw [← hmx]; exact IntWalk.i64_in _ (by omega)
  have va : IntKind.i64.wrap (1000 * my) = 1000 * my := by rw [← hmy]; exact IntWalk.i64_in _ (by omega)
  rw [hmx] at ex0 ex1
  rw [hmy] at ey0 ey1
  have HMX := Lib.hid hmx
  have HMY := Lib.hid hmy
  have PI := OKo.part (a0 := mx) (a1 := mx) (b0 := my) (b1 := my) ex0 (Int.le_refl _) ex1 ey0 (Int.le_refl _) ey1
  have HIN := Lib.hid (fun (s : SmallOk (tabAt c.tabs k)) (i j : Nat) (hi : i + 1 < (tabAt c.tabs k).us.xs.length) (hj : j + 1 < (tabAt c.tabs k).vs.xs.length) (g : Brk (tabAt c.tabs k) (1000 * mx) (1000 * my) h i j) => holds_in (m := (k : Int)) OKo hh s ex0 ex1 ey0 ey1 hi hj g)
  have HOUT := Lib.hid (fun (g : insB (tabAt c.tabs k) (1000 * mx) (1000 * my) h = false) => holds_out (m := (k : Int)) OKo ex0 ex1 ey0 ey1 g)
  simp only [Int.toNat_natCast] at HIN HOUT
  have VI := Lib.hid (fun W (g : CatIn W.heap.size c W) => Intensity_any c k mx my h W g)
  rw [PI.1] at VI
  have okt : TabOk (tabAt c.tabs k) := by simpa using OKo.ok
  have TA := Lib.hid (fun (W : World) (g : Below w.heap.size w W) => tabAt_cells (HC.out.keep g (Nat.le_refl _)) hk)
  generalize tabAt c.tabs k = t at *
  have OT := Lib.hid okt
  have SMA := Lib.hid (fun (W : World) (g : Below w.heap.size w W) => by
    obtain ⟨b, o, ha, hb, ht⟩ := TA.out W g
    exact small_any t W okt (ht.us.more g.size) (ht.vs.more g.size) (ht.rows.more g.size))
  have EXA := Lib.hid (fun (s : SmallOk t) (W : World) (g : Below w.heap.size w W) => by
    obtain ⟨b, o, ha, hb, ht⟩ := TA.out W g
    exact exact_any t (1000 * mx) (1000 * my) h W okt (ht.us.more g.size) (ht.vs.more g.size) (ht.rows.more g.size) H0 hh s)
  generalize ovLo c k x0 x1 y0 y1 h = f0 at *
  generalize ovHi c k x0 x1 y0 y1 h = f1 at *
  generalize ovLo c k mx mx my my h = i0 at *
  generalize ovHi c k mx mx my my h = i1 at *
  have d1 : decide ((k : Int) < 0) = false := decide_eq_false (by omega)
  have d2 : decide ((c.tabs.length : Int) ≤ (k : Int)) = false := decide_eq_false (by omega)
  have d3 : decide (1000 < h) = false := decide_eq_false (by omega)
  have s3 : (0 : Int) ≤ (k : Int) := by omega
  have s4 : (k : Int) < (c.tabs.length : Int) := by omega
  clear hE OKo X1 Y1 X0 X2 Y0 Y2 H0 ex0 ex1 px0 px1 ey0 ey1 py0 py1 hmx hmy PI okt hh
  unfold Cat.tv Cat.lv at *
  have bw0 : Below w.heap.size w ((w.alloc (.cells #[.slice c.ta c.tabs.length c.tc, .slice c.la c.lamps.length c.lc, .int .i64 (k : Int), .int .i64 x0, .int .i64 x1, .int .i64 y0, .int .i64 y1, .int .i64 h] 66)).alloc (.cells #[.int .u8 p, .int .u8 q] 57)) := ((Below.refl _ _).alloc (Nat.le_refl _) _).alloc (by simp) _
  have BW0 := Lib.hid bw0
  have a0 : ((w.alloc (.cells #[.slice c.ta c.tabs.length c.tc, .slice c.la c.lamps.length c.lc, .int .i64 (k : Int), .int .i64 x0, .int .i64 x1, .int .i64 y0, .int .i64 y1, .int .i64 h] 66)).alloc (.cells #[.int .u8 p, .int .u8 q] 57)).cell? ⟨w.heap.size, 0, none⟩ = some (.slice c.ta c.tabs.length c.tc) := by simp [go_sem]
  have a1 : ((w.alloc (.cells #[.slice c.ta c.tabs.length c.tc, .slice c.la c.lamps.length c.lc, .int .i64 (k : Int), .int .i64 x0, .int .i64 x1, .int .i64 y0, .int .i64 y1, .int .i64 h] 66)).alloc (.cells #[.int .u8 p, .int .u8 q] 57)).cell? ⟨w.heap.size, 1, none⟩ = some (.slice c.la c.lamps.length c.lc) := by simp [go_sem]
  have a2 : ((w.alloc (.cells #[.slice c.ta c.tabs.length c.tc, .slice c.la c.lamps.length c.lc, .int .i64 (k : Int), .int .i64 x0, .int .i64 x1, .int .i64 y0, .int .i64 y1, .int .i64 h] 66)).alloc (.cells #[.int .u8 p, .int .u8 q] 57)).cell? ⟨w.heap.size, 2, none⟩ = some (.int .i64 (k : Int)) := by simp [go_sem]
  have a3 : ((w.alloc (.cells #[.slice c.ta c.tabs.length c.tc, .slice c.la c.lamps.length c.lc, .int .i64 (k : Int), .int .i64 x0, .int .i64 x1, .int .i64 y0, .int .i64 y1, .int .i64 h] 66)).alloc (.cells #[.int .u8 p, .int .u8 q] 57)).cell? ⟨w.heap.size, 3, none⟩ = some (.int .i64 x0) := by simp [go_sem]
  have a4 : ((w.alloc (.cells #[.slice c.ta c.tabs.length c.tc, .slice c.la c.lamps.length c.lc, .int .i64 (k : Int), .int .i64 x0, .int .i64 x1, .int .i64 y0, .int .i64 y1, .int .i64 h] 66)).alloc (.cells #[.int .u8 p, .int .u8 q] 57)).cell? ⟨w.heap.size, 4, none⟩ = some (.int .i64 x1) := by simp [go_sem]
  have a5 : ((w.alloc (.cells #[.slice c.ta c.tabs.length c.tc, .slice c.la c.lamps.length c.lc, .int .i64 (k : Int), .int .i64 x0, .int .i64 x1, .int .i64 y0, .int .i64 y1, .int .i64 h] 66)).alloc (.cells #[.int .u8 p, .int .u8 q] 57)).cell? ⟨w.heap.size, 5, none⟩ = some (.int .i64 y0) := by simp [go_sem]
  have a6 : ((w.alloc (.cells #[.slice c.ta c.tabs.length c.tc, .slice c.la c.lamps.length c.lc, .int .i64 (k : Int), .int .i64 x0, .int .i64 x1, .int .i64 y0, .int .i64 y1, .int .i64 h] 66)).alloc (.cells #[.int .u8 p, .int .u8 q] 57)).cell? ⟨w.heap.size, 6, none⟩ = some (.int .i64 y1) := by simp [go_sem]
  have a7 : ((w.alloc (.cells #[.slice c.ta c.tabs.length c.tc, .slice c.la c.lamps.length c.lc, .int .i64 (k : Int), .int .i64 x0, .int .i64 x1, .int .i64 y0, .int .i64 y1, .int .i64 h] 66)).alloc (.cells #[.int .u8 p, .int .u8 q] 57)).cell? ⟨w.heap.size, 7, none⟩ = some (.int .i64 h) := by simp [go_sem]
  have r0 : ((w.alloc (.cells #[.slice c.ta c.tabs.length c.tc, .slice c.la c.lamps.length c.lc, .int .i64 (k : Int), .int .i64 x0, .int .i64 x1, .int .i64 y0, .int .i64 y1, .int .i64 h] 66)).alloc (.cells #[.int .u8 p, .int .u8 q] 57)).cell? ⟨w.heap.size + 1, 0, none⟩ = some (.int .u8 p) := by simp [go_sem]
  have r1 : ((w.alloc (.cells #[.slice c.ta c.tabs.length c.tc, .slice c.la c.lamps.length c.lc, .int .i64 (k : Int), .int .i64 x0, .int .i64 x1, .int .i64 y0, .int .i64 y1, .int .i64 h] 66)).alloc (.cells #[.int .u8 p, .int .u8 q] 57)).cell? ⟨w.heap.size + 1, 1, none⟩ = some (.int .u8 q) := by simp [go_sem]
  have ls : w.heap.size + 1 < ((w.alloc (.cells #[.slice c.ta c.tabs.length c.tc, .slice c.la c.lamps.length c.lc, .int .i64 (k : Int), .int .i64 x0, .int .i64 x1, .int .i64 y0, .int .i64 y1, .int .i64 h] 66)).alloc (.cells #[.int .u8 p, .int .u8 q] 57)).heap.size := by simp
  clear bw0
  go_enter Try.func10, Try.ntmps10
  go_wp2_with fail
  generalize ((w.alloc (.cells #[.slice c.ta c.tabs.length c.tc, .slice c.la c.lamps.length c.lc, .int .i64 (k : Int), .int .i64 x0, .int .i64 x1, .int .i64 y0, .int .i64 y1, .int .i64 h] 66)).alloc (.cells #[.int .u8 p, .int .u8 q] 57)) = W0 at *
  have KAT := Lib.hid (show ∀ Wz : World, Below W0.heap.size W0 Wz → (Wz.cell? ⟨w.heap.size + 1, 0, none⟩ = some (.int .u8 p) ∧ Wz.cell? ⟨w.heap.size + 1, 1, none⟩ = some (.int .u8 q)) from fun Wz hz => ⟨by rw [hz.cell (p := ⟨w.heap.size + 1, 0, none⟩) ls]; exact r0, by rw [hz.cell (p := ⟨w.heap.size + 1, 1, none⟩) ls]; exact r1⟩)
  have lne : w.heap.size ≠ W0.heap.size := by omega
  have ls0 : w.heap.size < W0.heap.size := by omega
  have LS := Lib.hid ls
  clear r0 r1 ls
  go_upto_region 1 with fail
  go_cut [5, 6] (fun s5 s6 wx => ∃ g : Nat, s5 = .pointer (some ⟨g, 0, none⟩) ∧ s6 = .int .i64 (k : Int) ∧ Kpx c x0 x1 y0 y1 h w.heap.size g wx ∧ Below W0.heap.size W0 wx)
  case first =>
    go_region
    all_goals go_wp2_with fail
    all_goals go_meet
    all_goals
      case rel =>
        refine ⟨_, rfl, rfl, ?_, ?_⟩
        · constructor <;> simp [go_sem, a0, a1, a2, a3, a4, a5, a6, a7, lne, ls0] <;> omega
        · (repeat' (first | (with_reducible exact Below.refl _ _) | (with_reducible refine Below.drew ?_) | (with_reducible refine Below.alloc ?_ ?_ _) | (with_reducible refine Below.setCell ?_ ?_ _))) <;> simp
  case rest =>
    obtain ⟨g, rfl, rfl, KX, bx⟩ := hcut
    have BW1 := Lib.hid (BW0.out.trans (bx.mono BW0.out.size))
    have B01 := Lib.hid bx
    have KX1 := Lib.hid KX
    obtain ⟨a3, a4, a5, a6, a7, t0, t1, ls, lg⟩ := KX
    clear bx a0 a1 a2 lne ls0
    go_wp2_with fail
    with_reducible refine Calls.mono (OV.out _ (CI.out _ BW1.out)) ?_
    rintro e w1 ⟨rfl, o1⟩
    have KX2 := KX1.out.keep o1 ls lg
    have BW2 := Lib.hid ((BW1.out.trans (o1.mono BW1.out.size)).alloc (Nat.le_trans BW1.out.size o1.size) (.cells #[.int .i64 f0, .int .i64 f1] 35))
    have B02 := Lib.hid ((B01.out.trans (o1.mono B01.out.size)).alloc (Nat.le_trans B01.out.size o1.size) (.cells #[.int .i64 f0, .int .i64 f1] 35))
    have ne1 : w.heap.size ≠ w1.heap.size := by have := KX2.ls; omega
    have ne2 : g ≠ w1.heap.size := by have := KX2.lg; omega
    have KX3 := Lib.hid (KX2.keep (below_new w1 (.cells #[.int .i64 f0, .int .i64 f1] 35)) KX2.ls KX2.lg)
    have BO3 := Lib.hid (Bq.fresh w1 f0 f1 35)
    obtain ⟨a3, a4, a5, a6, a7, t0, t1, ls, lg⟩ := KX2
    clear o1 KX1 BW1 B01
    have bwz : Below w.heap.size w w1 := (BW2.out.trans (Below.refl _ _)) |> fun hh => ⟨hh.os, hh.tape, hh.output, by have := KX3.out.ls; omega, fun j hj => by have := hh.block j hj; rw [← this]; exact ((below_new w1 (.cells #[.int .i64 f0, .int .i64 f1] 35)).block j (by omega)).symm⟩
    obtain ⟨tb, tt, ha, hb, ht⟩ := TA.out _ bwz
    have c0 := ht.c0
    have c1 := ht.c1
    have c2 := ht.c2
    have c3 := ht.c3
    have c4 := ht.c4
    have c5 := ht.c5
    unfold Ints.val at c1 c2
    clear ht
    have HA := Lib.hid ha
    rw [ha] at t0
    clear ha
    have ne3 : tb ≠ w1.heap.size := by omega
    have lt3 : tb < w1.heap.size := by omega
    clear bwz
    go_wp2_with fail
    generalize w1.alloc (.cells #[.int .i64 f0, .int .i64 f1] 35) = W2 at *
    generalize w1.heap.size = O at *
    have CE := Lib.hid (show ∀ Wz : World, Below W2.heap.size W2 Wz → (Wz.cell? ⟨g, 0, none⟩ = some (.slice (some ⟨tb, tt, none⟩) c.tabs.length c.tc) ∧ Wz.cell? ⟨tb, tt + k * 6, none⟩ = some (.string t.name) ∧ Wz.cell? ⟨tb, tt + k * 6 + 1, none⟩ = some (.slice t.us.a t.us.xs.length t.us.c) ∧ Wz.cell? ⟨tb, tt + k * 6 + 2, none⟩ = some (.slice t.vs.a t.vs.xs.length t.vs.c) ∧ Wz.cell? ⟨tb, tt + k * 6 + 3, none⟩ = some (.slice t.ra t.rows.length t.rc) ∧ Wz.cell? ⟨tb, tt + k * 6 + 4, none⟩ = some (.int .i64 t.side) ∧ Wz.cell? ⟨tb, tt + k * 6 + 5, none⟩ = some (.int .i64 t.sky) ∧ Wz.cell? ⟨w.heap.size, 7, none⟩ = some (.int .i64 h) ∧ Wz.cell? ⟨O, 0, none⟩ = some (.int .i64 f0) ∧ Wz.cell? ⟨O, 1, none⟩ = some (.int .i64 f1)) from fun Wz hz => by
      obtain ⟨tb', tt', ha', hb', ht'⟩ := TA.out Wz (BW2.out.trans (hz.mono BW2.out.size))
      rw [HA.out] at ha'
      obtain ⟨rfl, rfl⟩ : tb = tb' ∧ tt = tt' := by injection ha' with e; injection e with e1 e2; exact ⟨e1, e2⟩
      have kx := KX3.out.keep hz KX3.out.ls KX3.out.lg
      have ko := BO3.out.keep hz BO3.out.lt
      have z0 := kx.t0
      rw [HA.out] at z0
      have c1 := ht'.c1
      have c2 := ht'.c2
      unfold Ints.val at c1 c2
      exact ⟨z0, ht'.c0, c1, c2, ht'.c3, ht'.c4, ht'.c5, kx.a7, ko.c0, ko.c1⟩)
    clear c0 c1 c2 c3 c4 c5 a3 a4 a5 a6 a7 t0 t1 ls lg ne1 ne2 ne3 lt3
    with_reducible refine Calls.mono (SMA.out _ BW2.out) ?_
    rintro e w3 ⟨⟨b, rfl, hb1⟩, o3⟩
    have BW3 := Lib.hid (BW2.out.trans (o3.mono BW2.out.size))
    have B03 := Lib.hid (B02.out.trans (o3.mono B02.out.size))
    have B23 := Lib.hid o3
    cases b
    · clear hb1
      go_wp2_with fail
      with_reducible refine Calls.mono (awake_any _) ?_
      rintro e w3 ⟨rfl, b3'⟩
      go_wp2_with fail
      go_ret
      exact ⟨rfl, BW3.out.trans (b3'.mono BW3.out.size)⟩
    · have SOK := hb1 rfl
      clear hb1
      have EX2 := Lib.hid (EXA.out SOK)
      have HI2 := Lib.hid (HIN.out SOK)
      clear SOK HIN EXA SMA
      obtain ⟨a3, a4, a5, a6, a7, t0, t1, ls, lg⟩ := KX3.out.keep o3 KX3.out.ls KX3.out.lg
      obtain ⟨r0, r1⟩ := KAT.out _ B03.out
      clear o3
      go_wp2_with fail
      go_quiet (fail)
      have e4 := ((Own.refl w3.heap.size w3).drewN nq).below
      have BW4 := Lib.hid (BW3.out.trans (e4.mono BW3.out.size))
      have B24 := Lib.hid (B23.out.trans (e4.mono B23.out.size))
      clear e4 BW3 B03 B23 r0 r1 a3 a4 a5 a6 a7 t0 t1 ls lg
      generalize w3.drewN nq = W4 at *
      obtain ⟨a3, a4, a5, a6, a7, t0, t1, ls, lg⟩ := KX3.out.keep B24.out KX3.out.ls KX3.out.lg
      go_wp2_with fail
      with_reducible refine Calls.mono (VI.out _ (CI.out _ BW4.out)) ?_
      rintro e w5 ⟨rfl, o5⟩
      clear a3 a4 a5 a6 a7 t0 t1 ls lg
      have BW5 := Lib.hid ((BW4.out.trans (o5.mono BW4.out.size)).alloc (Nat.le_trans BW4.out.size o5.size) (.cells #[.int .i64 i0, .int .i64 i1] 35))
      have B25 := Lib.hid ((B24.out.trans (o5.mono B24.out.size)).alloc (Nat.le_trans B24.out.size o5.size) (.cells #[.int .i64 i0, .int .i64 i1] 35))
      have BI5 := Lib.hid (Bq.fresh w5 i0 i1 35)
      clear o5 BW4 B24
      go_wp2_with fail
      generalize w5.alloc (.cells #[.int .i64 i0, .int .i64 i1] 35) = W5 at *
      generalize w5.heap.size = I at *
      have C5 := Lib.hid (fun (Wz : World) (hz : Below W5.heap.size W5 Wz) => CE.out Wz (B25.out.trans (hz.mono B25.out.size)))
      have EX5 := Lib.hid (fun (Wz : World) (hz : Below W5.heap.size W5 Wz) => EX2.out Wz (BW5.out.trans (hz.mono BW5.out.size)))
      obtain ⟨h0', h1', h2', h3', h4', h5', h6', h7', h8', h9'⟩ := C5.out W5 (Below.refl _ _)
      go_upto_region 7 with fail
      go_cut [12, 13] (fun s12 s13 wx => ∃ nn dd : Int, s12 = .int .i64 nn ∧ s13 = .int .i64 dd ∧ ((∃ i j, i + 1 < t.us.xs.length ∧ j + 1 < t.vs.xs.length ∧ Brk t (1000 * mx) (1000 * my) h i j ∧ nn = bilT t h i j (1000 * mx) (1000 * my) ∧ dd = bilD t h i j) ∨ (nn = 0 ∧ dd = 0 ∧ insB t (1000 * mx) (1000 * my) h = false)) ∧ Below W5.heap.size W5 wx)
      case first =>
        clear ex ey vp vq v1 v2 v3 v4 v5 v6 v7 v8 d1 d2 d3 HI2 HOUT VI OV KAT TA OT
        go_region_held3 (fun w' => w'.cell? ⟨g, 0, none⟩ = some (.slice (some ⟨tb, tt, none⟩) c.tabs.length c.tc) ∧ w'.cell? ⟨tb, tt + k * 6, none⟩ = some (.string t.name) ∧ w'.cell? ⟨tb, tt + k * 6 + 1, none⟩ = some (.slice t.us.a t.us.xs.length t.us.c) ∧ w'.cell? ⟨tb, tt + k * 6 + 2, none⟩ = some (.slice t.vs.a t.vs.xs.length t.vs.c) ∧ w'.cell? ⟨tb, tt + k * 6 + 3, none⟩ = some (.slice t.ra t.rows.length t.rc) ∧ w'.cell? ⟨tb, tt + k * 6 + 4, none⟩ = some (.int .i64 t.side) ∧ w'.cell? ⟨tb, tt + k * 6 + 5, none⟩ = some (.int .i64 t.sky) ∧ w'.cell? ⟨w.heap.size, 7, none⟩ = some (.int .i64 h) ∧ w'.cell? ⟨O, 0, none⟩ = some (.int .i64 f0) ∧ w'.cell? ⟨O, 1, none⟩ = some (.int .i64 f1))
          ((refine C5.out _ ?_; ((repeat' (first | (with_reducible exact Below.refl _ _) | (with_reducible refine Below.drew ?_) | (with_reducible refine Below.alloc ?_ ?_ _) | (with_reducible refine Below.setCell ?_ ?_ _) | (with_reducible refine Below.trans ?_ (hbp.mono ?_)))); all_goals (first | (simp; done) | (simp; omega) | omega))))
          (first | (go_at_call 37; (with_reducible refine Calls.mono (EX5.out _ ?_) ?_); (focus ((repeat' (first | (with_reducible exact Below.refl _ _) | (with_reducible refine Below.drew ?_) | (with_reducible refine Below.alloc ?_ ?_ _) | (with_reducible refine Below.setCell ?_ ?_ _) | (with_reducible refine Below.trans ?_ (hbp.mono ?_)))); all_goals (first | (simp; done) | (simp; omega) | omega))); rintro e wp ⟨⟨nn, dd, rfl, hxx⟩, hbp⟩))
        all_goals go_wp2_with fail
        all_goals go_meet
        all_goals
          case rel => exact ⟨_, _, rfl, rfl, by assumption, by ((repeat' (first | (with_reducible exact Below.refl _ _) | (with_reducible refine Below.drew ?_) | (with_reducible refine Below.alloc ?_ ?_ _) | (with_reducible refine Below.setCell ?_ ?_ _) | (with_reducible refine Below.trans ?_ (hbp.mono ?_)))); all_goals (first | (simp; done) | (simp; omega) | omega))⟩
      case rest =>
        obtain ⟨nn, dd, rfl, rfl, hx, bx⟩ := hcut
        have BW6 := Lib.hid (BW5.out.trans (bx.mono BW5.out.size))
        have C6 := Lib.hid (fun (Wz : World) (hz : Below wc.heap.size wc Wz) => C5.out Wz (bx.trans (hz.mono bx.size)))
        have BI6 := Lib.hid (BI5.out.keep bx BI5.out.lt)
        clear bx h0' h1' h2' h3' h4' h5' h6' h7' h8' h9' ex ey vp vq v1 v2 v3 v4 v5 v6 v7 v8 v9 va d1 d2 d3 VI OV KAT EX2 EX5 BW5 BI5 B25 B02 KX3 BO3
        obtain ⟨z0, z1, _, _, _⟩ := BI6.out
        obtain ⟨h0', h1', h2', h3', h4', h5', h6', h7', h8', h9'⟩ := C6.out wc (Below.refl _ _)
        rcases hx with ⟨i, j, hi, hj, hg, rfl, rfl⟩ | ⟨rfl, rfl, hg⟩
        · obtain ⟨e1, e2, e3, e4, e5, e6, e7, e8, e9, ea, eb, ec, ed⟩ := HI2.out i j hi hj hg
          generalize bilT t h i j (1000 * mx) (1000 * my) = nn at *
          generalize bilD t h i j = dd at *
          have m1 := Int.mul_le_mul_of_nonneg_right ea (show 0 ≤ dd by omega)
          have m2 := Int.mul_le_mul_of_nonneg_right ed (show 0 ≤ dd by omega)
          have m3 := Int.mul_nonneg e8 (show 0 ≤ dd by omega)
          have m4 := Int.mul_nonneg eb (show 0 ≤ dd by omega)
          have q1 : IntKind.i64.wrap (i0 * dd) = i0 * dd := IntWalk.i64_in _ (by omega)
          have q2 : IntKind.i64.wrap (i1 * dd) = i1 * dd := IntWalk.i64_in _ (by omega)
          have q3 : IntKind.i64.wrap (f0 * dd) = f0 * dd := IntWalk.i64_in _ (by omega)
          have q4 : IntKind.i64.wrap (f1 * dd) = f1 * dd := IntWalk.i64_in _ (by omega)
          have q5 : IntKind.i64.wrap (i1 - i0) = i1 - i0 := IntWalk.i64_in _ (by omega)
          have u1 : decide (nn < i0 * dd) = false := decide_eq_false (by omega)
          have u2 : decide (i1 * dd < nn) = false := decide_eq_false (by omega)
          have u3 : decide (nn < f0 * dd) = false := decide_eq_false (by omega)
          have u4 : decide (f1 * dd < nn) = false := decide_eq_false (by omega)
          have u5 : decide (i1 - i0 ≤ 3) = true := decide_eq_true e7
          have u6 : (dd == 0) = false := by rw [beq_eq_false_iff_ne]; omega
          have u7 : ¬ dd = 0 := by omega
          clear e1 e2 e3 e4 e5 e6 e7 e8 e9 ea eb ec ed m1 m2 m3 m4 hi hj hg HI2 HOUT
          go_wp2_with fail
          with_reducible refine Calls.mono (awake_any _) ?_
          rintro e w7 ⟨rfl, b7⟩
          go_wp2_with fail
          go_ret
          exact ⟨rfl, BW6.out.trans (b7.mono BW6.out.size)⟩
        · obtain ⟨g1, g2⟩ := HOUT.out hg
          have u1 : decide (f0 ≤ 0) = true := decide_eq_true g1
          have u2 : decide (t.side ≤ f1) = true := decide_eq_true g2
          clear HI2 HOUT hg
          go_wp2_with fail
          go_upto_region 11 with fail
          go_cut [4] (fun s4 wx => s4 = .bool true ∧ Below wc.heap.size wc wx)
          case first =>
            go_region_held3 (fun w' => w'.cell? ⟨g, 0, none⟩ = some (.slice (some ⟨tb, tt, none⟩) c.tabs.length c.tc) ∧ w'.cell? ⟨tb, tt + k * 6, none⟩ = some (.string t.name) ∧ w'.cell? ⟨tb, tt + k * 6 + 1, none⟩ = some (.slice t.us.a t.us.xs.length t.us.c) ∧ w'.cell? ⟨tb, tt + k * 6 + 2, none⟩ = some (.slice t.vs.a t.vs.xs.length t.vs.c) ∧ w'.cell? ⟨tb, tt + k * 6 + 3, none⟩ = some (.slice t.ra t.rows.length t.rc) ∧ w'.cell? ⟨tb, tt + k * 6 + 4, none⟩ = some (.int .i64 t.side) ∧ w'.cell? ⟨tb, tt + k * 6 + 5, none⟩ = some (.int .i64 t.sky) ∧ w'.cell? ⟨w.heap.size, 7, none⟩ = some (.int .i64 h) ∧ w'.cell? ⟨O, 0, none⟩ = some (.int .i64 f0) ∧ w'.cell? ⟨O, 1, none⟩ = some (.int .i64 f1))
              ((refine C6.out _ ?_; ((repeat' (first | (with_reducible exact Below.refl _ _) | (with_reducible refine Below.drew ?_) | (with_reducible refine Below.alloc ?_ ?_ _) | (with_reducible refine Below.setCell ?_ ?_ _) | (with_reducible refine Below.trans ?_ (hbp.mono ?_)))); all_goals (first | (simp; done) | (simp; omega) | omega))))
              (first | (go_at_call 20; (with_reducible refine Calls.mono (awake_any _) ?_); rintro e wp ⟨rfl, hbp⟩))
            all_goals go_wp2_with fail
            all_goals go_meet
            all_goals
              case rel => exact ⟨rfl, by ((repeat' (first | (with_reducible exact Below.refl _ _) | (with_reducible refine Below.drew ?_) | (with_reducible refine Below.alloc ?_ ?_ _) | (with_reducible refine Below.setCell ?_ ?_ _) | (with_reducible refine Below.trans ?_ (hbp.mono ?_)))); all_goals (first | (simp; done) | (simp; omega) | omega))⟩
          case rest =>
            obtain ⟨rfl, bx⟩ := hcut
            go_wp2_with fail
            go_ret
            exact ⟨rfl, BW6.out.trans (bx.mono BW6.out.size)⟩

theorem lawHolds_any (c : Cat) (n x0 x1 y0 y1 h p q : Int) (w : World) (hc : CatIn w.heap.size c w) (p0 : 0 ≤ p) (p1 : p ≤ 255) (q0 : 0 ≤ q) (q1 : q ≤ 255) :
    Calls Try.prog 10 #[.agg #[c.tv, c.lv, .int .i64 n, .int .i64 x0, .int .i64 x1, .int .i64 y0, .int .i64 y1, .int .i64 h], .agg #[.int .u8 p, .int .u8 q]] w fun e w' => e = .returned (.bool true) ∧ Below w.heap.size w w' := by
  by_cases hE : ovE c n x0 x1 y0 y1 h = 0
  · by_cases hh : h ≤ 1000
    · exact holds_good c n x0 x1 y0 y1 h p q w hc p0 p1 q0 q1 hE hh
    · exact holds_deep c n x0 x1 y0 y1 h p q w hc p0 p1 q0 q1 hE (by omega)
  · exact holds_bad c n x0 x1 y0 y1 h p q w hc p0 p1 q0 q1 hE
end Go.Proofs.Ythmelkakgbchbaa
