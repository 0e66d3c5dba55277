/- LampBetween: its way where Intensity answers. -/
import Derived.Test.YthmelkakgbchbaaBww
import Derived.Deep.DeepCutAuto
import Derived.Deep.DrawnRows
import Derived.Deep.RegionHeld3
namespace Go.Proofs.Ythmelkakgbchbaa
set_option linter.unusedSimpArgs false
set_option linter.unusedVariables false
open Go.RowKit
attribute [local go_sem ↓] Go.wp_at_zero Go.wp_at_succ

/-- the box of a table -/
structure Tbx (t : Tab) (b : Nat) (W : World) : Prop where
  lt : b < W.heap.size
  x0 : W.cell? ⟨b, 0, none⟩ = some (.string t.name)
  x1 : W.cell? ⟨b, 1, none⟩ = some (.slice t.us.a t.us.xs.length t.us.c)
  x2 : W.cell? ⟨b, 2, none⟩ = some (.slice t.vs.a t.vs.xs.length t.vs.c)
  x3 : W.cell? ⟨b, 3, none⟩ = some (.slice t.ra t.rows.length t.rc)
  x4 : W.cell? ⟨b, 4, none⟩ = some (.int .i64 t.side)
  x5 : W.cell? ⟨b, 5, none⟩ = some (.int .i64 t.sky)
theorem Tbx.keep {t : Tab} {b B : Nat} {W W1 : World} (g : Tbx t b W) (k : Below B W W1) (hb : b < B) : Tbx t b W1 := by
  refine ⟨Nat.lt_of_lt_of_le g.lt k.size, ?_, ?_, ?_, ?_, ?_, ?_⟩
  · rw [k.cell (p := ⟨b, 0, none⟩) hb]; exact g.x0
  · rw [k.cell (p := ⟨b, 1, none⟩) hb]; exact g.x1
  · rw [k.cell (p := ⟨b, 2, none⟩) hb]; exact g.x2
  · rw [k.cell (p := ⟨b, 3, none⟩) hb]; exact g.x3
  · rw [k.cell (p := ⟨b, 4, none⟩) hb]; exact g.x4
  · rw [k.cell (p := ⟨b, 5, none⟩) hb]; exact g.x5

set_option maxRecDepth 100000 in
set_option maxHeartbeats 8000000 in
theorem between_good (c : Cat) (n x y h p q : Int) (w : World) (hc : CatIn w.heap.size c w) (p0 : 0 ≤ p) (p1 : p ≤ 255) (q0 : 0 ≤ q) (q1 : q ≤ 255) (hE : ovE c n x x y y h = 0) :
    Calls Try.prog 9 #[.agg #[c.tv, c.lv], .agg #[.int .i64 n, .int .i64 x, .int .i64 y, .int .i64 h], .agg #[.int .u8 p, .int .u8 q]] w fun e w' => e = .returned (.bool true) ∧ Below w.heap.size w w' := by
  have HC := Lib.hid hc
  clear hc
  obtain ⟨eE, okt, kn, hk, h0, h1, ⟨x0, x1⟩, ⟨y0, y1⟩, eLo, eHi⟩ := ov_point hE
  obtain ⟨k, rfl⟩ : ∃ k : Nat, n = (k : Int) := ⟨n.toNat, by omega⟩
  simp only [Int.toNat_natCast] at okt hk eLo eHi
  obtain ⟨f0, hf0⟩ : ∃ z, (rval (tabAt c.tabs k) h (1000 * x) (1000 * y)).1 = z := ⟨_, rfl⟩
  obtain ⟨f1, hf1⟩ : ∃ z, (rval (tabAt c.tabs k) h (1000 * x) (1000 * y)).2 = z := ⟨_, rfl⟩
  rw [hf0] at eLo
  rw [hf1] at eHi
  have n0 := okt.us.n0
  have n1 := okt.us.n1
  have n2 := okt.vs.n0
  have n3 := okt.vs.n1
  obtain ⟨i, hi⟩ : ∃ i, i = p.toNat % (tabAt c.tabs k).us.xs.length := ⟨_, rfl⟩
  obtain ⟨j, hj⟩ : ∃ j, j = q.toNat % (tabAt c.tabs k).vs.xs.length := ⟨_, rfl⟩
  have ilt : i < (tabAt c.tabs k).us.xs.length := by rw [hi]; exact Nat.mod_lt _ (by omega)
  have jlt : j < (tabAt c.tabs k).vs.xs.length := by rw [hj]; exact Nat.mod_lt _ (by omega)
  have AT := ov_at (c := c) (n := (k : Int)) eE (by simpa only [Int.toNat_natCast] using okt) (by simpa only [Int.toNat_natCast] using ilt) (by simpa only [Int.toNat_natCast] using jlt)
  simp only [Int.toNat_natCast] at AT
  have IC := Lib.hid (fun W (g : CatIn W.heap.size c W) => Intensity_any c k x y h W g)
  have IC2 := Lib.hid (fun W (g : CatIn W.heap.size c W) => Intensity_any c k (nth (tabAt c.tabs k).us.xs i) (nth (tabAt c.tabs k).vs.xs j) 1000 W g)
  rw [hE, eLo, eHi] at IC
  rw [AT.1, AT.2.1, AT.2.2] at IC2
  have ARo := Lib.hid (fun (W : World) (hu : IntsIn W.heap.size (tabAt c.tabs k).us.a (tabAt c.tabs k).us.xs W) (hv : IntsIn W.heap.size (tabAt c.tabs k).vs.a (tabAt c.tabs k).vs.xs W) (hr : RowsIn W.heap.size (tabAt c.tabs k).ra (tabAt c.tabs k).rows W) => around_any (tabAt c.tabs k) (1000 * x) (1000 * y) h W okt hu hv hr h0 h1)
  have RV : Hid (insB (tabAt c.tabs k) (1000 * x) (1000 * y) h = false → f0 = 0 ∧ f1 = (tabAt c.tabs k).side) := Lib.hid (fun g => by rw [← hf0, ← hf1]; unfold rval; rw [if_neg (by rw [g]; decide)]; exact ⟨rfl, rfl⟩)
  have HF := Lib.hid (And.intro hf0 hf1)
  have OKT := Lib.hid okt
  have HI := Lib.hid (And.intro hi hj)
  have wx : IntKind.i64.wrap (1000 * x) = 1000 * x := IntWalk.i64_in _ (by omega)
  have wy : IntKind.i64.wrap (1000 * y) = 1000 * y := IntWalk.i64_in _ (by omega)
  clear AT hf0 hf1 okt eE hE eLo eHi hi hj
  unfold Cat.tv Cat.lv at *
  have bw0 : Below w.heap.size w (((w.alloc (.cells #[.slice c.ta c.tabs.length c.tc, .slice c.la c.lamps.length c.lc] 25)).alloc (.cells #[.int .i64 (k : Int), .int .i64 x, .int .i64 y, .int .i64 h] 33)).alloc (.cells #[.int .u8 p, .int .u8 q] 57)) := (((Below.refl _ _).alloc (Nat.le_refl _) _).alloc (by simp) _).alloc (by simp; omega) _
  have ka0 : Kbw c (k : Int) x y h p q w.heap.size (((w.alloc (.cells #[.slice c.ta c.tabs.length c.tc, .slice c.la c.lamps.length c.lc] 25)).alloc (.cells #[.int .i64 (k : Int), .int .i64 x, .int .i64 y, .int .i64 h] 33)).alloc (.cells #[.int .u8 p, .int .u8 q] 57)) := by constructor <;> simp [go_sem]
  have sz0 : w.heap.size + 1 + 1 < (((w.alloc (.cells #[.slice c.ta c.tabs.length c.tc, .slice c.la c.lamps.length c.lc] 25)).alloc (.cells #[.int .i64 (k : Int), .int .i64 x, .int .i64 y, .int .i64 h] 33)).alloc (.cells #[.int .u8 p, .int .u8 q] 57)).heap.size := by simp
  have CI := Lib.hid (fun (W : World) (g : Below w.heap.size w W) => (HC.out.keep g (Nat.le_refl _)).more g.size)
  have BW0 := Lib.hid bw0
  have KA0 := Lib.hid ka0
  have SZ0 := Lib.hid sz0
  clear bw0 ka0 sz0
  go_enter Try.func9, Try.ntmps9
  go_wp2_with fail
  generalize (((w.alloc (.cells #[.slice c.ta c.tabs.length c.tc, .slice c.la c.lamps.length c.lc] 25)).alloc (.cells #[.int .i64 (k : Int), .int .i64 x, .int .i64 y, .int .i64 h] 33)).alloc (.cells #[.int .u8 p, .int .u8 q] 57)) = W0 at *
  refine (IC.out _ (CI.out _ BW0.out)).mono ?_
  rintro e w1 ⟨rfl, o1⟩
  have KA1 := Lib.hid (KA0.out.keep o1 SZ0.out)
  obtain ⟨t0, t1, b0, b1, b2, b3, a0, a1⟩ := KA1.out
  have lt1 : w.heap.size + 1 + 1 < w1.heap.size := Nat.lt_of_lt_of_le SZ0.out o1.size
  have lt1a : w.heap.size < w1.heap.size := by omega
  have lt1b : w.heap.size + 1 < w1.heap.size := by omega
  have ne0 : w.heap.size ≠ w1.heap.size := by omega
  have ne1 : w.heap.size + 1 ≠ w1.heap.size := by omega
  have ne2 : w.heap.size + 1 + 1 ≠ w1.heap.size := by omega
  have BW1 := Lib.hid ((BW0.out.trans (o1.mono BW0.out.size)).alloc (Nat.le_trans BW0.out.size o1.size) (.cells #[.int .i64 f0, .int .i64 f1] 35))
  have KA2 := Lib.hid (KA1.out.keep (below_new w1 (.cells #[.int .i64 f0, .int .i64 f1] 35)) lt1)
  have BA2 := Lib.hid (Bq.fresh w1 f0 f1 35)
  obtain ⟨tb, tto, ha, hb, ht⟩ := tabAt_cells (HC.out.keep BW1.out (Nat.le_refl _)) hk
  have c0 := ht.c0
  have c1 := ht.c1
  have c2 := ht.c2
  have c3 := ht.c3
  have c4 := ht.c4
  have c5 := ht.c5
  unfold Ints.val at c1 c2
  clear ht
  obtain ⟨k0, k1, k2, k3, k4, k5, k6, k7⟩ := KA2.out
  have HA := Lib.hid ha
  rw [ha] at k0
  clear ha
  have s1 : (0 : Int) ≤ (k : Int) := by omega
  have s2 : (k : Int) < (c.tabs.length : Int) := by omega
  have d1 : decide ((k : Int) < 0) = false := decide_eq_false (by omega)
  have d2 : decide ((c.tabs.length : Int) ≤ (k : Int)) = false := decide_eq_false (by omega)
  clear o1 KA1 t0 t1 b0 b1 b2 b3 a0 a1
  go_wp2_with fail
  have TX3 : Hid (Tbx (tabAt c.tabs k) (w1.heap.size + 1) ((w1.alloc (.cells #[.int .i64 f0, .int .i64 f1] 35)).alloc (.cells #[.string (tabAt c.tabs k).name, .slice (tabAt c.tabs k).us.a (tabAt c.tabs k).us.xs.length (tabAt c.tabs k).us.c, .slice (tabAt c.tabs k).vs.a (tabAt c.tabs k).vs.xs.length (tabAt c.tabs k).vs.c, .slice (tabAt c.tabs k).ra (tabAt c.tabs k).rows.length (tabAt c.tabs k).rc, .int .i64 (tabAt c.tabs k).side, .int .i64 (tabAt c.tabs k).sky] 61))) := Lib.hid (by constructor <;> simp [go_sem])
  have sz2 : (w1.alloc (.cells #[.int .i64 f0, .int .i64 f1] 35)).heap.size = w1.heap.size + 1 := by simp
  have BW3 := Lib.hid (BW1.out.alloc (by rw [sz2]; omega) (.cells #[.string (tabAt c.tabs k).name, .slice (tabAt c.tabs k).us.a (tabAt c.tabs k).us.xs.length (tabAt c.tabs k).us.c, .slice (tabAt c.tabs k).vs.a (tabAt c.tabs k).vs.xs.length (tabAt c.tabs k).vs.c, .slice (tabAt c.tabs k).ra (tabAt c.tabs k).rows.length (tabAt c.tabs k).rc, .int .i64 (tabAt c.tabs k).side, .int .i64 (tabAt c.tabs k).sky] 61))
  have KA3 := Lib.hid (KA2.out.keep (below_new (w1.alloc (.cells #[.int .i64 f0, .int .i64 f1] 35)) (.cells #[.string (tabAt c.tabs k).name, .slice (tabAt c.tabs k).us.a (tabAt c.tabs k).us.xs.length (tabAt c.tabs k).us.c, .slice (tabAt c.tabs k).vs.a (tabAt c.tabs k).vs.xs.length (tabAt c.tabs k).vs.c, .slice (tabAt c.tabs k).ra (tabAt c.tabs k).rows.length (tabAt c.tabs k).rc, .int .i64 (tabAt c.tabs k).side, .int .i64 (tabAt c.tabs k).sky] 61)) (by rw [sz2]; omega))
  have BA3 := Lib.hid (BA2.out.keep (below_new (w1.alloc (.cells #[.int .i64 f0, .int .i64 f1] 35)) (.cells #[.string (tabAt c.tabs k).name, .slice (tabAt c.tabs k).us.a (tabAt c.tabs k).us.xs.length (tabAt c.tabs k).us.c, .slice (tabAt c.tabs k).vs.a (tabAt c.tabs k).vs.xs.length (tabAt c.tabs k).vs.c, .slice (tabAt c.tabs k).ra (tabAt c.tabs k).rows.length (tabAt c.tabs k).rc, .int .i64 (tabAt c.tabs k).side, .int .i64 (tabAt c.tabs k).sky] 61)) BA2.out.lt)
  generalize (w1.alloc (.cells #[.int .i64 f0, .int .i64 f1] 35)).alloc (.cells #[.string (tabAt c.tabs k).name, .slice (tabAt c.tabs k).us.a (tabAt c.tabs k).us.xs.length (tabAt c.tabs k).us.c, .slice (tabAt c.tabs k).vs.a (tabAt c.tabs k).vs.xs.length (tabAt c.tabs k).vs.c, .slice (tabAt c.tabs k).ra (tabAt c.tabs k).rows.length (tabAt c.tabs k).rc, .int .i64 (tabAt c.tabs k).side, .int .i64 (tabAt c.tabs k).sky] 61) = W3 at *
  clear KA2 BA2 BW1 sz2 k0 k1 k2 k3 k4 k5 k6 k7 c0 c1 c2 c3 c4 c5 hb
  generalize w1.heap.size = A at *
  have BT3 := tabAt_cells (HC.out.keep BW3.out (Nat.le_refl _)) hk
  obtain ⟨tb3, tt3, ha3, hb3, ht3⟩ := BT3
  have U3 := ht3.us.more BW3.out.size
  have V3 := ht3.vs.more BW3.out.size
  have R3 := ht3.rows.more BW3.out.size
  clear ht3 ha3
  refine (ARo.out _ U3 V3 R3).mono ?_
  clear U3 V3 R3 hb3
  rintro e w4 ⟨⟨lo, hi', is, rfl, Gt, Gf⟩, o4⟩
  rw [HF.out.1, HF.out.2] at Gt
  have KA4 := Lib.hid (KA3.out.keep o4 (by have := TX3.out.lt; omega))
  have BA4 := Lib.hid (BA3.out.keep o4 BA3.out.lt)
  have TX4 := Lib.hid (TX3.out.keep o4 TX3.out.lt)
  have BW4 := Lib.hid (BW3.out.trans (o4.mono BW3.out.size))
  clear KA3 BA3 BW3 o4 TX3
  obtain ⟨u0, u1, u2, u3, _⟩ := BA4.out
  obtain ⟨tlt, m0, m1, m2, m3, m4, m5⟩ := TX4.out
  have hlr := OKT.out.rows
  rw [hlr] at m3
  clear hlr
  obtain ⟨k0, k1, k2, k3, k4, k5, k6, k7⟩ := KA4.out
  have z0 : decide ((tabAt c.tabs k).us.xs.length = 0) = false := decide_eq_false (by omega)
  have z1 : decide ((tabAt c.tabs k).vs.xs.length = 0) = false := decide_eq_false (by omega)
  have z2 : ¬ (tabAt c.tabs k).us.xs.length = 0 := by omega
  have z3 : ¬ (tabAt c.tabs k).vs.xs.length = 0 := by omega
  have ewp : IntKind.i64.wrap p = p := IntWalk.i64_in _ (by omega)
  have ewq : IntKind.i64.wrap q = q := IntWalk.i64_in _ (by omega)
  have z4 : (((tabAt c.tabs k).us.xs.length : Int) == 0) = false := by rw [beq_eq_false_iff_ne]; omega
  have z5 : (((tabAt c.tabs k).vs.xs.length : Int) == 0) = false := by rw [beq_eq_false_iff_ne]; omega
  have ei : p % ((tabAt c.tabs k).us.xs.length : Int) = (i : Int) := by rw [HI.out.1, Int.natCast_emod, Int.toNat_of_nonneg p0]
  have ej : q % ((tabAt c.tabs k).vs.xs.length : Int) = (j : Int) := by rw [HI.out.2, Int.natCast_emod, Int.toNat_of_nonneg q0]
  have si0 : (0 : Int) ≤ (i : Int) := by omega
  have si1 : (i : Int) < ((tabAt c.tabs k).us.xs.length : Int) := by omega
  have sj0 : (0 : Int) ≤ (j : Int) := by omega
  have sj1 : (j : Int) < ((tabAt c.tabs k).vs.xs.length : Int) := by omega
  have s4 : w.heap.size + 1 + 1 < w4.heap.size := by have := BA4.out.lt; omega
  clear k0 k1 k2 k3 k4 k5 ilt jlt
  have ilt : i < (tabAt c.tabs k).us.xs.length := by omega
  have jlt : j < (tabAt c.tabs k).vs.xs.length := by omega
  cases is
  · obtain ⟨g1, g2⟩ := RV.out (Gf rfl)
    clear Gt Gf
    go_wp2_with fail
    go_quiet (fail)
    have OD := ((Own.refl w4.heap.size w4).drewN nq).below
    have KA5 := Lib.hid (KA4.out.keep OD s4)
    have TX5 := Lib.hid (TX4.out.keep OD TX4.out.lt)
    have BW5 := Lib.hid (BW4.out.trans (OD.mono BW4.out.size))
    have s5 : w.heap.size + 1 + 1 < (w4.drewN nq).heap.size := Nat.lt_of_lt_of_le s4 OD.size
    clear u0 u1 u2 u3 m0 m1 m2 m3 m4 m5 k6 k7 KA4 TX4 BW4 BA4 OD s4 tlt
    generalize w4.drewN nq = w5 at *
    obtain ⟨tb5, tt5, ha5, hb5, ht5⟩ := tabAt_cells (HC.out.keep BW5.out (Nat.le_refl _)) hk
    obtain ⟨ub, uo, hua, hub, huc⟩ := ht5.us.2 (by omega)
    obtain ⟨vb, vo, hva, hvb, hvc⟩ := ht5.vs.2 (by omega)
    obtain ⟨rb, ro, hra, hrb, hrc⟩ := ht5.rows.2 (by rw [OKT.out.rows]; omega)
    obtain ⟨r0, r1⟩ := hrc i (by rw [OKT.out.rows]; exact ilt)
    have hrl := OKT.out.row i (by rw [OKT.out.rows]; exact ilt)
    obtain ⟨xb, xo, hxa, hxb, hxc⟩ := r1.2 (by omega)
    unfold Ints.val at r0
    rw [hxa, hrl] at r0
    have cu := huc i ilt
    have cv := hvc j jlt
    have cx := hxc j (by omega)
    have KF := Lib.hid (show ∀ Wz : World, Below w5.heap.size w5 Wz → (Wz.cell? ⟨w.heap.size, 0, none⟩ = some (.slice c.ta c.tabs.length c.tc) ∧ Wz.cell? ⟨w.heap.size, 1, none⟩ = some (.slice c.la c.lamps.length c.lc) ∧ Wz.cell? ⟨w.heap.size + 1, 0, none⟩ = some (.int .i64 (k : Int)) ∧ Wz.cell? ⟨A + 1, 1, none⟩ = some (.slice (some ⟨ub, uo, none⟩) (tabAt c.tabs k).us.xs.length (tabAt c.tabs k).us.c) ∧ Wz.cell? ⟨A + 1, 2, none⟩ = some (.slice (some ⟨vb, vo, none⟩) (tabAt c.tabs k).vs.xs.length (tabAt c.tabs k).vs.c) ∧ Wz.cell? ⟨A + 1, 3, none⟩ = some (.slice (some ⟨rb, ro, none⟩) (tabAt c.tabs k).us.xs.length (tabAt c.tabs k).rc) ∧ Wz.cell? ⟨ub, uo + i, none⟩ = some (.int .i64 (nth (tabAt c.tabs k).us.xs i)) ∧ Wz.cell? ⟨vb, vo + j, none⟩ = some (.int .i64 (nth (tabAt c.tabs k).vs.xs j)) ∧ Wz.cell? ⟨rb, ro + i, none⟩ = some (.slice (some ⟨xb, xo, none⟩) (tabAt c.tabs k).vs.xs.length (rowAt (tabAt c.tabs k).rows i).c) ∧ Wz.cell? ⟨xb, xo + j, none⟩ = some (.int .i64 (tval (tabAt c.tabs k) i j))) from fun Wz hz => by
      have Ka := KA5.out.keep hz s5
      have Tb := TX5.out.keep hz TX5.out.lt
      have ea : ∀ a : Addr, a.block < w.heap.size → Wz.cell? a = w5.cell? a := fun a hp => hz.cell (Nat.lt_of_lt_of_le hp BW5.out.size)
      have e1 := Tb.x1
      have e2 := Tb.x2
      have e3 := Tb.x3
      rw [hua] at e1
      rw [hva] at e2
      rw [hra, OKT.out.rows] at e3
      exact ⟨Ka.t0, Ka.t1, Ka.b0, e1, e2, e3, by rw [ea _ hub]; exact cu, by rw [ea _ hvb]; exact cv, by rw [ea _ hrb]; exact r0, by rw [ea _ hxb]; exact cx⟩)
    have IC3 := Lib.hid (fun (Wz : World) (hz : Below w5.heap.size w5 Wz) => IC2.out Wz (CI.out Wz (BW5.out.trans (hz.mono BW5.out.size))))
    clear ht5 ha5 hb5 hua hub huc hva hvb hvc hra hrb hrc r0 r1 hrl hxa hxb hxc cu cv cx KA5 TX5
    go_upto_region 11 with fail
    (try simp only [ei, ej])
    go_cut [8, 15] (fun s8 s15 wx => s8 = .int .i64 0 ∧ ∃ g : Nat, s15 = .pointer (some ⟨g, 0, none⟩) ∧ Bq g (tval (tabAt c.tabs k) i j) (tval (tabAt c.tabs k) i j) wx ∧ Below w5.heap.size w5 wx)
    case first =>
      go_region_held3 (fun w' => w'.cell? ⟨w.heap.size, 0, none⟩ = some (.slice c.ta c.tabs.length c.tc) ∧ w'.cell? ⟨w.heap.size, 1, none⟩ = some (.slice c.la c.lamps.length c.lc) ∧ w'.cell? ⟨w.heap.size + 1, 0, none⟩ = some (.int .i64 (k : Int)) ∧ w'.cell? ⟨A + 1, 1, none⟩ = some (.slice (some ⟨ub, uo, none⟩) (tabAt c.tabs k).us.xs.length (tabAt c.tabs k).us.c) ∧ w'.cell? ⟨A + 1, 2, none⟩ = some (.slice (some ⟨vb, vo, none⟩) (tabAt c.tabs k).vs.xs.length (tabAt c.tabs k).vs.c) ∧ w'.cell? ⟨A + 1, 3, none⟩ = some (.slice (some ⟨rb, ro, none⟩) (tabAt c.tabs k).us.xs.length (tabAt c.tabs k).rc) ∧ w'.cell? ⟨ub, uo + i, none⟩ = some (.int .i64 (nth (tabAt c.tabs k).us.xs i)) ∧ w'.cell? ⟨vb, vo + j, none⟩ = some (.int .i64 (nth (tabAt c.tabs k).vs.xs j)) ∧ w'.cell? ⟨rb, ro + i, none⟩ = some (.slice (some ⟨xb, xo, none⟩) (tabAt c.tabs k).vs.xs.length (rowAt (tabAt c.tabs k).rows i).c) ∧ w'.cell? ⟨xb, xo + j, none⟩ = some (.int .i64 (tval (tabAt c.tabs k) i j)))
        ((refine KF.out _ ?_; (repeat' (first | (with_reducible exact Below.refl _ _) | (with_reducible refine Below.drew ?_) | (with_reducible refine Below.alloc ?_ ?_ _) | (with_reducible refine Below.setCell ?_ ?_ _) | (with_reducible refine Below.trans ?_ (hbq.mono ?_)))); all_goals (first | (simp; done) | (simp; omega) | omega)))
        (first | (go_at_call 21; (with_reducible refine Calls.mono (IC3.out _ ?_) ?_); (focus ((repeat' (first | (with_reducible exact Below.refl _ _) | (with_reducible refine Below.drew ?_) | (with_reducible refine Below.alloc ?_ ?_ _) | (with_reducible refine Below.setCell ?_ ?_ _) | (with_reducible refine Below.trans ?_ (hbq.mono ?_)))); all_goals (first | (simp; done) | (simp; omega) | omega))); (rintro e wq ⟨rfl, hbq⟩; have hcq := (bcb hbq).1; have hfq := (bcb hbq).2; have hzq := hbq.size; (try simp at hzq); (try have ga1 : w5.heap.size < wq.heap.size := by omega); (try have ga2 : w5.heap.size ≠ wq.heap.size := by omega))))
      all_goals go_wp2_with fail
      all_goals go_meet
      all_goals
        case rel =>
          refine ⟨rfl, _, rfl, ?_, ?_⟩
          · first | exact Bq.fresh _ _ _ _ | exact (Bq.fresh _ _ _ _).drew | exact ((Bq.fresh w5 0 0 35).drew.keep hbq (by simp)).set _ _ | exact ((Bq.fresh w5 0 0 35).keep hbq (by simp)).set _ _ | exact ((Bq.fresh w5.drew 0 0 35).keep hbq (by simp)).set _ _
          · (repeat' (first | (with_reducible exact Below.refl _ _) | (with_reducible refine Below.drew ?_) | (with_reducible refine Below.alloc ?_ ?_ _) | (with_reducible refine Below.setCell ?_ ?_ _) | (with_reducible refine Below.trans ?_ (hbq.mono ?_)))); all_goals (first | (simp; done) | (simp; omega) | omega)
    case rest =>
      obtain ⟨rfl, g, rfl, bg, bw⟩ := hcut
      have BG := Lib.hid bg
      have BWc := Lib.hid (BW5.out.trans (bw.mono BW5.out.size))
      have KG := Lib.hid (show ∀ Wz : World, Below wc.heap.size wc Wz → (Wz.cell? ⟨w.heap.size, 0, none⟩ = some (.slice c.ta c.tabs.length c.tc) ∧ Wz.cell? ⟨w.heap.size, 1, none⟩ = some (.slice c.la c.lamps.length c.lc) ∧ Wz.cell? ⟨w.heap.size + 1, 0, none⟩ = some (.int .i64 (k : Int)) ∧ Wz.cell? ⟨A + 1, 1, none⟩ = some (.slice (some ⟨ub, uo, none⟩) (tabAt c.tabs k).us.xs.length (tabAt c.tabs k).us.c) ∧ Wz.cell? ⟨A + 1, 2, none⟩ = some (.slice (some ⟨vb, vo, none⟩) (tabAt c.tabs k).vs.xs.length (tabAt c.tabs k).vs.c) ∧ Wz.cell? ⟨A + 1, 3, none⟩ = some (.slice (some ⟨rb, ro, none⟩) (tabAt c.tabs k).us.xs.length (tabAt c.tabs k).rc) ∧ Wz.cell? ⟨ub, uo + i, none⟩ = some (.int .i64 (nth (tabAt c.tabs k).us.xs i)) ∧ Wz.cell? ⟨vb, vo + j, none⟩ = some (.int .i64 (nth (tabAt c.tabs k).vs.xs j)) ∧ Wz.cell? ⟨rb, ro + i, none⟩ = some (.slice (some ⟨xb, xo, none⟩) (tabAt c.tabs k).vs.xs.length (rowAt (tabAt c.tabs k).rows i).c) ∧ Wz.cell? ⟨xb, xo + j, none⟩ = some (.int .i64 (tval (tabAt c.tabs k) i j)) ∧ Wz.cell? ⟨g, 0, none⟩ = some (.int .i64 (tval (tabAt c.tabs k) i j)) ∧ Wz.cell? ⟨g, 1, none⟩ = some (.int .i64 (tval (tabAt c.tabs k) i j))) from fun Wz hz => by
        obtain ⟨a1, a2, a3, a4, a5, a6, a7, a8, a9, a10⟩ := KF.out Wz (bw.trans (hz.mono bw.size))
        obtain ⟨z0, z1, _, _, _⟩ := BG.out.keep hz BG.out.lt
        exact ⟨a1, a2, a3, a4, a5, a6, a7, a8, a9, a10, z0, z1⟩)
      obtain ⟨a1, a2, a3, a4, a5, a6, a7, a8, a9, a10, z0', z1'⟩ := KG.out wc (Below.refl _ _)
      have d8 : decide (((tabAt c.tabs k).vs.xs.length : Int) ≤ (j : Int)) = false := decide_eq_false (by omega)
      have d9 : decide ((tabAt c.tabs k).vs.xs.length ≤ j) = false := decide_eq_false (by omega)
      clear bg bw a1 a2 a3 a4 a5 a7 a8 a10 z0' z1' KF IC3
      go_upto_region 14 with fail
      go_region_held3 (fun w' => w'.cell? ⟨w.heap.size, 0, none⟩ = some (.slice c.ta c.tabs.length c.tc) ∧ w'.cell? ⟨w.heap.size, 1, none⟩ = some (.slice c.la c.lamps.length c.lc) ∧ w'.cell? ⟨w.heap.size + 1, 0, none⟩ = some (.int .i64 (k : Int)) ∧ w'.cell? ⟨A + 1, 1, none⟩ = some (.slice (some ⟨ub, uo, none⟩) (tabAt c.tabs k).us.xs.length (tabAt c.tabs k).us.c) ∧ w'.cell? ⟨A + 1, 2, none⟩ = some (.slice (some ⟨vb, vo, none⟩) (tabAt c.tabs k).vs.xs.length (tabAt c.tabs k).vs.c) ∧ w'.cell? ⟨A + 1, 3, none⟩ = some (.slice (some ⟨rb, ro, none⟩) (tabAt c.tabs k).us.xs.length (tabAt c.tabs k).rc) ∧ w'.cell? ⟨ub, uo + i, none⟩ = some (.int .i64 (nth (tabAt c.tabs k).us.xs i)) ∧ w'.cell? ⟨vb, vo + j, none⟩ = some (.int .i64 (nth (tabAt c.tabs k).vs.xs j)) ∧ w'.cell? ⟨rb, ro + i, none⟩ = some (.slice (some ⟨xb, xo, none⟩) (tabAt c.tabs k).vs.xs.length (rowAt (tabAt c.tabs k).rows i).c) ∧ w'.cell? ⟨xb, xo + j, none⟩ = some (.int .i64 (tval (tabAt c.tabs k) i j)) ∧ w'.cell? ⟨g, 0, none⟩ = some (.int .i64 (tval (tabAt c.tabs k) i j)) ∧ w'.cell? ⟨g, 1, none⟩ = some (.int .i64 (tval (tabAt c.tabs k) i j)))
        ((refine KG.out _ ?_; (repeat' (first | (with_reducible exact Below.refl _ _) | (with_reducible refine Below.drew ?_) | (with_reducible refine Below.alloc ?_ ?_ _) | (with_reducible refine Below.setCell ?_ ?_ _) | (with_reducible refine Below.trans ?_ (hbk.mono ?_)))); all_goals (first | (simp; done) | (simp; omega) | omega)))
        (first | (go_at_call 20; (with_reducible refine Calls.mono (awake_any _) ?_); (rintro e wk ⟨rfl, hbk⟩; have hck := (bcb hbk).1; have hfk := (bcb hbk).2; have hzk := hbk.size; (try simp at hzk))))
      all_goals go_wp2_with fail
      all_goals go_ret
      all_goals
        refine ⟨rfl, BWc.out.trans (Below.mono (B := wc.heap.size) ?_ BWc.out.size)⟩
        (repeat' (first | (with_reducible exact Below.refl _ _) | (with_reducible refine Below.drew ?_) | (with_reducible refine Below.alloc ?_ ?_ _) | (with_reducible refine Below.setCell ?_ ?_ _) | (with_reducible refine Below.trans ?_ (hbk.mono ?_)))); all_goals (first | (simp; done) | (simp; omega) | omega)
  · obtain ⟨_, g1, g2, g3⟩ := Gt rfl
    clear Gt Gf
    have d3 : decide (f0 < lo) = false := decide_eq_false (by omega)
    have d4 : decide (hi' < f1) = false := decide_eq_false (by omega)
    have d5 : decide (f1 < f0) = false := decide_eq_false (by omega)
    go_wp2_with fail
    go_quiet (fail)
    have OD := ((Own.refl w4.heap.size w4).drewN nq).below
    have KA5 := Lib.hid (KA4.out.keep OD s4)
    have TX5 := Lib.hid (TX4.out.keep OD TX4.out.lt)
    have BW5 := Lib.hid (BW4.out.trans (OD.mono BW4.out.size))
    have s5 : w.heap.size + 1 + 1 < (w4.drewN nq).heap.size := Nat.lt_of_lt_of_le s4 OD.size
    clear u0 u1 u2 u3 m0 m1 m2 m3 m4 m5 k6 k7 KA4 TX4 BW4 BA4 OD s4 tlt
    generalize w4.drewN nq = w5 at *
    obtain ⟨tb5, tt5, ha5, hb5, ht5⟩ := tabAt_cells (HC.out.keep BW5.out (Nat.le_refl _)) hk
    obtain ⟨ub, uo, hua, hub, huc⟩ := ht5.us.2 (by omega)
    obtain ⟨vb, vo, hva, hvb, hvc⟩ := ht5.vs.2 (by omega)
    obtain ⟨rb, ro, hra, hrb, hrc⟩ := ht5.rows.2 (by rw [OKT.out.rows]; omega)
    obtain ⟨r0, r1⟩ := hrc i (by rw [OKT.out.rows]; exact ilt)
    have hrl := OKT.out.row i (by rw [OKT.out.rows]; exact ilt)
    obtain ⟨xb, xo, hxa, hxb, hxc⟩ := r1.2 (by omega)
    unfold Ints.val at r0
    rw [hxa, hrl] at r0
    have cu := huc i ilt
    have cv := hvc j jlt
    have cx := hxc j (by omega)
    have KF := Lib.hid (show ∀ Wz : World, Below w5.heap.size w5 Wz → (Wz.cell? ⟨w.heap.size, 0, none⟩ = some (.slice c.ta c.tabs.length c.tc) ∧ Wz.cell? ⟨w.heap.size, 1, none⟩ = some (.slice c.la c.lamps.length c.lc) ∧ Wz.cell? ⟨w.heap.size + 1, 0, none⟩ = some (.int .i64 (k : Int)) ∧ Wz.cell? ⟨A + 1, 1, none⟩ = some (.slice (some ⟨ub, uo, none⟩) (tabAt c.tabs k).us.xs.length (tabAt c.tabs k).us.c) ∧ Wz.cell? ⟨A + 1, 2, none⟩ = some (.slice (some ⟨vb, vo, none⟩) (tabAt c.tabs k).vs.xs.length (tabAt c.tabs k).vs.c) ∧ Wz.cell? ⟨A + 1, 3, none⟩ = some (.slice (some ⟨rb, ro, none⟩) (tabAt c.tabs k).us.xs.length (tabAt c.tabs k).rc) ∧ Wz.cell? ⟨ub, uo + i, none⟩ = some (.int .i64 (nth (tabAt c.tabs k).us.xs i)) ∧ Wz.cell? ⟨vb, vo + j, none⟩ = some (.int .i64 (nth (tabAt c.tabs k).vs.xs j)) ∧ Wz.cell? ⟨rb, ro + i, none⟩ = some (.slice (some ⟨xb, xo, none⟩) (tabAt c.tabs k).vs.xs.length (rowAt (tabAt c.tabs k).rows i).c) ∧ Wz.cell? ⟨xb, xo + j, none⟩ = some (.int .i64 (tval (tabAt c.tabs k) i j))) from fun Wz hz => by
      have Ka := KA5.out.keep hz s5
      have Tb := TX5.out.keep hz TX5.out.lt
      have ea : ∀ a : Addr, a.block < w.heap.size → Wz.cell? a = w5.cell? a := fun a hp => hz.cell (Nat.lt_of_lt_of_le hp BW5.out.size)
      have e1 := Tb.x1
      have e2 := Tb.x2
      have e3 := Tb.x3
      rw [hua] at e1
      rw [hva] at e2
      rw [hra, OKT.out.rows] at e3
      exact ⟨Ka.t0, Ka.t1, Ka.b0, e1, e2, e3, by rw [ea _ hub]; exact cu, by rw [ea _ hvb]; exact cv, by rw [ea _ hrb]; exact r0, by rw [ea _ hxb]; exact cx⟩)
    have IC3 := Lib.hid (fun (Wz : World) (hz : Below w5.heap.size w5 Wz) => IC2.out Wz (CI.out Wz (BW5.out.trans (hz.mono BW5.out.size))))
    clear ht5 ha5 hb5 hua hub huc hva hvb hvc hra hrb hrc r0 r1 hrl hxa hxb hxc cu cv cx KA5 TX5
    go_upto_region 11 with fail
    (try simp only [ei, ej])
    go_cut [8, 15] (fun s8 s15 wx => s8 = .int .i64 0 ∧ ∃ g : Nat, s15 = .pointer (some ⟨g, 0, none⟩) ∧ Bq g (tval (tabAt c.tabs k) i j) (tval (tabAt c.tabs k) i j) wx ∧ Below w5.heap.size w5 wx)
    case first =>
      go_region_held3 (fun w' => w'.cell? ⟨w.heap.size, 0, none⟩ = some (.slice c.ta c.tabs.length c.tc) ∧ w'.cell? ⟨w.heap.size, 1, none⟩ = some (.slice c.la c.lamps.length c.lc) ∧ w'.cell? ⟨w.heap.size + 1, 0, none⟩ = some (.int .i64 (k : Int)) ∧ w'.cell? ⟨A + 1, 1, none⟩ = some (.slice (some ⟨ub, uo, none⟩) (tabAt c.tabs k).us.xs.length (tabAt c.tabs k).us.c) ∧ w'.cell? ⟨A + 1, 2, none⟩ = some (.slice (some ⟨vb, vo, none⟩) (tabAt c.tabs k).vs.xs.length (tabAt c.tabs k).vs.c) ∧ w'.cell? ⟨A + 1, 3, none⟩ = some (.slice (some ⟨rb, ro, none⟩) (tabAt c.tabs k).us.xs.length (tabAt c.tabs k).rc) ∧ w'.cell? ⟨ub, uo + i, none⟩ = some (.int .i64 (nth (tabAt c.tabs k).us.xs i)) ∧ w'.cell? ⟨vb, vo + j, none⟩ = some (.int .i64 (nth (tabAt c.tabs k).vs.xs j)) ∧ w'.cell? ⟨rb, ro + i, none⟩ = some (.slice (some ⟨xb, xo, none⟩) (tabAt c.tabs k).vs.xs.length (rowAt (tabAt c.tabs k).rows i).c) ∧ w'.cell? ⟨xb, xo + j, none⟩ = some (.int .i64 (tval (tabAt c.tabs k) i j)))
        ((refine KF.out _ ?_; (repeat' (first | (with_reducible exact Below.refl _ _) | (with_reducible refine Below.drew ?_) | (with_reducible refine Below.alloc ?_ ?_ _) | (with_reducible refine Below.setCell ?_ ?_ _) | (with_reducible refine Below.trans ?_ (hbq.mono ?_)))); all_goals (first | (simp; done) | (simp; omega) | omega)))
        (first | (go_at_call 21; (with_reducible refine Calls.mono (IC3.out _ ?_) ?_); (focus ((repeat' (first | (with_reducible exact Below.refl _ _) | (with_reducible refine Below.drew ?_) | (with_reducible refine Below.alloc ?_ ?_ _) | (with_reducible refine Below.setCell ?_ ?_ _) | (with_reducible refine Below.trans ?_ (hbq.mono ?_)))); all_goals (first | (simp; done) | (simp; omega) | omega))); (rintro e wq ⟨rfl, hbq⟩; have hcq := (bcb hbq).1; have hfq := (bcb hbq).2; have hzq := hbq.size; (try simp at hzq); (try have ga1 : w5.heap.size < wq.heap.size := by omega); (try have ga2 : w5.heap.size ≠ wq.heap.size := by omega))))
      all_goals go_wp2_with fail
      all_goals go_meet
      all_goals
        case rel =>
          refine ⟨rfl, _, rfl, ?_, ?_⟩
          · first | exact Bq.fresh _ _ _ _ | exact (Bq.fresh _ _ _ _).drew | exact ((Bq.fresh w5 0 0 35).drew.keep hbq (by simp)).set _ _ | exact ((Bq.fresh w5 0 0 35).keep hbq (by simp)).set _ _ | exact ((Bq.fresh w5.drew 0 0 35).keep hbq (by simp)).set _ _
          · (repeat' (first | (with_reducible exact Below.refl _ _) | (with_reducible refine Below.drew ?_) | (with_reducible refine Below.alloc ?_ ?_ _) | (with_reducible refine Below.setCell ?_ ?_ _) | (with_reducible refine Below.trans ?_ (hbq.mono ?_)))); all_goals (first | (simp; done) | (simp; omega) | omega)
    case rest =>
      obtain ⟨rfl, g, rfl, bg, bw⟩ := hcut
      have BG := Lib.hid bg
      have BWc := Lib.hid (BW5.out.trans (bw.mono BW5.out.size))
      have KG := Lib.hid (show ∀ Wz : World, Below wc.heap.size wc Wz → (Wz.cell? ⟨w.heap.size, 0, none⟩ = some (.slice c.ta c.tabs.length c.tc) ∧ Wz.cell? ⟨w.heap.size, 1, none⟩ = some (.slice c.la c.lamps.length c.lc) ∧ Wz.cell? ⟨w.heap.size + 1, 0, none⟩ = some (.int .i64 (k : Int)) ∧ Wz.cell? ⟨A + 1, 1, none⟩ = some (.slice (some ⟨ub, uo, none⟩) (tabAt c.tabs k).us.xs.length (tabAt c.tabs k).us.c) ∧ Wz.cell? ⟨A + 1, 2, none⟩ = some (.slice (some ⟨vb, vo, none⟩) (tabAt c.tabs k).vs.xs.length (tabAt c.tabs k).vs.c) ∧ Wz.cell? ⟨A + 1, 3, none⟩ = some (.slice (some ⟨rb, ro, none⟩) (tabAt c.tabs k).us.xs.length (tabAt c.tabs k).rc) ∧ Wz.cell? ⟨ub, uo + i, none⟩ = some (.int .i64 (nth (tabAt c.tabs k).us.xs i)) ∧ Wz.cell? ⟨vb, vo + j, none⟩ = some (.int .i64 (nth (tabAt c.tabs k).vs.xs j)) ∧ Wz.cell? ⟨rb, ro + i, none⟩ = some (.slice (some ⟨xb, xo, none⟩) (tabAt c.tabs k).vs.xs.length (rowAt (tabAt c.tabs k).rows i).c) ∧ Wz.cell? ⟨xb, xo + j, none⟩ = some (.int .i64 (tval (tabAt c.tabs k) i j)) ∧ Wz.cell? ⟨g, 0, none⟩ = some (.int .i64 (tval (tabAt c.tabs k) i j)) ∧ Wz.cell? ⟨g, 1, none⟩ = some (.int .i64 (tval (tabAt c.tabs k) i j))) from fun Wz hz => by
        obtain ⟨a1, a2, a3, a4, a5, a6, a7, a8, a9, a10⟩ := KF.out Wz (bw.trans (hz.mono bw.size))
        obtain ⟨z0, z1, _, _, _⟩ := BG.out.keep hz BG.out.lt
        exact ⟨a1, a2, a3, a4, a5, a6, a7, a8, a9, a10, z0, z1⟩)
      obtain ⟨a1, a2, a3, a4, a5, a6, a7, a8, a9, a10, z0', z1'⟩ := KG.out wc (Below.refl _ _)
      have d8 : decide (((tabAt c.tabs k).vs.xs.length : Int) ≤ (j : Int)) = false := decide_eq_false (by omega)
      have d9 : decide ((tabAt c.tabs k).vs.xs.length ≤ j) = false := decide_eq_false (by omega)
      clear bg bw a1 a2 a3 a4 a5 a7 a8 a10 z0' z1' KF IC3
      go_upto_region 14 with fail
      go_region_held3 (fun w' => w'.cell? ⟨w.heap.size, 0, none⟩ = some (.slice c.ta c.tabs.length c.tc) ∧ w'.cell? ⟨w.heap.size, 1, none⟩ = some (.slice c.la c.lamps.length c.lc) ∧ w'.cell? ⟨w.heap.size + 1, 0, none⟩ = some (.int .i64 (k : Int)) ∧ w'.cell? ⟨A + 1, 1, none⟩ = some (.slice (some ⟨ub, uo, none⟩) (tabAt c.tabs k).us.xs.length (tabAt c.tabs k).us.c) ∧ w'.cell? ⟨A + 1, 2, none⟩ = some (.slice (some ⟨vb, vo, none⟩) (tabAt c.tabs k).vs.xs.length (tabAt c.tabs k).vs.c) ∧ w'.cell? ⟨A + 1, 3, none⟩ = some (.slice (some ⟨rb, ro, none⟩) (tabAt c.tabs k).us.xs.length (tabAt c.tabs k).rc) ∧ w'.cell? ⟨ub, uo + i, none⟩ = some (.int .i64 (nth (tabAt c.tabs k).us.xs i)) ∧ w'.cell? ⟨vb, vo + j, none⟩ = some (.int .i64 (nth (tabAt c.tabs k).vs.xs j)) ∧ w'.cell? ⟨rb, ro + i, none⟩ = some (.slice (some ⟨xb, xo, none⟩) (tabAt c.tabs k).vs.xs.length (rowAt (tabAt c.tabs k).rows i).c) ∧ w'.cell? ⟨xb, xo + j, none⟩ = some (.int .i64 (tval (tabAt c.tabs k) i j)) ∧ w'.cell? ⟨g, 0, none⟩ = some (.int .i64 (tval (tabAt c.tabs k) i j)) ∧ w'.cell? ⟨g, 1, none⟩ = some (.int .i64 (tval (tabAt c.tabs k) i j)))
        ((refine KG.out _ ?_; (repeat' (first | (with_reducible exact Below.refl _ _) | (with_reducible refine Below.drew ?_) | (with_reducible refine Below.alloc ?_ ?_ _) | (with_reducible refine Below.setCell ?_ ?_ _) | (with_reducible refine Below.trans ?_ (hbk.mono ?_)))); all_goals (first | (simp; done) | (simp; omega) | omega)))
        (first | (go_at_call 20; (with_reducible refine Calls.mono (awake_any _) ?_); (rintro e wk ⟨rfl, hbk⟩; have hck := (bcb hbk).1; have hfk := (bcb hbk).2; have hzk := hbk.size; (try simp at hzk))))
      all_goals go_wp2_with fail
      all_goals go_ret
      all_goals
        refine ⟨rfl, BWc.out.trans (Below.mono (B := wc.heap.size) ?_ BWc.out.size)⟩
        (repeat' (first | (with_reducible exact Below.refl _ _) | (with_reducible refine Below.drew ?_) | (with_reducible refine Below.alloc ?_ ?_ _) | (with_reducible refine Below.setCell ?_ ?_ _) | (with_reducible refine Below.trans ?_ (hbk.mono ?_)))); all_goals (first | (simp; done) | (simp; omega) | omega)

theorem lawBetween_any (c : Cat) (n x y h p q : Int) (w : World) (hc : CatIn w.heap.size c w) (p0 : 0 ≤ p) (p1 : p ≤ 255) (q0 : 0 ≤ q) (q1 : q ≤ 255) :
    Calls Try.prog 9 #[.agg #[c.tv, c.lv], .agg #[.int .i64 n, .int .i64 x, .int .i64 y, .int .i64 h], .agg #[.int .u8 p, .int .u8 q]] w fun e w' => e = .returned (.bool true) ∧ Below w.heap.size w w' := by
  by_cases hE : ovE c n x x y y h = 0
  · exact between_good c n x y h p q w hc p0 p1 q0 q1 hE
  · exact between_bad c n x y h p q w hc hE
end Go.Proofs.Ythmelkakgbchbaa
