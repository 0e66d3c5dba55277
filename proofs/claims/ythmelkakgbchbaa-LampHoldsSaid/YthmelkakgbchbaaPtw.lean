/- The walk of LampParts. -/
import Derived.Test.YthmelkakgbchbaaPtm
import Derived.Test.YthmelkakgbchbaaAwk
import Derived.RegionTactic
import Derived.Deep.DeepCutAuto
namespace Go.Proofs.Ythmelkakgbchbaa
set_option linter.unusedSimpArgs false
set_option linter.unusedVariables false
open Go.RowKit
attribute [local go_sem ↓] Go.wp_at_zero Go.wp_at_succ

/-- the box of a rectangle -/
structure Rq (b : Nat) (x0 x1 y0 y1 : Int) (W : World) : Prop where
  c0 : W.cell? ⟨b, 0, none⟩ = some (.int .i64 x0)
  c1 : W.cell? ⟨b, 1, none⟩ = some (.int .i64 x1)
  c2 : W.cell? ⟨b, 2, none⟩ = some (.int .i64 y0)
  c3 : W.cell? ⟨b, 3, none⟩ = some (.int .i64 y1)
  f0 : W.frozen? ⟨b, 0, none⟩ = false
  f1 : W.frozen? ⟨b, 1, none⟩ = false
  f2 : W.frozen? ⟨b, 2, none⟩ = false
  f3 : W.frozen? ⟨b, 3, none⟩ = false
  lt : b < W.heap.size
theorem Rq.keep {b B : Nat} {x0 x1 y0 y1 : Int} {W W1 : World} (g : Rq b x0 x1 y0 y1 W) (k : Below B W W1) (hb : b < B) : Rq b x0 x1 y0 y1 W1 :=
  ⟨by rw [k.cell (p := ⟨b, 0, none⟩) hb]; exact g.c0, by rw [k.cell (p := ⟨b, 1, none⟩) hb]; exact g.c1, by rw [k.cell (p := ⟨b, 2, none⟩) hb]; exact g.c2, by rw [k.cell (p := ⟨b, 3, none⟩) hb]; exact g.c3,
   by rw [k.frozen (p := ⟨b, 0, none⟩) hb]; exact g.f0, by rw [k.frozen (p := ⟨b, 1, none⟩) hb]; exact g.f1, by rw [k.frozen (p := ⟨b, 2, none⟩) hb]; exact g.f2, by rw [k.frozen (p := ⟨b, 3, none⟩) hb]; exact g.f3, Nat.lt_of_lt_of_le g.lt k.size⟩

theorem Rq.drew {b : Nat} {x0 x1 y0 y1 : Int} {W : World} (g : Rq b x0 x1 y0 y1 W) : Rq b x0 x1 y0 y1 W.drew := ⟨g.c0, g.c1, g.c2, g.c3, g.f0, g.f1, g.f2, g.f3, g.lt⟩
theorem Rq.put {b : Nat} {u v s t : Int} {W : World} (g : Rq b u v s t W) (x0 x1 y0 y1 : Int) : Rq b x0 x1 y0 y1 ((((W.setCell ⟨b, 0, none⟩ (.int .i64 x0)).setCell ⟨b, 1, none⟩ (.int .i64 x1)).setCell ⟨b, 2, none⟩ (.int .i64 y0)).setCell ⟨b, 3, none⟩ (.int .i64 y1)) := by
  obtain ⟨c0, c1, c2, c3, f0, f1, f2, f3, lt⟩ := g
  constructor <;> simp [go_sem, c0, c1, c2, c3, f0, f1, f2, f3, lt]
theorem Rq.past {b d : Nat} {x0 x1 y0 y1 : Int} {W : World} (g : Rq b x0 x1 y0 y1 W) (hd : b ≠ d) (p q r s : Value) : Rq b x0 x1 y0 y1 ((((W.setCell ⟨d, 0, none⟩ p).setCell ⟨d, 1, none⟩ q).setCell ⟨d, 2, none⟩ r).setCell ⟨d, 3, none⟩ s) := by
  obtain ⟨c0, c1, c2, c3, f0, f1, f2, f3, lt⟩ := g
  have hd' : d ≠ b := Ne.symm hd
  constructor <;> simp [go_sem, c0, c1, c2, c3, f0, f1, f2, f3, lt, hd, hd']

/-- the boxes of the argument and of its catalogue -/
structure Kpx (c : Cat) (x0 x1 y0 y1 h : Int) (s g : Nat) (W : World) : Prop where
  a3 : W.cell? ⟨s, 3, none⟩ = some (.int .i64 x0)
  a4 : W.cell? ⟨s, 4, none⟩ = some (.int .i64 x1)
  a5 : W.cell? ⟨s, 5, none⟩ = some (.int .i64 y0)
  a6 : W.cell? ⟨s, 6, none⟩ = some (.int .i64 y1)
  a7 : W.cell? ⟨s, 7, none⟩ = some (.int .i64 h)
  t0 : W.cell? ⟨g, 0, none⟩ = some (.slice c.ta c.tabs.length c.tc)
  t1 : W.cell? ⟨g, 1, none⟩ = some (.slice c.la c.lamps.length c.lc)
  ls : s < W.heap.size
  lg : g < W.heap.size
theorem Kpx.keep {c : Cat} {x0 x1 y0 y1 h : Int} {s g B : Nat} {W W1 : World} (k : Kpx c x0 x1 y0 y1 h s g W) (b : Below B W W1) (hs : s < B) (hg : g < B) : Kpx c x0 x1 y0 y1 h s g W1 :=
  ⟨by rw [b.cell (p := ⟨s, 3, none⟩) hs]; exact k.a3, by rw [b.cell (p := ⟨s, 4, none⟩) hs]; exact k.a4, by rw [b.cell (p := ⟨s, 5, none⟩) hs]; exact k.a5, by rw [b.cell (p := ⟨s, 6, none⟩) hs]; exact k.a6, by rw [b.cell (p := ⟨s, 7, none⟩) hs]; exact k.a7,
   by rw [b.cell (p := ⟨g, 0, none⟩) hg]; exact k.t0, by rw [b.cell (p := ⟨g, 1, none⟩) hg]; exact k.t1, Nat.lt_of_lt_of_le k.ls b.size, Nat.lt_of_lt_of_le k.lg b.size⟩

set_option maxRecDepth 100000 in
set_option maxHeartbeats 3000000 in
theorem parts_x (c : Cat) (n x0 x1 y0 y1 h k : Int) (w : World) (hc : CatIn w.heap.size c w) (k0 : 0 ≤ k) (k1 : k ≤ 255) (hk : k % 2 ≠ 1) (hE : ovE c n x0 x1 y0 y1 h = 0) :
    Calls Try.prog 11 #[.agg #[c.tv, c.lv, .int .i64 n, .int .i64 x0, .int .i64 x1, .int .i64 y0, .int .i64 y1, .int .i64 h], .int .u8 k] w fun e w' => e = .returned (.bool true) ∧ Below w.heap.size w w' := by
  have HC := Lib.hid hc
  clear hc
  have OK := ov_ok hE
  obtain ⟨m, hm⟩ : ∃ m, x0 + (x1 - x0) * k / 255 = m := ⟨_, rfl⟩
  obtain ⟨mx, hmx⟩ : ∃ mx, x0 + (x1 - x0) * k / 255 = mx := ⟨_, rfl⟩
  obtain rfl : m = mx := by rw [← hm, ← hmx]
  have X0 := OK.gx0; have X1 := OK.gx01; have X2 := OK.gx1; have Y0 := OK.gy0; have Y1 := OK.gy01; have Y2 := OK.gy1
  obtain ⟨ex, ex0, ex1, px0, px1⟩ := at255 X1 k0 k1
  obtain ⟨ey, ey0, ey1, py0, py1⟩ := at255 Y1 k0 k1
  have M0 : x0 ≤ m := by rw [← hm]; omega
  have M1 : m ≤ x1 := by rw [← hm]; omega
  have PA := OK.part (a0 := x0) (a1 := m) (b0 := y0) (b1 := y1) (by omega) (by omega) (by omega) (by omega) (by omega) (by omega)
  have PB := OK.part (a0 := m) (a1 := x1) (b0 := y0) (b1 := y1) (by omega) (by omega) (by omega) (by omega) (by omega) (by omega)
  have PI := OK.part (a0 := m) (a1 := m) (b0 := y1) (b1 := y1) (by omega) (by omega) (by omega) (by omega) (by omega) (by omega)
  have PH := OK.halfX M0 M1
  have BD := OK.bd
  have OV := Lib.hid (fun W (g : CatIn W.heap.size c W) => Over_any c n x0 x1 y0 y1 h W g)
  have VA := Lib.hid (fun W (g : CatIn W.heap.size c W) => Over_any c n x0 m y0 y1 h W g)
  have VB := Lib.hid (fun W (g : CatIn W.heap.size c W) => Over_any c n m x1 y0 y1 h W g)
  have VI := Lib.hid (fun W (g : CatIn W.heap.size c W) => Intensity_any c n m y1 h W g)
  rw [hE] at OV
  rw [PA.1] at VA
  rw [PB.1] at VB
  rw [PI.1] at VI
  generalize ovLo c n x0 x1 y0 y1 h = f0 at *
  generalize ovHi c n x0 x1 y0 y1 h = f1 at *
  generalize ovLo c n x0 m y0 y1 h = p0 at *
  generalize ovHi c n x0 m y0 y1 h = p1 at *
  generalize ovLo c n m x1 y0 y1 h = q0 at *
  generalize ovHi c n m x1 y0 y1 h = q1 at *
  generalize ovLo c n m m y1 y1 h = i0 at *
  generalize ovHi c n m m y1 y1 h = i1 at *
  obtain ⟨-, pa0, pa1⟩ := PA
  obtain ⟨-, pb0, pb1⟩ := PB
  obtain ⟨-, pi0, pi1⟩ := PI
  have NP := Lib.hid (near_yes pa0 pa1 BD.1 (by omega) (by omega) (by omega))
  have NQ := Lib.hid (near_yes pb0 pb1 BD.1 (by omega) (by omega) (by omega))
  have NI := Lib.hid (near_yes pi0 pi1 BD.1 (by omega) (by omega) (by omega))
  have D0 : decide (min p0 q0 ≤ f0) = true := decide_eq_true PH.1
  have D1 : decide (f1 ≤ max p1 q1) = true := decide_eq_true PH.2
  have wk : IntKind.i64.wrap k = k := IntWalk.i64_in _ (by omega)
  have vw0 : IntKind.i64.wrap (x1 - x0) = x1 - x0 := IntWalk.i64_in _ (by omega)
  have vw1 : IntKind.i64.wrap ((x1 - x0) * k) = (x1 - x0) * k := IntWalk.i64_in _ (by omega)
  have vw2 : IntKind.i64.wrap ((x1 - x0) * k / 255) = (x1 - x0) * k / 255 := IntWalk.i64_in _ (by omega)
  have vw3 : IntKind.i64.wrap (x0 + (x1 - x0) * k / 255) = m := by rw [← hm]; exact IntWalk.i64_in _ (by omega)
  have vw4 : IntKind.i64.wrap (y1 - y0) = y1 - y0 := IntWalk.i64_in _ (by omega)
  have vw5 : IntKind.i64.wrap ((y1 - y0) * k) = (y1 - y0) * k := IntWalk.i64_in _ (by omega)
  have vw6 : IntKind.i64.wrap ((y1 - y0) * k / 255) = (y1 - y0) * k / 255 := IntWalk.i64_in _ (by omega)
  have vw7 : IntKind.i64.wrap (y0 + (y1 - y0) * k / 255) = y0 + (y1 - y0) * k / 255 := by exact IntWalk.i64_in _ (by omega)
  have pm : (k % 2 == 1) = false := by rw [beq_eq_false_iff_ne]; exact hk
  have tm : k.tmod 2 = k % 2 := Int.tmod_eq_emod_of_nonneg k0
  have wm : IntKind.u8.wrap (k % 2) = k % 2 := IntWalk.u8_in _ (by omega)
  have HM := Lib.hid hm
  clear hmx hm
  clear PH BD OK hE X0 X1 X2 Y0 Y1 Y2 ex0 ex1 px0 px1 ey0 ey1 py0 py1 M0 M1 pa0 pa1 pb0 pb1 pi0 pi1
  unfold Cat.tv Cat.lv at *
  have bw0 : Below w.heap.size w (w.alloc (.cells #[.slice c.ta c.tabs.length c.tc, .slice c.la c.lamps.length c.lc, .int .i64 n, .int .i64 x0, .int .i64 x1, .int .i64 y0, .int .i64 y1, .int .i64 h] 66)) := below_new w _
  have CI := Lib.hid (fun (W : World) (g : Below w.heap.size w W) => (HC.out.keep g (Nat.le_refl _)).more g.size)
  have BW0 := Lib.hid bw0
  have a0 : (w.alloc (.cells #[.slice c.ta c.tabs.length c.tc, .slice c.la c.lamps.length c.lc, .int .i64 n, .int .i64 x0, .int .i64 x1, .int .i64 y0, .int .i64 y1, .int .i64 h] 66)).cell? ⟨w.heap.size, 0, none⟩ = some (.slice c.ta c.tabs.length c.tc) := by simp [go_sem]
  have a1 : (w.alloc (.cells #[.slice c.ta c.tabs.length c.tc, .slice c.la c.lamps.length c.lc, .int .i64 n, .int .i64 x0, .int .i64 x1, .int .i64 y0, .int .i64 y1, .int .i64 h] 66)).cell? ⟨w.heap.size, 1, none⟩ = some (.slice c.la c.lamps.length c.lc) := by simp [go_sem]
  have a2 : (w.alloc (.cells #[.slice c.ta c.tabs.length c.tc, .slice c.la c.lamps.length c.lc, .int .i64 n, .int .i64 x0, .int .i64 x1, .int .i64 y0, .int .i64 y1, .int .i64 h] 66)).cell? ⟨w.heap.size, 2, none⟩ = some (.int .i64 n) := by simp [go_sem]
  have a3 : (w.alloc (.cells #[.slice c.ta c.tabs.length c.tc, .slice c.la c.lamps.length c.lc, .int .i64 n, .int .i64 x0, .int .i64 x1, .int .i64 y0, .int .i64 y1, .int .i64 h] 66)).cell? ⟨w.heap.size, 3, none⟩ = some (.int .i64 x0) := by simp [go_sem]
  have a4 : (w.alloc (.cells #[.slice c.ta c.tabs.length c.tc, .slice c.la c.lamps.length c.lc, .int .i64 n, .int .i64 x0, .int .i64 x1, .int .i64 y0, .int .i64 y1, .int .i64 h] 66)).cell? ⟨w.heap.size, 4, none⟩ = some (.int .i64 x1) := by simp [go_sem]
  have a5 : (w.alloc (.cells #[.slice c.ta c.tabs.length c.tc, .slice c.la c.lamps.length c.lc, .int .i64 n, .int .i64 x0, .int .i64 x1, .int .i64 y0, .int .i64 y1, .int .i64 h] 66)).cell? ⟨w.heap.size, 5, none⟩ = some (.int .i64 y0) := by simp [go_sem]
  have a6 : (w.alloc (.cells #[.slice c.ta c.tabs.length c.tc, .slice c.la c.lamps.length c.lc, .int .i64 n, .int .i64 x0, .int .i64 x1, .int .i64 y0, .int .i64 y1, .int .i64 h] 66)).cell? ⟨w.heap.size, 6, none⟩ = some (.int .i64 y1) := by simp [go_sem]
  have a7 : (w.alloc (.cells #[.slice c.ta c.tabs.length c.tc, .slice c.la c.lamps.length c.lc, .int .i64 n, .int .i64 x0, .int .i64 x1, .int .i64 y0, .int .i64 y1, .int .i64 h] 66)).cell? ⟨w.heap.size, 7, none⟩ = some (.int .i64 h) := by simp [go_sem]
  have ls : w.heap.size < (w.alloc (.cells #[.slice c.ta c.tabs.length c.tc, .slice c.la c.lamps.length c.lc, .int .i64 n, .int .i64 x0, .int .i64 x1, .int .i64 y0, .int .i64 y1, .int .i64 h] 66)).heap.size := by simp
  clear bw0
  go_enter Try.func11, Try.ntmps11
  go_wp2_with fail
  generalize w.alloc (.cells #[.slice c.ta c.tabs.length c.tc, .slice c.la c.lamps.length c.lc, .int .i64 n, .int .i64 x0, .int .i64 x1, .int .i64 y0, .int .i64 y1, .int .i64 h] 66) = W0 at *
  have lne : w.heap.size ≠ W0.heap.size := by omega
  go_upto_region 1 with fail
  go_cut [5, 6] (fun s5 s6 wx => ∃ g : Nat, s5 = .pointer (some ⟨g, 0, none⟩) ∧ s6 = .int .i64 n ∧ Kpx c x0 x1 y0 y1 h w.heap.size g wx ∧ Below W0.heap.size W0 wx)
  case first =>
    go_region
    all_goals go_wp2_with fail
    all_goals go_meet
    all_goals
      case rel =>
        refine ⟨_, rfl, rfl, ?_, ?_⟩
        · constructor <;> simp [go_sem, a0, a1, a2, a3, a4, a5, a6, a7, lne, ls] <;> omega
        · (repeat' (first | exact Below.refl _ _ | refine Below.drew ?_ | refine Below.alloc ?_ ?_ _ | refine Below.setCell ?_ ?_ _)) <;> simp
  case rest =>
    obtain ⟨g, rfl, rfl, KX, bx⟩ := hcut
    have BW1 := Lib.hid (BW0.out.trans (bx.mono BW0.out.size))
    have KX1 := Lib.hid KX
    obtain ⟨a3, a4, a5, a6, a7, t0, t1, ls, lg⟩ := KX
    clear bx a0 a1 a2
    go_wp2_with fail
    refine (OV.out _ (CI.out _ BW1.out)).mono ?_
    rintro e w1 ⟨rfl, o1⟩
    have KX2 := KX1.out.keep o1 ls lg
    have lt1 : w.heap.size < w1.heap.size := KX2.ls
    have lt2 : g < w1.heap.size := KX2.lg
    have ne1 : w.heap.size ≠ w1.heap.size := by omega
    have ne2 : g ≠ w1.heap.size := by omega
    have BW2 := Lib.hid ((BW1.out.trans (o1.mono BW1.out.size)).alloc (Nat.le_trans BW1.out.size o1.size) (.cells #[.int .i64 f0, .int .i64 f1] 35))
    have KX3 := KX2.keep (below_new w1 (.cells #[.int .i64 f0, .int .i64 f1] 35)) KX2.ls KX2.lg
    have BO3 := Bq.fresh w1 f0 f1 35
    have KX3h := Lib.hid KX3
    have BO3h := Lib.hid BO3
    clear o1 KX1 KX2 a3 a4 a5 a6 a7 t0 t1 ls lg KX3 BO3
    obtain ⟨a3, a4, a5, a6, a7, t0, t1, ls, lg⟩ := KX3h.out
    go_wp2_with fail
    generalize w1.alloc (.cells #[.int .i64 f0, .int .i64 f1] 35) = W2 at *
    generalize w1.heap.size = O at *
    have lo2 : O < W2.heap.size := BO3h.out.lt
    have ne3 : w.heap.size ≠ W2.heap.size := by omega
    have ne4 : g ≠ W2.heap.size := by omega
    have ne5 : O ≠ W2.heap.size := by omega
    have ne6 : w.heap.size ≠ W2.heap.size + 1 := by omega
    have ne7 : g ≠ W2.heap.size + 1 := by omega
    have ne8 : O ≠ W2.heap.size + 1 := by omega
    have lx1 : w.heap.size < W2.heap.size + 1 := by omega
    go_upto_region 5 with fail
    go_cut [9, 10] (fun s9 s10 wx => ∃ A B : Nat, s9 = .pointer (some ⟨A, 0, none⟩) ∧ s10 = .pointer (some ⟨B, 0, none⟩) ∧ A ≠ B ∧ W2.heap.size ≤ A ∧ W2.heap.size ≤ B ∧ Rq A x0 x1 y0 y1 wx ∧ Rq B x0 x1 y0 y1 wx ∧ Below W2.heap.size W2 wx)
    case first =>
      clear KX3h BO3h
      go_region
      all_goals go_wp2_with fail
      all_goals go_meet
      all_goals
        case rel =>
          refine ⟨_, _, rfl, rfl, ?_, ?_, ?_, ?_, ?_, ?_⟩
          · simp
          · simp
          · simp
          · constructor <;> simp [go_sem, a3, a4, a5, a6]
          · constructor <;> simp [go_sem, a3, a4, a5, a6]
          · (repeat' (first | exact Below.refl _ _ | refine Below.drew ?_ | refine Below.alloc ?_ ?_ _ | refine Below.setCell ?_ ?_ _)) <;> simp
    case rest =>
      obtain ⟨A, B, rfl, rfl, ab, wA, wB, ra, rb, bx⟩ := hcut
      have ba := Ne.symm ab
      have nA1 : w.heap.size ≠ A := by omega
      have nA2 : g ≠ A := by omega
      have nA3 : O ≠ A := by omega
      have nB1 : w.heap.size ≠ B := by omega
      have nB2 : g ≠ B := by omega
      have nB3 : O ≠ B := by omega
      have BWc := Lib.hid (BW2.out.trans (bx.mono BW2.out.size))
      have KXc := Lib.hid (KX3h.out.keep bx ls lg)
      have BOc := Lib.hid (BO3h.out.keep bx lo2)
      have s2 : w.heap.size ≤ W2.heap.size := by omega
      have HL := Lib.hid (And.intro ls (And.intro lg lo2))
      clear bx a3 a4 a5 a6 a7 t0 t1 ls lg KX3h BO3h BW2 lt1 lt2 ne1 ne2 ne3 ne4 ne5 ne6 ne7 ne8 lx1 lo2
      obtain ⟨a3, a4, a5, a6, a7, t0, t1, ls, lg⟩ := KXc.out
      obtain ⟨ra0, ra1, ra2, ra3, rf0, rf1, rf2, rf3, lA⟩ := ra
      obtain ⟨rb0, rb1, rb2, rb3, rg0, rg1, rg2, rg3, lB⟩ := rb
      have sA : w.heap.size ≤ A := by omega
      have sB : w.heap.size ≤ B := by omega
      have BW4 : Hid (Below w.heap.size w ((wc.setCell ⟨A, 1, none⟩ (.int .i64 m)).setCell ⟨B, 0, none⟩ (.int .i64 m))) := Lib.hid ((BWc.out.setCell (p := ⟨A, 1, none⟩) sA _).setCell (p := ⟨B, 0, none⟩) sB _)
      have KX4 : Hid (Kpx c x0 x1 y0 y1 h w.heap.size g ((wc.setCell ⟨A, 1, none⟩ (.int .i64 m)).setCell ⟨B, 0, none⟩ (.int .i64 m))) := Lib.hid (by constructor <;> simp [go_sem, a3, a4, a5, a6, a7, t0, t1, ls, lg, nA1, nA2, nB1, nB2, Ne.symm nA1, Ne.symm nA2, Ne.symm nB1, Ne.symm nB2])
      have BO4 : Hid (Bq O f0 f1 ((wc.setCell ⟨A, 1, none⟩ (.int .i64 m)).setCell ⟨B, 0, none⟩ (.int .i64 m))) := Lib.hid (by
        obtain ⟨z0, z1, z2, z3, z4⟩ := BOc.out
        constructor <;> simp [go_sem, z0, z1, z2, z3, z4, nA3, nB3, Ne.symm nA3, Ne.symm nB3])
      have RA4 : Hid (Rq A x0 m y0 y1 ((wc.setCell ⟨A, 1, none⟩ (.int .i64 m)).setCell ⟨B, 0, none⟩ (.int .i64 m))) := Lib.hid (by constructor <;> simp [go_sem, ra0, ra1, ra2, ra3, rf0, rf1, rf2, rf3, lA, ab, ba])
      have RB4 : Hid (Rq B m x1 y0 y1 ((wc.setCell ⟨A, 1, none⟩ (.int .i64 m)).setCell ⟨B, 0, none⟩ (.int .i64 m))) := Lib.hid (by constructor <;> simp [go_sem, rb0, rb1, rb2, rb3, rg0, rg1, rg2, rg3, lB, ab, ba])
      clear BWc KXc BOc
      go_wp2_with fail
      generalize (wc.setCell ⟨A, 1, none⟩ (.int .i64 m)).setCell ⟨B, 0, none⟩ (.int .i64 m) = W4 at *
      clear ra0 ra1 ra2 ra3 rf0 rf1 rf2 rf3 rb0 rb1 rb2 rb3 rg0 rg1 rg2 rg3 lA lB a3 a4 a5 a6 a7 t0 t1 ls lg
      with_reducible refine Calls.mono (VA.out _ (CI.out _ BW4.out)) ?_
      rintro e w5 ⟨rfl, o5⟩
      have KX5a := KX4.out.keep o5 KX4.out.ls KX4.out.lg
      have BO5a := BO4.out.keep o5 BO4.out.lt
      have RA5a := RA4.out.keep o5 RA4.out.lt
      have RB5a := RB4.out.keep o5 RB4.out.lt
      have BW5 := Lib.hid ((BW4.out.trans (o5.mono BW4.out.size)).alloc (Nat.le_trans BW4.out.size o5.size) (.cells #[.int .i64 p0, .int .i64 p1] 35))
      have KX5 := Lib.hid (KX5a.keep (below_new w5 (.cells #[.int .i64 p0, .int .i64 p1] 35)) KX5a.ls KX5a.lg)
      have BO5 := Lib.hid (BO5a.keep (below_new w5 (.cells #[.int .i64 p0, .int .i64 p1] 35)) BO5a.lt)
      have RA5 := Lib.hid (RA5a.keep (below_new w5 (.cells #[.int .i64 p0, .int .i64 p1] 35)) RA5a.lt)
      have RB5 := Lib.hid (RB5a.keep (below_new w5 (.cells #[.int .i64 p0, .int .i64 p1] 35)) RB5a.lt)
      have BP5 := Lib.hid (Bq.fresh w5 p0 p1 35)
      obtain ⟨a3, a4, a5, a6, a7, t0, t1, ls, lg⟩ := KX5a
      obtain ⟨ra0, ra1, ra2, ra3, rf0, rf1, rf2, rf3, lA⟩ := RA5a
      obtain ⟨rb0, rb1, rb2, rb3, rg0, rg1, rg2, rg3, lB⟩ := RB5a
      have l0 : O < w5.heap.size := BO5a.lt
      have x1 : w.heap.size ≠ w5.heap.size := by omega
      have x2 : g ≠ w5.heap.size := by omega
      have x3 : A ≠ w5.heap.size := by omega
      have x4 : B ≠ w5.heap.size := by omega
      clear KX4 BO4 RA4 RB4 BW4 o5 BO5a
      go_wp2_with fail
      generalize w5.alloc (.cells #[.int .i64 p0, .int .i64 p1] 35) = W5 at *
      generalize w5.heap.size = P at *
      clear a3 a4 a5 a6 a7 t0 t1 ls lg l0 x1 x2 x3 ra0 ra1 ra2 ra3 rf0 rf1 rf2 rf3 lA rb0 rb1 rb2 rb3 rg0 rg1 rg2 rg3 lB x4
      with_reducible refine Calls.mono (VB.out _ (CI.out _ BW5.out)) ?_
      rintro e w6 ⟨rfl, o6⟩
      have KX6a := KX5.out.keep o6 KX5.out.ls KX5.out.lg
      have BO6a := BO5.out.keep o6 BO5.out.lt
      have RA6a := RA5.out.keep o6 RA5.out.lt
      have BP6a := BP5.out.keep o6 BP5.out.lt
      have RB6a := RB5.out.keep o6 RB5.out.lt
      have BW6 := Lib.hid ((BW5.out.trans (o6.mono BW5.out.size)).alloc (Nat.le_trans BW5.out.size o6.size) (.cells #[.int .i64 q0, .int .i64 q1] 35))
      have KX6 := Lib.hid (KX6a.keep (below_new w6 (.cells #[.int .i64 q0, .int .i64 q1] 35)) KX6a.ls KX6a.lg)
      have BO6 := Lib.hid (BO6a.keep (below_new w6 (.cells #[.int .i64 q0, .int .i64 q1] 35)) BO6a.lt)
      have RA6 := Lib.hid (RA6a.keep (below_new w6 (.cells #[.int .i64 q0, .int .i64 q1] 35)) RA6a.lt)
      have BP6 := Lib.hid (BP6a.keep (below_new w6 (.cells #[.int .i64 q0, .int .i64 q1] 35)) BP6a.lt)
      have RB6 := Lib.hid (RB6a.keep (below_new w6 (.cells #[.int .i64 q0, .int .i64 q1] 35)) RB6a.lt)
      have BQ6 := Lib.hid (Bq.fresh w6 q0 q1 35)
      obtain ⟨a3, a4, a5, a6, a7, t0, t1, ls, lg⟩ := KX6a
      obtain ⟨ra0, ra1, ra2, ra3, rf0, rf1, rf2, rf3, lA⟩ := RA6a
      obtain ⟨rb0, rb1, rb2, rb3, rg0, rg1, rg2, rg3, lB⟩ := RB6a
      have l0 : O < w6.heap.size := BO6a.lt
      have l1 : P < w6.heap.size := BP6a.lt
      have x1 : w.heap.size ≠ w6.heap.size := by omega
      have x2 : g ≠ w6.heap.size := by omega
      have x3 : A ≠ w6.heap.size := by omega
      have x4 : B ≠ w6.heap.size := by omega
      clear KX5 BO5 RA5 BP5 RB5 BW5 o6 BO6a BP6a
      go_wp2_with fail
      generalize w6.alloc (.cells #[.int .i64 q0, .int .i64 q1] 35) = W6 at *
      generalize w6.heap.size = Q at *
      clear a3 a4 a5 a6 a7 t0 t1 ls lg l0 x1 x2 x3 ra0 ra1 ra2 ra3 rf0 rf1 rf2 rf3 lA rb0 rb1 rb2 rb3 rg0 rg1 rg2 rg3 lB x4 l1
      with_reducible refine Calls.mono (VI.out _ (CI.out _ BW6.out)) ?_
      rintro e w7 ⟨rfl, o7⟩
      have KX7a := KX6.out.keep o7 KX6.out.ls KX6.out.lg
      have BO7a := BO6.out.keep o7 BO6.out.lt
      have RA7a := RA6.out.keep o7 RA6.out.lt
      have BP7a := BP6.out.keep o7 BP6.out.lt
      have BQ7a := BQ6.out.keep o7 BQ6.out.lt
      have BW7 := Lib.hid ((BW6.out.trans (o7.mono BW6.out.size)).alloc (Nat.le_trans BW6.out.size o7.size) (.cells #[.int .i64 i0, .int .i64 i1] 35))
      have KX7 := Lib.hid (KX7a.keep (below_new w7 (.cells #[.int .i64 i0, .int .i64 i1] 35)) KX7a.ls KX7a.lg)
      have BO7 := Lib.hid (BO7a.keep (below_new w7 (.cells #[.int .i64 i0, .int .i64 i1] 35)) BO7a.lt)
      have RA7 := Lib.hid (RA7a.keep (below_new w7 (.cells #[.int .i64 i0, .int .i64 i1] 35)) RA7a.lt)
      have BP7 := Lib.hid (BP7a.keep (below_new w7 (.cells #[.int .i64 i0, .int .i64 i1] 35)) BP7a.lt)
      have BQ7 := Lib.hid (BQ7a.keep (below_new w7 (.cells #[.int .i64 i0, .int .i64 i1] 35)) BQ7a.lt)
      have BI7 := Lib.hid (Bq.fresh w7 i0 i1 35)
      obtain ⟨a3, a4, a5, a6, a7, t0, t1, ls, lg⟩ := KX7a
      obtain ⟨ra0, ra1, ra2, ra3, rf0, rf1, rf2, rf3, lA⟩ := RA7a
      have l0 : O < w7.heap.size := BO7a.lt
      have l1 : P < w7.heap.size := BP7a.lt
      have l2 : Q < w7.heap.size := BQ7a.lt
      have x1 : w.heap.size ≠ w7.heap.size := by omega
      have x2 : g ≠ w7.heap.size := by omega
      have x3 : A ≠ w7.heap.size := by omega
      clear KX6 BO6 RA6 BP6 BQ6 BW6 o7
      obtain ⟨b0, b1, _, _, _⟩ := BO7a
      obtain ⟨d0, d1, _, _, _⟩ := BP7a
      obtain ⟨e0, e1, _, _, _⟩ := BQ7a
      have y0 : O ≠ w7.heap.size := by omega
      have y1 : P ≠ w7.heap.size := by omega
      have y2 : Q ≠ w7.heap.size := by omega
      go_wp2_with fail
      generalize w7.alloc (.cells #[.int .i64 i0, .int .i64 i1] 35) = W7 at *
      generalize w7.heap.size = I at *
      clear a3 a4 a5 a6 a7 t0 t1 ls lg l0 x1 x2 x3 ra0 ra1 ra2 ra3 rf0 rf1 rf2 rf3 lA l1 l2 b0 b1 d0 d1 e0 e1 y0 y1 y2
      with_reducible refine Calls.mono (NP.out _) ?_
      rintro e w8 ⟨rfl, o8⟩
      have BO8 := Lib.hid (BO7.out.keep o8 BO7.out.lt)
      have BP8 := Lib.hid (BP7.out.keep o8 BP7.out.lt)
      have BQ8 := Lib.hid (BQ7.out.keep o8 BQ7.out.lt)
      have BI8 := Lib.hid (BI7.out.keep o8 BI7.out.lt)
      have BW8 := Lib.hid (BW7.out.trans (o8.mono BW7.out.size))
      obtain ⟨b0, b1, _, _, _⟩ := BO8.out
      obtain ⟨d0, d1, _, _, _⟩ := BP8.out
      obtain ⟨e0, e1, _, _, _⟩ := BQ8.out
      obtain ⟨j0, j1, _, _, _⟩ := BI8.out
      clear BO7 BP7 BQ7 BI7 BW7 o8
      go_wp2_with fail
      clear b0 b1 d0 d1 e0 e1 j0 j1
      with_reducible refine Calls.mono (NQ.out _) ?_
      rintro e w9 ⟨rfl, o9⟩
      have BO9 := Lib.hid (BO8.out.keep o9 BO8.out.lt)
      have BP9 := Lib.hid (BP8.out.keep o9 BP8.out.lt)
      have BQ9 := Lib.hid (BQ8.out.keep o9 BQ8.out.lt)
      have BI9 := Lib.hid (BI8.out.keep o9 BI8.out.lt)
      have BW9 := Lib.hid (BW8.out.trans (o9.mono BW8.out.size))
      obtain ⟨b0, b1, _, _, _⟩ := BO9.out
      obtain ⟨d0, d1, _, _, _⟩ := BP9.out
      obtain ⟨e0, e1, _, _, _⟩ := BQ9.out
      obtain ⟨j0, j1, _, _, _⟩ := BI9.out
      clear BO8 BP8 BQ8 BI8 BW8 o9
      go_wp2_with fail
      clear b0 b1 d0 d1 e0 e1 j0 j1
      with_reducible refine Calls.mono (NI.out _) ?_
      rintro e v0 ⟨rfl, o10⟩
      have BO10 := Lib.hid (BO9.out.keep o10 BO9.out.lt)
      have BP10 := Lib.hid (BP9.out.keep o10 BP9.out.lt)
      have BQ10 := Lib.hid (BQ9.out.keep o10 BQ9.out.lt)
      have BI10 := Lib.hid (BI9.out.keep o10 BI9.out.lt)
      have BW10 := Lib.hid (BW9.out.trans (o10.mono BW9.out.size))
      obtain ⟨b0, b1, _, _, _⟩ := BO10.out
      obtain ⟨d0, d1, _, _, _⟩ := BP10.out
      obtain ⟨e0, e1, _, _, _⟩ := BQ10.out
      obtain ⟨j0, j1, _, _, _⟩ := BI10.out
      clear BO9 BP9 BQ9 BI9 BW9 o10
      go_wp2_with fail
      clear b0 b1 d0 d1 e0 e1 j0 j1
      refine (awake_any _).mono ?_
      rintro e v1 ⟨rfl, bz⟩
      go_wp2_with fail
      go_ret
      exact ⟨rfl, BW10.out.trans (bz.mono BW10.out.size)⟩

end Go.Proofs.Ythmelkakgbchbaa
