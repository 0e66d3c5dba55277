/- The reference's sine of an angle up to a right one: its walk. -/
import Derived.Test.YtdikelijnachjaaDoorLst
import Derived.IntWalk
import Derived.BigRegion
import Derived.Deep.LoopGhost
import Derived.Deep.DrawnRows
import Derived.Deep.DeepCutAuto
namespace Go.Proofs.YtdikelijnachjaaDoor
set_option linter.unusedSimpArgs false
set_option linter.unusedVariables false
open Go.RowKit SineNear
attribute [local go_sem ↓] Go.wp_at_zero Go.wp_at_succ


set_option maxHeartbeats 1000000 in
theorem steep_exact (a v : Int) (w : World) (h : (a = 0 ∧ v = 0) ∨ (a = 30000000 ∧ v = 50000000) ∨ (a = 90000000 ∧ v = 100000000)) :
    Calls Tryd.prog 78 #[.int .i64 a] w fun e w' => e = .returned (encl v v) ∧ Own w.heap.size w w' := by
  rcases h with ⟨rfl, rfl⟩ | ⟨rfl, rfl⟩ | ⟨rfl, rfl⟩
  all_goals
    go_enter Tryd.func78, Tryd.ntmps78
    go_wp2_with fail
    refine bodyPost_ret (v := encl _ _) (by simp [results, Tryd.results78, go_sem]) rfl ⟨rfl, ?_⟩
    repeat' (first | exact Own.refl _ _ | exact Nat.le_refl _ | refine Own.setCell ?_ ?_ _ | refine Own.alloc ?_ ?_ _)

theorem w64 (n : Int) (h0 : 0 ≤ n) (h1 : n ≤ 200000001) : wrap64 n = n := by unfold wrap64; omega
theorem shi_b (a : Nat) (h : a ≤ 90000000) : 0 ≤ sHi a ∧ sHi a ≤ 200000001 := by
  have := sHi_bd (a : Int) (by omega) (by omega)
  omega
theorem n_wraps (z0 z1 n : Int) (h0 : 0 ≤ z0 ∧ z0 < 1000000000) (h1 : 0 ≤ z1 ∧ z1 < 1000000000) (hn : 0 ≤ n ∧ n ≤ 200000000) : IntKind.i64.wrap (z0 * 100000000) = z0 * 100000000 ∧ IntKind.i64.wrap (z1 / 10) = z1 / 10 ∧ IntKind.i64.wrap n = n ∧ IntKind.i64.wrap (n + 1) = n + 1 :=
  ⟨IntWalk.i64_in _ (by omega), IntWalk.i64_in _ (by omega), IntWalk.i64_in _ (by omega), IntWalk.i64_in _ (by omega)⟩
theorem den_b (k : Nat) (hk : k < 20) : 0 < 2 * ((k : Int) + 1) * (2 * ((k : Int) + 1) + 1) ∧ 2 * ((k : Int) + 1) * (2 * ((k : Int) + 1) + 1) ≤ 1640 :=
  ⟨Int.mul_pos (by omega) (by omega), by have := Int.mul_le_mul (show 2 * ((k : Int) + 1) ≤ 40 by omega) (show 2 * ((k : Int) + 1) + 1 ≤ 41 by omega) (by omega) (by omega); omega⟩

set_option maxRecDepth 100000 in
set_option maxHeartbeats 8000000 in
theorem steep_open (a : Nat) (w : World) (h0 : 0 < a) (h1 : a < 90000000) (h2 : a ≠ 30000000) :
    Calls Tryd.prog 78 #[.int .i64 a] w fun e w' => e = .returned (encl (sLo a) (sHi a)) ∧ Own w.heap.size w w' := by
  have ha : a ≤ 90000000 := by omega
  have hx := refX_le a ha
  have hq := refQ_le a ha
  have eX : ((refX a : Nat) : Int) = (PI45 : Int) * (a : Int) / 180000000 := by
    show ((PI45 * a / 180000000 : Nat) : Int) = _
    rw [Int.natCast_ediv, Int.natCast_mul]; rfl
  have eQ : ((refQ a : Nat) : Int) = (refX a : Int) * (refX a : Int) / 1000000000000000000000000000000000000000000000 := by
    show ((refX a * refX a / U : Nat) : Int) = _
    rw [Int.natCast_ediv, Int.natCast_mul]; rfl
  have hq3 : ((refQ a : Nat) : Int) ≤ 3000000000000000000000000000000000000000000000 := by
    have : refQ a ≤ 3000000000000000000000000000000000000000000000 := hq
    omega
  obtain ⟨x, CX, nx, vx⟩ := lscaled_any piA a 180000000 pi_nm (by omega) (by omega) (by rw [pi_v, ← eX]; omega)
  rw [pi_v, ← eX] at vx
  obtain ⟨q, CQ, nq, vq⟩ := ltimes_any x x nx nx (by rw [vx, ← eQ]; omega)
  rw [vx, ← eQ] at vq
  have b1 : ((a : Int) == 0) = false := by simp; omega
  have b2 : ((a : Int) == 30000000) = false := by simp; omega
  have b3 : ((a : Int) == 90000000) = false := by simp; omega
  have HX := hidden CX
  have HQ := hidden CQ
  have NX := hidden nx
  have NQ := hidden nq
  have VX := hidden vx
  have VQ := hidden vq
  have EX := hidden eX
  have EQ := hidden eQ
  clear CX CQ nx nq vx vq eX eQ hx hq
  go_enter Tryd.func78, Tryd.ntmps78
  go_wp2_with fail
  refine (pi_any.at _).mono ?_
  rintro e w1 ⟨rfl, hb1⟩
  have br := (Box.fresh w 0 0 23).below hb1.below
  have o1 : Own w.heap.size w w1 := ((Own.refl _ _).alloc (Nat.le_refl _) _).trans (hb1.mono (by simp))
  go_wp2_with fail
  refine (HX.out.at _).mono ?_
  rintro e w2 ⟨rfl, hb2⟩
  have br := br.below hb2.below
  have o2 := o1.trans (hb2.mono o1.size)
  clear hb1 hb2 o1
  go_wp2_with fail
  have bx := Arr.fresh6 w2 x 90
  have br := br.alloc (.cells #[.int .i64 (x 0), .int .i64 (x 1), .int .i64 (x 2), .int .i64 (x 3), .int .i64 (x 4), .int .i64 (x 5)] 90)
  have o2 := o2.alloc (Own.size o2) (.cells #[.int .i64 (x 0), .int .i64 (x 1), .int .i64 (x 2), .int .i64 (x 3), .int .i64 (x 4), .int .i64 (x 5)] 90)
  refine (HQ.out.at _).mono ?_
  rintro e w3 ⟨rfl, hb3⟩
  have bx := bx.below hb3.below
  have br := br.below hb3.below
  have o3 := o2.trans (hb3.mono (Own.size o2))
  have z3 := hb3.size
  simp at z3
  clear hb3 o2
  have z2 := bx.1
  obtain ⟨x0, x1, x2, x3, x4, x5⟩ := bx.six
  go_wp2_with fail
  have bq := Arr.fresh6 w3 q 90
  have br := br.alloc (.cells #[.int .i64 (q 0), .int .i64 (q 1), .int .i64 (q 2), .int .i64 (q 3), .int .i64 (q 4), .int .i64 (q 5)] 90)
  have o3 := o3.alloc (Own.size o3) (.cells #[.int .i64 (q 0), .int .i64 (q 1), .int .i64 (q 2), .int .i64 (q 3), .int .i64 (q 4), .int .i64 (q 5)] 90)
  have bx := bx.alloc (.cells #[.int .i64 (q 0), .int .i64 (q 1), .int .i64 (q 2), .int .i64 (q 3), .int .i64 (q 4), .int .i64 (q 5)] 90)
  clear x0 x1 x2 x3 x4 x5 z2 z3
  obtain ⟨W, hW⟩ : ∃ W, W = w3.alloc (.cells #[.int .i64 (q 0), .int .i64 (q 1), .int .i64 (q 2), .int .i64 (q 3), .int .i64 (q 4), .int .i64 (q 5)] 90) := ⟨_, rfl⟩
  rw [← hW] at bx br bq o3 ⊢
  clear hW
  generalize w3.heap.size = b4 at *
  generalize w2.heap.size = a3 at *
  obtain ⟨x0, x1, x2, x3, x4, x5⟩ := bx.six
  have zx := bx.1
  have z1 : a3 ≤ W.heap.size := by omega
  have z2 : a3 ≤ W.heap.size + 1 := by omega
  have z3 : a3 ≤ W.heap.size + 1 + 1 := by omega
  have z4 : a3 < W.heap.size + 1 := by omega
  have z5 : a3 < W.heap.size + 1 + 1 := by omega
  have z6 : ¬ (a3 = W.heap.size) := by omega
  have z7 : ¬ (a3 = W.heap.size + 1) := by omega
  have z8 : ¬ (a3 = W.heap.size + 1 + 1) := by omega
  go_cut [5, 6, 7] (fun s5 s6 s7 wx => ∃ g5 g6 g7 : Nat, s5 = .pointer (some ⟨g5, 0, none⟩) ∧ s6 = .pointer (some ⟨g6, 0, none⟩) ∧ s7 = .pointer (some ⟨g7, 0, none⟩) ∧ St w w.heap.size b4 g5 g6 g7 q x x (fun _ => 0) wx)
  case first =>
    go_region
    all_goals go_wp2_with fail
    all_goals go_meet
    all_goals
      case rel =>
        have zb := bq.1
        have zr := br.2.2.2.2
        refine ⟨_, _, _, rfl, rfl, rfl, ⟨?_, ?_, ?_, ?_, ?_, ?_, ?_, ?_, ?_⟩⟩
        · (repeat' (first | (with_reducible exact br) | (with_reducible refine Box.alloc ?_ _) | (with_reducible refine Box.drew ?_)))
        · (repeat' (first | (with_reducible exact bq) | (with_reducible refine Arr.alloc ?_ _) | (with_reducible refine Arr.drew ?_)))
        · (repeat' (first | ((with_reducible refine Arr.fresh6At ?_ _ _); focus (simp; done)) | (with_reducible refine Arr.alloc ?_ _) | (with_reducible refine Arr.drew ?_)))
        · (repeat' (first | ((with_reducible refine Arr.fresh6At ?_ (fun _ => 0) _); focus (simp; done)) | (with_reducible refine Arr.alloc ?_ _) | (with_reducible refine Arr.drew ?_)))
        · (repeat' (first | ((with_reducible refine Arr.fresh6At ?_ _ _); focus (simp; done)) | (with_reducible refine Arr.alloc ?_ _) | (with_reducible refine Arr.drew ?_)))
        · ((repeat' (first | (with_reducible exact o3) | (with_reducible refine Own.drew ?_) | (with_reducible refine Own.alloc ?_ ?_ _))); all_goals (first | omega | (simp; omega)))
        · exact ⟨by omega, by omega, by omega, by omega, by omega, by omega⟩
        · exact ⟨by omega, by omega, by omega⟩
        · exact ⟨by omega, by omega, by omega, by omega⟩
  case rest =>
    obtain ⟨g5, g6, g7, rfl, rfl, rfl, hS⟩ := hcut
    clear bx br bq o3 x0 x1 x2 x3 x4 x5 zx z1 z2 z3 z4 z5 z6 z7 z8 b1 b2 b3
    go_wp2_with fail
    go_loopg [8] 20 (fun n k' wr => ∃ (k : Nat) (t u d : Nat → Int), k ≤ 20 ∧ n = 20 - k ∧ k' = .int .i64 ((k : Int) + 1) ∧ St w w.heap.size b4 g5 g6 g7 q t u d wr ∧ Nm t ∧ Nm u ∧ Nm d ∧ V6 t = (tT (refQ a) (refX a) k : Int) ∧ V6 u = (upS (refQ a) (refX a) k : Int) ∧ V6 d = (dnS (refQ a) (refX a) k : Int))
    case atStart => exact ⟨0, x, x, fun _ => 0, by omega, by omega, rfl, hS, NX.out, NX.out, fun j _ => ⟨Int.le_refl 0, by show (0:Int) < _; omega⟩, VX.out, VX.out, by show V6 (fun _ => 0) = ((0 : Nat) : Int); decide +kernel⟩
    case round =>
      obtain ⟨k, t, u, d, hk, hn, rfl, S0, nt, nu, nd, vt, vu, vd⟩ := hrel
      obtain ⟨⟨n25, n26, n27, n45, n46, n47⟩, ⟨n56, n57, n67⟩, _⟩ := And.intro S0.n1 (And.intro S0.n2 trivial)
      by_cases hlt : k < 20
      · have sb := sum_b a k ha (by omega)
        have sb1 := sum_b a (k+1) ha (by omega)
        have db := den_b k hlt
        have pm := Int.mul_le_mul sb.t hq3 (Int.natCast_nonneg _) (by omega)
        obtain ⟨m, CM, nm, vm⟩ := ltimes_any t q nt NQ.out (by rw [vt, VQ.out]; generalize (tT (refQ a) (refX a) k : Int) * ((refQ a : Nat) : Int) = p at *; omega)
        rw [vt, VQ.out] at vm
        have ct := cast_term (tT (refQ a) (refX a) k) (refQ a) (k+1) (by omega)
        rw [show ((k + 1 : Nat) : Int) = (k : Int) + 1 by omega, ← vm] at ct
        have ct' : (tT (refQ a) (refX a) (k+1) : Int) = V6 m * 1 / (2 * ((k : Int) + 1) * (2 * ((k : Int) + 1) + 1)) := ct
        obtain ⟨t', CT, nt', vt'⟩ := lscaled_any m 1 (2 * ((k : Int) + 1) * (2 * ((k : Int) + 1) + 1)) nm (by omega) (by omega) (by rw [← ct']; have := sb1.t; omega)
        rw [← ct'] at vt'
        have w1 : IntKind.i64.wrap (2 * ((k : Int) + 1)) = 2 * ((k : Int) + 1) := IntWalk.i64_in _ (by omega)
        have w2 : IntKind.i64.wrap (2 * ((k : Int) + 1) + 1) = 2 * ((k : Int) + 1) + 1 := IntWalk.i64_in _ (by omega)
        have w3 : IntKind.i64.wrap (2 * ((k : Int) + 1) * (2 * ((k : Int) + 1) + 1)) = 2 * ((k : Int) + 1) * (2 * ((k : Int) + 1) + 1) := IntWalk.i64_in _ (by omega)
        have CM' := hidden CM
        have CT' := hidden CT
        have B0 := hidden (And.intro nt' (And.intro vt' (And.intro nu (And.intro nd (And.intro vu (And.intro vd (And.intro sb sb1)))))))
        clear CM CT nt nu nd vt vu vd nm vm ct ct' sb sb1 db pm nt' vt'
        obtain ⟨c0, c1, c2, c3, c4, c5⟩ := S0.t.six
        obtain ⟨e0, e1, e2, e3, e4, e5⟩ := S0.q.six
        have hle : (k : Int) + 1 ≤ 20 := by omega
        go_wp2_with fail
        refine (CM'.out.at _).mono ?_
        rintro e wa ⟨rfl, hba⟩
        have S1 := S0.call hba
        clear S0 hba c0 c1 c2 c3 c4 c5 e0 e1 e2 e3 e4 e5
        go_wp2_with fail
        refine (CT'.out.at _).mono ?_
        rintro e wb ⟨rfl, hbb⟩
        have S2 := S1.call hbb
        clear S1 hbb
        obtain ⟨c0, c1, c2, c3, c4, c5⟩ := S2.t.six
        obtain ⟨f0, f1, f2, f3, f4, f5⟩ := S2.t.six_f
        obtain ⟨u0, u1, u2, u3, u4, u5⟩ := S2.u.six
        obtain ⟨d0, d1, d2, d3, d4, d5⟩ := S2.d.six
        have m57 := Ne.symm n57
        have m67 := Ne.symm n67
        have m56 := Ne.symm n56
        by_cases hp : (k + 1) % 2 = 0
        · have pt : ((k : Int) + 1).tmod 2 = 0 := by rw [Int.tmod_eq_emod_of_nonneg (by omega)]; omega
          obtain ⟨nt', vt', nu, nd, vu, vd, sb, sb1⟩ := B0.out
          obtain ⟨u', CU, nu', vu'⟩ := lplus_any u t' nu nt' (by rw [vu, vt']; have := sb.u; have := sb1.t; omega)
          have CU' := hidden CU
          have B1 := hidden (And.intro nu' vu')
          clear nt' vt' nu nd vu vd sb sb1 CU nu' vu'
          go_wp2_with fail
          refine (CU'.out.at _).mono ?_
          rintro e wd ⟨rfl, hbd⟩
          have S4 := (S2.setT t').call hbd
          clear S2 hbd c0 c1 c2 c3 c4 c5 f0 f1 f2 f3 f4 f5 u0 u1 u2 u3 u4 u5 d0 d1 d2 d3 d4 d5
          obtain ⟨c0, c1, c2, c3, c4, c5⟩ := S4.u.six
          obtain ⟨f0, f1, f2, f3, f4, f5⟩ := S4.u.six_f
          go_wp2_with fail
          go_roundg (20 - (k + 1))
          case measure => omega
          case rel =>
            obtain ⟨nt', vt', nu, nd, vu, vd, sb, sb1⟩ := B0.out
            obtain ⟨nu', vu'⟩ := B1.out
            refine ⟨k + 1, t', u', d, by omega, rfl, by go_num, S4.setU u', nt', nu', nd, vt', ?_, ?_⟩
            · rw [vu', vu, vt', show upS (refQ a) (refX a) (k+1) = upS (refQ a) (refX a) k + tT (refQ a) (refX a) (k+1) from if_pos hp]; omega
            · rw [vd, show dnS (refQ a) (refX a) (k+1) = dnS (refQ a) (refX a) k from if_pos hp]
        · have pt : ((k : Int) + 1).tmod 2 = 1 := by rw [Int.tmod_eq_emod_of_nonneg (by omega)]; omega
          obtain ⟨nt', vt', nu, nd, vu, vd, sb, sb1⟩ := B0.out
          obtain ⟨u', CU, nu', vu'⟩ := lplus_any d t' nd nt' (by rw [vd, vt']; have := sb.d; have := sb1.t; omega)
          have CU' := hidden CU
          have B1 := hidden (And.intro nu' vu')
          clear nt' vt' nu nd vu vd sb sb1 CU nu' vu'
          go_wp2_with fail
          refine (CU'.out.at _).mono ?_
          rintro e wd ⟨rfl, hbd⟩
          have S4 := (S2.setT t').call hbd
          clear S2 hbd c0 c1 c2 c3 c4 c5 f0 f1 f2 f3 f4 f5 u0 u1 u2 u3 u4 u5 d0 d1 d2 d3 d4 d5
          obtain ⟨c0, c1, c2, c3, c4, c5⟩ := S4.d.six
          obtain ⟨f0, f1, f2, f3, f4, f5⟩ := S4.d.six_f
          go_wp2_with fail
          go_roundg (20 - (k + 1))
          case measure => omega
          case rel =>
            obtain ⟨nt', vt', nu, nd, vu, vd, sb, sb1⟩ := B0.out
            obtain ⟨nu', vu'⟩ := B1.out
            refine ⟨k + 1, t', u, u', by omega, rfl, by go_num, S4.setD u', nt', nu, nu', vt', ?_, ?_⟩
            · rw [vu, show upS (refQ a) (refX a) (k+1) = upS (refQ a) (refX a) k from if_neg hp]
            · rw [vu', vd, vt', show dnS (refQ a) (refX a) (k+1) = dnS (refQ a) (refX a) k + tT (refQ a) (refX a) (k+1) from if_neg hp]; omega
      · obtain rfl : k = 20 := by omega
        have ul := ud_last a ha
        obtain ⟨z, CZ, nz, vz⟩ := lminus_any u d nu nd (by rw [vu, vd]; omega)
        have vs : V6 z = (refS a : Int) := by rw [vz, vu, vd, refS_is]; omega
        have en := n_ref a z nz vs
        obtain ⟨l1, l2⟩ := s_open a h0 h1 h2
        rw [← l1] at en l2
        have sb := (sin_up (a : Int) (by omega) (by omega))
        have bd := sLo_bd (a : Int) (by omega) (by omega)
        have z0 := nz 0 (by omega)
        have z1 := nz 1 (by omega)
        have w1 := (n_wraps (z 0) (z 1) (sLo a) z0 z1 bd).1
        have w2 : (z 1).tdiv 10 = z 1 / 10 := Int.tdiv_eq_ediv_of_nonneg z1.1
        obtain ⟨_, w3, w4, w5⟩ := n_wraps (z 0) (z 1) (sLo a) z0 z1 bd
        have w5 : IntKind.i64.wrap (sLo a + 1) = sHi a := w5.trans l2.symm
        have w7 : sLo a + 1 = sHi a := l2.symm
        have w8 : wrap64 (sHi a) = sHi a := w64 _ (shi_b a ha).1 (shi_b a ha).2
        have w6 : z 0 * 100000000 + z 1 / 10 = sLo a := en
        have CZ' := hidden CZ
        clear CZ nu nd vu vd nz vz vs en l1 l2 sb bd z0 z1 ul
        obtain ⟨u0, u1, u2, u3, u4, u5⟩ := S0.u.six
        obtain ⟨d0, d1, d2, d3, d4, d5⟩ := S0.d.six
        go_wp2_with fail
        refine (CZ'.out.at _).mono ?_
        rintro e wm ⟨rfl, hbm⟩
        have S1 := S0.call hbm
        clear S0 hbm u0 u1 u2 u3 u4 u5 d0 d1 d2 d3 d4 d5
        obtain ⟨r0, r1, r2, r3, r4⟩ := S1.r
        have so := S1.own
        have so2 := so.size
        go_wp2_with fail
        refine bodyPost_ret (v := encl (sLo a) (sHi a)) (by simp [results, Tryd.results78, go_sem, r0, r1, r2, r3, r4, w7, w8]) rfl ⟨rfl, ?_⟩
        exact ((so.put (Nat.le_refl _) _).put (Nat.le_refl _) _).alloc (by simpa using so2) _

theorem steep_any (a : Int) (w : World) (h0 : 0 ≤ a) (h1 : a ≤ 90000000) :
    Calls Tryd.prog 78 #[.int .i64 a] w fun e w' => e = .returned (encl (sLo a) (sHi a)) ∧ Own w.heap.size w w' := by
  by_cases c : a = 0 ∨ a = 30000000 ∨ a = 90000000
  · rcases c with rfl | rfl | rfl
    · rw [s_0.1, s_0.2]; exact steep_exact 0 0 w (by omega)
    · rw [s_30.1, s_30.2]; exact steep_exact 30000000 50000000 w (by omega)
    · rw [s_90.1, s_90.2]; exact steep_exact 90000000 100000000 w (by omega)
  · obtain ⟨n, rfl⟩ : ∃ n : Nat, a = n := ⟨a.toNat, by omega⟩
    exact steep_open n w (by omega) (by omega) (by omega)
end Go.Proofs.YtdikelijnachjaaDoor
