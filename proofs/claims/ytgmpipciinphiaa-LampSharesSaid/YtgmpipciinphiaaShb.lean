/- Share of the code: a part of what is between two tangents, and what it adds. -/
import Derived.Test.YtgmpipciinphiaaSha
import Derived.StillTailTactics
import Derived.Deep.QuietTactic
import Derived.BigQuiet
namespace Go.Proofs.Ytgmpipciinphiaa
set_option linter.unusedSimpArgs false
set_option linter.unusedVariables false
open Go.RowKit
attribute [local go_sem ↓] Go.wp_at_zero Go.wp_at_succ

theorem Bq.below {b : Nat} {x y : Int} {W W1 : World} (k : Bq b x y W) (o : Below W.heap.size W W1) : Bq b x y W1 := k.keep o k.lt
theorem Bq.alloc {b : Nat} {x y : Int} {W : World} (k : Bq b x y W) (o : Obj) : Bq b x y (W.alloc o) := k.below (below_new W o)
theorem Bq.freshAt {b : Nat} {W : World} (hb : b = W.heap.size) (x y : Int) (t : TypeId) : Bq b x y (W.alloc (.cells #[.int .i64 x, .int .i64 y] t)) := by rw [hb]; exact Bq.fresh W x y t

set_option maxRecDepth 100000 in
set_option maxHeartbeats 2000000 in
theorem partOf_any (A : Option Addr) (c : Nat) (us : List Int) (i a s : Nat) (w : World) (hu : IntsIn w.heap.size A us w) (ok : ListOk us) (hi : i + 1 < us.length) (hs : 0 < s) (hs4 : s ≤ 4) (ha : a < s) :
    Calls Try.prog 90 #[.slice A us.length c, .int .i64 i, .int .i64 a, .int .i64 s] w fun e w' => e = .returned (.agg #[.int .i64 (cutU us i s a), .int .i64 (cutU us i s (a + 1))]) ∧ Own w.heap.size w w' := by
  have n1 := ok.n1
  obtain ⟨b, o, rfl, hb, hc⟩ := hu.2 (by omega)
  have c0 := hc i (by omega)
  have c1 := hc (i + 1) hi
  have p0 := ok.lo i (by omega)
  have p1 := ok.hi i (by omega)
  have p2 := ok.lo (i + 1) hi
  have p3 := ok.hi (i + 1) hi
  have p4 := ok.up i hi
  have HC0 : Hid (cutU us i s a = nth us i + (nth us (i + 1) - nth us i) * a / s) := rfl
  have HC1 : Hid (cutU us i s (a + 1) = nth us i + (nth us (i + 1) - nth us i) * ((a : Int) + 1) / s) := by show _ = _; unfold cutU; rw [show ((a + 1 : Nat) : Int) = (a : Int) + 1 by omega]
  generalize nth us i = x at *
  generalize nth us (i + 1) = y at *
  obtain ⟨d, hd⟩ : ∃ d, y - x = d := ⟨_, rfl⟩
  have wd : IntKind.i64.wrap (y - x) = d := by rw [← hd]; exact IntWalk.i64_in _ (by omega)
  rw [hd] at HC0 HC1
  have q0 := Int.mul_nonneg (show 0 ≤ d by omega) (show 0 ≤ (a : Int) by omega)
  have q1 := Int.mul_le_mul_of_nonneg_left (show (a : Int) ≤ 4 by omega) (show 0 ≤ d by omega)
  have q2 := Int.mul_nonneg (show 0 ≤ d by omega) (show 0 ≤ (a : Int) + 1 by omega)
  have q3 := Int.mul_le_mul_of_nonneg_left (show (a : Int) + 1 ≤ 5 by omega) (show 0 ≤ d by omega)
  have e1 : IntKind.i64.wrap ((i : Int) + 1) = ((i + 1 : Nat) : Int) := by rw [IntWalk.i64_in _ (by omega)]; omega
  have e2 : (((i + 1 : Nat) : Int)).toNat = i + 1 := by omega
  have e3 : (0 : Int) ≤ ((i + 1 : Nat) : Int) := by omega
  have e4 : ((i + 1 : Nat) : Int) < (us.length : Int) := by omega
  have e5 : (i : Int) < (us.length : Int) := by omega
  have e6 : (0 : Int) ≤ (i : Int) := by omega
  have f1 : IntKind.i64.wrap (d * (a : Int)) = d * (a : Int) := IntWalk.i64_in _ (by omega)
  have f2 : IntKind.i64.wrap ((a : Int) + 1) = (a : Int) + 1 := IntWalk.i64_in _ (by omega)
  have f3 : IntKind.i64.wrap (d * ((a : Int) + 1)) = d * ((a : Int) + 1) := IntWalk.i64_in _ (by omega)
  have t1 : (d * (a : Int)).tdiv (s : Int) = d * (a : Int) / (s : Int) := Int.tdiv_eq_ediv_of_nonneg q0
  have t2 : (d * ((a : Int) + 1)).tdiv (s : Int) = d * ((a : Int) + 1) / (s : Int) := Int.tdiv_eq_ediv_of_nonneg q2
  have r1 := Int.ediv_nonneg q0 (show 0 ≤ (s : Int) by omega)
  have r2 := Int.ediv_nonneg q2 (show 0 ≤ (s : Int) by omega)
  have r3 := Int.ediv_le_self (s : Int) q0
  have r4 := Int.ediv_le_self (s : Int) q2
  have g1 : IntKind.i64.wrap (d * (a : Int) / (s : Int)) = d * (a : Int) / (s : Int) := IntWalk.i64_in _ (by omega)
  have g2 : IntKind.i64.wrap (d * ((a : Int) + 1) / (s : Int)) = d * ((a : Int) + 1) / (s : Int) := IntWalk.i64_in _ (by omega)
  have g3 : IntKind.i64.wrap (x + d * (a : Int) / (s : Int)) = x + d * (a : Int) / (s : Int) := IntWalk.i64_in _ (by omega)
  have g4 : IntKind.i64.wrap (x + d * ((a : Int) + 1) / (s : Int)) = x + d * ((a : Int) + 1) / (s : Int) := IntWalk.i64_in _ (by omega)
  have z0 : ((s : Int) == 0) = false := by rw [beq_eq_false_iff_ne]; omega
  have z1 : ¬ (s : Int) = 0 := by omega
  have z2 : ¬ s = 0 := by omega
  have hne : b ≠ w.heap.size := by omega
  have own0 : Own w.heap.size w (w.alloc (.cells #[.int .i64 0, .int .i64 0] 115)) := (Own.refl _ _).alloc (Nat.le_refl _) _
  clear hc hu ok q0 q1 q2 q3 r1 r2 r3 r4 p0 p1 p2 p3 p4
  have HD := Lib.hid hd
  clear hd
  go_enter Try.func90, Try.ntmps90
  go_wp2_with fail
  go_quiet (fail)
  go_wp2_with fail
  have OW1 := Lib.hid (own0.drewN nq)
  have BZ1 : Hid (Bq w.heap.size 0 0 ((w.alloc (.cells #[.int .i64 0, .int .i64 0] 115)).drewN nq)) := Lib.hid ((Bq.fresh w 0 0 115).below ((Own.refl _ _).drewN nq).below)
  generalize (w.alloc (.cells #[.int .i64 0, .int .i64 0] 115)).drewN nq = W1 at *
  go_still_tail 16, (by kernel_rfl)
  repeat still_step
  (try refine wpStill_nil ?_)
  have OW2 := Lib.hid OW1.out.drew
  have BZ2 := Lib.hid BZ1.out.drew
  change wpList _ _ _ _ _ W1.drew
  generalize W1.drew = W2 at *
  obtain ⟨b0, b1, b2, b3, b4⟩ := BZ2.out
  go_wp2_with fail
  refine bodyPost_ret (v := .agg #[.int .i64 (x + d * (a : Int) / (s : Int)), .int .i64 (x + d * ((a : Int) + 1) / (s : Int))]) (by simp [results, Try.results90, go_sem, b0, b1]) rfl ⟨by rw [HC0.out, HC1.out], ?_⟩
  exact (OW2.out.setCell (p := ⟨w.heap.size, 0, none⟩) (Nat.le_refl _) _).setCell (p := ⟨w.heap.size, 1, none⟩) (Nat.le_refl _) _

theorem field0 (l h : Int) (w : World) : (Instr.field 35 (encl l h) 0).run Try.prog w = .ok (.int .i64 l) w := by kernel_rfl
theorem field1 (l h : Int) (w : World) : (Instr.field 35 (encl l h) 1).run Try.prog w = .ok (.int .i64 h) w := by kernel_rfl

set_option maxRecDepth 100000 in
set_option maxHeartbeats 4000000 in
theorem partShare_any (m M u0 u1 v0 v1 : Int) (w : World) (hu : Part u0 u1) (hv : Part v0 v1) (m0 : 0 ≤ m) (hm : m ≤ M) (m1 : M ≤ 10000000) :
    Calls Try.prog 91 #[.agg #[.int .i64 m, .int .i64 M], .agg #[.int .i64 u0, .int .i64 u1], .agg #[.int .i64 v0, .int .i64 v1]] w fun e w' => e = .returned (.agg #[.int .i64 (shLo m u0 u1 v0 v1), .int .i64 (shHi M u0 u1 v0 v1)]) ∧ Below w.heap.size w w' := by
  have HL : Hid (shLo m u0 u1 v0 v1 = m * ((u1 - u0) * (v1 - v0) * 1000) / (rtU (qF u0 u1 v0 v1) * rtU (qF u0 u1 v0 v1) * rtU (qF u0 u1 v0 v1))) := rfl
  have HH : Hid (shHi M u0 u1 v0 v1 = upD (M * ((u1 - u0) * (v1 - v0) * 1000)) (rt (qN u0 u1 v0 v1) * rt (qN u0 u1 v0 v1) * rt (qN u0 u1 v0 v1))) := rfl
  have lu := hu.lo; have eu := hu.le; have hu' := hu.hi; have lv := hv.lo; have ev := hv.le; have hv' := hv.hi
  obtain ⟨q0, q1, q2, r0, r1, r2⟩ := shq_bd hu hv
  obtain ⟨s0, s1⟩ := size_bd hu hv
  obtain ⟨a0, a1, a2⟩ := sqN_F lu hu' eu
  obtain ⟨b0, b1, b2⟩ := sqN_F lv hv' ev
  have SU := Lib.hid (fun W => squares_any u0 u1 W lu (by omega) (by omega) hu')
  have SV := Lib.hid (fun W => squares_any v0 v1 W lv (by omega) (by omega) hv')
  have RN := Lib.hid (fun W => root_any (qN u0 u1 v0 v1) W (by omega) (by omega))
  have RF := Lib.hid (fun W => root_any (qF u0 u1 v0 v1) W (by omega) (by omega))
  have wn : IntKind.i64.wrap (1000000 + sqN u0 u1 + sqN v0 v1) = qN u0 u1 v0 v1 := IntWalk.i64_in _ (by omega)
  have wf : IntKind.i64.wrap (1000000 + sqF u0 u1 + sqF v0 v1) = qF u0 u1 v0 v1 := IntWalk.i64_in _ (by omega)
  have wn0 : IntKind.i64.wrap (1000000 + sqN u0 u1) = 1000000 + sqN u0 u1 := IntWalk.i64_in _ (by omega)
  have wf0 : IntKind.i64.wrap (1000000 + sqF u0 u1) = 1000000 + sqF u0 u1 := IntWalk.i64_in _ (by omega)
  generalize qN u0 u1 v0 v1 = n at *
  generalize qF u0 u1 v0 v1 = r at *
  generalize sqN u0 u1 = nu at *
  generalize sqN v0 v1 = nv at *
  generalize sqF u0 u1 = fu at *
  generalize sqF v0 v1 = fv at *
  have xn : IntKind.i64.wrap n = n := IntWalk.i64_in _ (by omega)
  obtain ⟨d, hd⟩ : ∃ d, rt n = d := ⟨_, rfl⟩
  obtain ⟨D, hD⟩ : ∃ D, rtU r = D := ⟨_, rfl⟩
  rw [hd] at RN HH r0 r1
  rw [hD] at RF HL r1 r2
  generalize rtU n = dU at *
  generalize rt r = DL at *
  obtain ⟨c0, c1, c2, c3⟩ := cube_bd (d := d) r0 (by omega)
  obtain ⟨C0, C1, C2, C3⟩ := cube_bd (d := D) (by omega) r2
  obtain ⟨z, hz⟩ : ∃ z, (u1 - u0) * (v1 - v0) * 1000 = z := ⟨_, rfl⟩
  obtain ⟨k0, k1⟩ := num_bd (m := m) m0 (by omega) s0 s1
  obtain ⟨K0, K1⟩ := num_bd (m := M) (by omega) m1 s0 s1
  rw [hz] at HL HH k0 k1 K0 K1
  have wu : IntKind.i64.wrap (u1 - u0) = u1 - u0 := IntWalk.i64_in _ (by omega)
  have wv : IntKind.i64.wrap (v1 - v0) = v1 - v0 := IntWalk.i64_in _ (by omega)
  have ws : IntKind.i64.wrap ((u1 - u0) * (v1 - v0)) = (u1 - u0) * (v1 - v0) := IntWalk.i64_in _ (by omega)
  have wz : IntKind.i64.wrap ((u1 - u0) * (v1 - v0) * 1000) = z := by rw [← hz]; exact IntWalk.i64_in _ (by omega)
  have w1 : IntKind.i64.wrap (m * z) = m * z := IntWalk.i64_in _ (by omega)
  have w2 : IntKind.i64.wrap (M * z) = M * z := IntWalk.i64_in _ (by omega)
  have w3 : IntKind.i64.wrap (D * D) = D * D := IntWalk.i64_in _ (by omega)
  have w4 : IntKind.i64.wrap (D * D * D) = D * D * D := IntWalk.i64_in _ (by omega)
  have w5 : IntKind.i64.wrap (d * d) = d * d := IntWalk.i64_in _ (by omega)
  have w6 : IntKind.i64.wrap (d * d * d) = d * d * d := IntWalk.i64_in _ (by omega)
  have DN := Lib.hid (fun W => down_any (m * z) (D * D * D) W (by omega) (by omega) (by omega) (by omega))
  have UP := Lib.hid (fun W => up_any (M * z) (d * d * d) W (by omega) (by omega) (by omega) (by omega))
  clear q0 q1 q2 r0 r1 r2 s0 s1 a0 a1 a2 b0 b1 b2 c0 c1 c2 c3 C0 C1 C2 C3 k0 k1 K0 K1 hz hd hD lu eu hu' lv ev hv' m0 hm m1 hu hv
  have bw0 : Own w.heap.size w ((((w.alloc (.cells #[.int .i64 m, .int .i64 M] 35)).alloc (.cells #[.int .i64 u0, .int .i64 u1] 115)).alloc (.cells #[.int .i64 v0, .int .i64 v1] 115)).alloc (.cells #[.int .i64 0, .int .i64 0] 35)) := ((((Own.refl _ _).alloc (Nat.le_refl _) _).alloc (by simp) _).alloc (by simp; omega) _).alloc (by simp; omega) _
  have BM0 : Bq w.heap.size m M ((((w.alloc (.cells #[.int .i64 m, .int .i64 M] 35)).alloc (.cells #[.int .i64 u0, .int .i64 u1] 115)).alloc (.cells #[.int .i64 v0, .int .i64 v1] 115)).alloc (.cells #[.int .i64 0, .int .i64 0] 35)) := (((Bq.fresh w m M _).alloc _).alloc _).alloc _
  have BU0 : Bq (w.heap.size + 1) u0 u1 ((((w.alloc (.cells #[.int .i64 m, .int .i64 M] 35)).alloc (.cells #[.int .i64 u0, .int .i64 u1] 115)).alloc (.cells #[.int .i64 v0, .int .i64 v1] 115)).alloc (.cells #[.int .i64 0, .int .i64 0] 35)) := ((Bq.freshAt (by simp) u0 u1 _).alloc _).alloc _
  have BV0 : Bq (w.heap.size + 1 + 1) v0 v1 ((((w.alloc (.cells #[.int .i64 m, .int .i64 M] 35)).alloc (.cells #[.int .i64 u0, .int .i64 u1] 115)).alloc (.cells #[.int .i64 v0, .int .i64 v1] 115)).alloc (.cells #[.int .i64 0, .int .i64 0] 35)) := (Bq.freshAt (by simp) v0 v1 _).alloc _
  have BZ0 : Bq (w.heap.size + 1 + 1 + 1) 0 0 ((((w.alloc (.cells #[.int .i64 m, .int .i64 M] 35)).alloc (.cells #[.int .i64 u0, .int .i64 u1] 115)).alloc (.cells #[.int .i64 v0, .int .i64 v1] 115)).alloc (.cells #[.int .i64 0, .int .i64 0] 35)) := Bq.freshAt (by simp) 0 0 _
  have BW0 := Lib.hid bw0
  have HM0 := Lib.hid BM0
  have HU0 := Lib.hid BU0
  have HV0 := Lib.hid BV0
  have HZ0 := Lib.hid BZ0
  clear bw0 BM0 BU0 BV0 BZ0
  go_enter Try.func91, Try.ntmps91
  go_wp2_with fail
  generalize ((((w.alloc (.cells #[.int .i64 m, .int .i64 M] 35)).alloc (.cells #[.int .i64 u0, .int .i64 u1] 115)).alloc (.cells #[.int .i64 v0, .int .i64 v1] 115)).alloc (.cells #[.int .i64 0, .int .i64 0] 35)) = W0 at *
  have hS : W0.cell? ⟨w.heap.size + 1, 0, none⟩ = some (.int .i64 u0) ∧ W0.cell? ⟨w.heap.size + 1, 1, none⟩ = some (.int .i64 u1) ∧ W0.cell? ⟨w.heap.size + 1 + 1, 0, none⟩ = some (.int .i64 v0) ∧ W0.cell? ⟨w.heap.size + 1 + 1, 1, none⟩ = some (.int .i64 v1) := ⟨HU0.out.c0, HU0.out.c1, HV0.out.c0, HV0.out.c1⟩
  have KF := Lib.hid (show ∀ Wz : World, Below W0.heap.size W0 Wz → (Wz.cell? ⟨w.heap.size + 1, 0, none⟩ = some (.int .i64 u0) ∧ Wz.cell? ⟨w.heap.size + 1, 1, none⟩ = some (.int .i64 u1) ∧ Wz.cell? ⟨w.heap.size + 1 + 1, 0, none⟩ = some (.int .i64 v0) ∧ Wz.cell? ⟨w.heap.size + 1 + 1, 1, none⟩ = some (.int .i64 v1)) from fun Wz hz =>
    ⟨(HU0.out.below hz).c0, (HU0.out.below hz).c1, (HV0.out.below hz).c0, (HV0.out.below hz).c1⟩)
  go_upto_region 1 with fail
  go_cut [7, 8] (fun s7 s8 wx => ∃ g1 g2 : Nat, s7 = .pointer (some ⟨g1, 0, none⟩) ∧ s8 = .pointer (some ⟨g2, 0, none⟩) ∧ Bq g1 nu fu wx ∧ Bq g2 nv fv wx ∧ Below W0.heap.size W0 wx)
  case first =>
    clear RN RF DN UP HL HH
    go_region_held3 (fun w' => w'.cell? ⟨w.heap.size + 1, 0, none⟩ = some (.int .i64 u0) ∧ w'.cell? ⟨w.heap.size + 1, 1, none⟩ = some (.int .i64 u1) ∧ w'.cell? ⟨w.heap.size + 1 + 1, 0, none⟩ = some (.int .i64 v0) ∧ w'.cell? ⟨w.heap.size + 1 + 1, 1, none⟩ = some (.int .i64 v1))
      ((refine KF.out _ ?_; ((repeat' (first | (with_reducible exact Below.refl _ _) | (with_reducible refine Below.drew ?_) | (with_reducible refine Below.alloc ?_ ?_ _) | (with_reducible refine Below.setCell ?_ ?_ _) | (with_reducible refine Below.trans ?_ (hbp.below.mono ?_)) | (with_reducible refine Below.trans ?_ (hbr2.below.mono ?_)))); all_goals (first | (simp; done) | (simp; omega) | omega))))
      (first | (go_at_call 107; with_reducible refine Calls.mono (SU.out _) ?_; rintro e wp ⟨rfl, hbp⟩; have hcp := (bcell hbp).1; have hfp := (bcell hbp).2; have hzp := hbp.size; (try simp only [World.size_drew] at hcp hfp); (try simp at hzp); (try (have hzp2 : W0.heap.size < wp.heap.size := by omega)); (try (have hzp3 : W0.heap.size + 1 < wp.heap.size := by omega)); (try (have hzp6 : W0.heap.size ≠ wp.heap.size := by omega)); (try (have hzp7 : W0.heap.size + 1 ≠ wp.heap.size := by omega))) | (go_at_call 107; with_reducible refine Calls.mono (SV.out _) ?_; rintro e wq2 ⟨rfl, hbr2⟩; have hcr := (bcell hbr2).1; have hfr := (bcell hbr2).2; have hzr := hbr2.size; (try simp only [World.size_drew] at hcr hfr); (try simp at hzr); (try (have hzr2 : W0.heap.size < wq2.heap.size := by omega)); (try (have hzr3 : W0.heap.size + 1 < wq2.heap.size := by omega)); (try (have hzr4 : wp.heap.size < wq2.heap.size := by omega)); (try (have hzr5 : wp.heap.size + 1 < wq2.heap.size := by omega)); (try (have hzr6 : W0.heap.size ≠ wq2.heap.size := by omega)); (try (have hzr7 : W0.heap.size + 1 ≠ wq2.heap.size := by omega)); (try (have hzr8 : wp.heap.size ≠ wq2.heap.size := by omega)); (try (have hzr9 : wp.heap.size + 1 ≠ wq2.heap.size := by omega))))
    all_goals go_wp2_with fail
    all_goals go_meet
    all_goals
      case rel =>
        refine ⟨_, _, rfl, rfl, ?_, ?_, ?_⟩
        · (repeat' (first | ((with_reducible refine Bq.freshAt ?_ _ _ _); focus (simp; done)) | (with_reducible refine Bq.alloc ?_ _) | (with_reducible refine Bq.drew ?_) | (with_reducible refine Bq.below ?_ hbp.below) | (with_reducible refine Bq.below ?_ hbr2.below) | (with_reducible refine Bq.set (x := 0) (y := 0) ?_ _ _) | ((with_reducible refine Bq.other ?_ ?_ _ _); rotate_left; focus (first | omega | (simp; omega)))))
        · (repeat' (first | ((with_reducible refine Bq.freshAt ?_ _ _ _); focus (simp; done)) | (with_reducible refine Bq.alloc ?_ _) | (with_reducible refine Bq.drew ?_) | (with_reducible refine Bq.below ?_ hbp.below) | (with_reducible refine Bq.below ?_ hbr2.below) | (with_reducible refine Bq.set (x := 0) (y := 0) ?_ _ _) | ((with_reducible refine Bq.other ?_ ?_ _ _); rotate_left; focus (first | omega | (simp; omega)))))
        · ((repeat' (first | (with_reducible exact Below.refl _ _) | (with_reducible refine Below.drew ?_) | (with_reducible refine Below.alloc ?_ ?_ _) | (with_reducible refine Below.setCell ?_ ?_ _) | (with_reducible refine Below.trans ?_ (hbp.below.mono ?_)) | (with_reducible refine Below.trans ?_ (hbr2.below.mono ?_)))); all_goals (first | (simp; done) | (simp; omega) | omega))
  case rest =>
    obtain ⟨g1, g2, rfl, rfl, bu, bv, bx⟩ := hcut
    have BW1 := Lib.hid (BW0.out.below.trans (bx.mono BW0.out.size))
    have HM1 := Lib.hid (HM0.out.below bx)
    have HU1 := Lib.hid (HU0.out.below bx)
    have HV1 := Lib.hid (HV0.out.below bx)
    have HZ1 := Lib.hid (HZ0.out.below bx)
    have HA1 := Lib.hid bu
    have HB1 := Lib.hid bv
    obtain ⟨x0, x1, _, _, _⟩ := bu
    obtain ⟨y0, y1, _, _, _⟩ := bv
    clear bx HM0 HU0 HV0 HZ0 BW0 hS KF SU SV
    go_wp2_with fail
    have hfa := field0 d dU
    have hfb := field1 DL D
    with_reducible refine Calls.mono (RN.out _) ?_
    rintro e w1 ⟨rfl, o1⟩
    have BW2 := Lib.hid (BW1.out.trans (o1.below.mono BW1.out.size))
    have HM2 := Lib.hid (HM1.out.below o1.below)
    have HU2 := Lib.hid (HU1.out.below o1.below)
    have HV2 := Lib.hid (HV1.out.below o1.below)
    have HZ2 := Lib.hid (HZ1.out.below o1.below)
    have HA2 := Lib.hid (HA1.out.below o1.below)
    have HB2 := Lib.hid (HB1.out.below o1.below)
    clear o1 BW1 HM1 HU1 HV1 HZ1 HA1 HB1 x0 x1 y0 y1
    obtain ⟨x0, x1, _, _, _⟩ := HA2.out
    obtain ⟨y0, y1, _, _, _⟩ := HB2.out
    go_wp2_with fail
    with_reducible refine Calls.mono (RF.out _) ?_
    rintro e w2 ⟨rfl, o2⟩
    have BW3 := Lib.hid (BW2.out.trans (o2.below.mono BW2.out.size))
    obtain ⟨m0, m1, _, _, _⟩ := HM2.out.below o2.below
    obtain ⟨u0', u1', _, _, _⟩ := HU2.out.below o2.below
    obtain ⟨v0', v1', _, _, _⟩ := HV2.out.below o2.below
    have HZ3 := Lib.hid (HZ2.out.below o2.below)
    clear o2 BW2 HM2 HU2 HV2 HZ2 HA2 HB2 x0 x1 y0 y1
    go_wp2_with fail
    go_still_tail 21, (by kernel_rfl)
    still_call ((DN.out _).mono fun _ _ hh => ⟨hh.1, hh.2.symm⟩)
    repeat still_step
    still_call ((UP.out _).mono fun _ _ hh => ⟨hh.1, hh.2.symm⟩)
    repeat still_step
    refine wpStill_nil ?_
    have BW4 := Lib.hid BW3.out.drew
    have HZ4 := Lib.hid HZ3.out.drew
    change wpList _ _ _ _ _ w2.drew
    generalize w2.drew = W5 at *
    obtain ⟨z0, z1, z2, z3, z4⟩ := HZ4.out
    clear m0 m1 u0' u1' v0' v1' HZ3 BW3
    go_wp2_with fail
    refine bodyPost_ret (v := .agg #[.int .i64 (m * z / (D * D * D)), .int .i64 (upD (M * z) (d * d * d))]) (by simp [results, Try.results91, go_sem, z0, z1]) rfl ⟨by rw [HL.out, HH.out], ?_⟩
    exact (BW4.out.setCell (p := ⟨w.heap.size + 1 + 1 + 1, 0, none⟩) (by show w.heap.size ≤ w.heap.size + 1 + 1 + 1; omega) _).setCell (p := ⟨w.heap.size + 1 + 1 + 1, 1, none⟩) (by show w.heap.size ≤ w.heap.size + 1 + 1 + 1; omega) _
end Go.Proofs.Ytgmpipciinphiaa
