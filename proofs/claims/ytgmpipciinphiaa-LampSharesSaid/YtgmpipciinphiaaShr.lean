/- Share of the reference: root, nearest, farthest, part. -/
import Derived.Test.YtgmpipciinphiaaShm
import Derived.Test.YtgmpipciinphiaaRsm
import Derived.Deep.LoopGhost
import Derived.StillTailTactics
import Derived.Deep.QuietTactic
import Derived.BigQuiet
namespace Go.Proofs.Ytgmpipciinphiaa
set_option linter.unusedSimpArgs false
set_option linter.unusedVariables false
open Go.RowKit
attribute [local go_sem ↓] Go.wp_at_zero Go.wp_at_succ

theorem rt_eq {a k : Int} (h0 : 0 ≤ a) (k0 : 0 ≤ k) (h1 : k * k ≤ a) (h2 : a < (k + 1) * (k + 1)) : rt a = k := by
  obtain ⟨a0, a1, a2⟩ := rt_is h0
  exact root_one a0 a1 a2 k0 h1 h2

set_option maxRecDepth 100000 in
set_option maxHeartbeats 2000000 in
theorem rroot_any (a : Int) (w : World) (a0 : 0 ≤ a) (a1 : a ≤ 100000000) : Calls Try.prog 94 #[.int .i64 a] w fun e w' => e = .returned (.int .i64 (rt a)) ∧ w = w' := by
  go_enter Try.func94, Try.ntmps94
  go_wp2_with fail
  go_loopg [3, 4] 100000 (fun n l' h' wr => ∃ (l h : Int), 0 ≤ l ∧ l < h ∧ h ≤ 100000 ∧ n = (h - l).toNat ∧ l' = .int .i64 l ∧ h' = .int .i64 h ∧ l * l ≤ a ∧ a < h * h ∧ wr = w)
  case atStart => exact ⟨0, 100000, by decide, by decide, by decide, by decide, rfl, rfl, by omega, by omega, rfl⟩
  case round =>
    obtain ⟨l, h, l0, l1, l2, hn0, rfl, rfl, s0, s1, rfl⟩ := hrel
    have HN := Lib.hid hn0
    have HS := Lib.hid (And.intro s0 s1)
    clear hn0 s0 s1
    have ed : IntKind.i64.wrap (h - l) = h - l := IntWalk.i64_in _ (by omega)
    have es : IntKind.i64.wrap (l + h) = l + h := IntWalk.i64_in _ (by omega)
    have et : (l + h).tdiv 2 = (l + h) / 2 := Int.tdiv_eq_ediv_of_nonneg (by omega)
    have ew : IntKind.i64.wrap ((l + h) / 2) = (l + h) / 2 := IntWalk.i64_in _ (by omega)
    by_cases hgo : 1 < h - l
    · obtain ⟨m, hm⟩ : ∃ m, (l + h) / 2 = m := ⟨_, rfl⟩
      have m0 : l < m := by omega
      have m1 : m < h := by omega
      rw [hm] at et ew
      have mm := Int.mul_nonneg (show 0 ≤ m by omega) (show 0 ≤ m by omega)
      have mM := Int.mul_le_mul (show m ≤ 100000 by omega) (show m ≤ 100000 by omega) (show 0 ≤ m by omega) (by decide)
      have eq : IntKind.i64.wrap (m * m) = m * m := IntWalk.i64_in _ (by omega)
      clear mm mM hm
      by_cases hle : m * m ≤ a
      · go_wp2_with fail
        go_roundg (h - m).toNat
        case measure => have := HN.out; omega
        case rel => exact ⟨m, h, by omega, by omega, by omega, rfl, rfl, rfl, hle, HS.out.2, rfl⟩
      · go_wp2_with fail
        go_roundg (m - l).toNat
        case measure => have := HN.out; omega
        case rel => exact ⟨l, m, by omega, by omega, by omega, rfl, rfl, rfl, HS.out.1, by omega, rfl⟩
    · obtain rfl : h = l + 1 := by omega
      have e := rt_eq a0 l0 HS.out.1 HS.out.2
      have E := Lib.hid e
      clear e
      have hno : ¬ 1 < l + 1 - l := by omega
      have hno2 : l + 1 - l = 1 := by omega
      go_wp2_with fail
      go_ret
      exact ⟨by rw [E.out]; rfl, rfl⟩

set_option maxHeartbeats 1000000 in
theorem rnearest_any (a b : Int) (w : World) (a0 : -5000 ≤ a) (a1 : a ≤ 5000) (b0 : -5000 ≤ b) (b1 : b ≤ 5000) : Calls Try.prog 92 #[.int .i64 a, .int .i64 b] w fun e w' => e = .returned (.int .i64 (sqN a b)) ∧ w = w' := by
  have sa := sq_le a0 a1
  have sb := sq_le b0 b1
  have ea : IntKind.i64.wrap (a * a) = a * a := IntWalk.i64_in _ (by omega)
  have eb : IntKind.i64.wrap (b * b) = b * b := IntWalk.i64_in _ (by omega)
  clear sa sb
  by_cases h0 : a ≤ 0
  · by_cases h1 : 0 ≤ b
    · have HF : Hid (sqN a b = 0) := if_pos ⟨h0, h1⟩
      have d0 : decide (a ≤ 0) = true := decide_eq_true h0
      have d1 : decide (0 ≤ b) = true := decide_eq_true h1
      go_enter Try.func92, Try.ntmps92
      go_wp2_with fail
      go_ret
      exact ⟨by rw [HF.out]; rfl, rfl⟩
    · have HF : Hid (sqN a b = min (a * a) (b * b)) := if_neg (fun hh => h1 hh.2)
      have d0 : decide (a ≤ 0) = true := decide_eq_true h0
      have d1 : decide (0 ≤ b) = false := decide_eq_false h1
      go_enter Try.func92, Try.ntmps92
      go_wp2_with fail
      go_ret
      exact ⟨by rw [HF.out]; rfl, rfl⟩
  · have HF : Hid (sqN a b = min (a * a) (b * b)) := if_neg (fun hh => h0 hh.1)
    have d0 : decide (a ≤ 0) = false := decide_eq_false h0
    go_enter Try.func92, Try.ntmps92
    go_wp2_with fail
    go_ret
    exact ⟨by rw [HF.out]; rfl, rfl⟩
set_option maxHeartbeats 1000000 in
theorem rfarthest_any (a b : Int) (w : World) (a0 : -5000 ≤ a) (a1 : a ≤ 5000) (b0 : -5000 ≤ b) (b1 : b ≤ 5000) : Calls Try.prog 93 #[.int .i64 a, .int .i64 b] w fun e w' => e = .returned (.int .i64 (sqF a b)) ∧ w = w' := by
  have sa := sq_le a0 a1
  have sb := sq_le b0 b1
  have ea : IntKind.i64.wrap (a * a) = a * a := IntWalk.i64_in _ (by omega)
  have eb : IntKind.i64.wrap (b * b) = b * b := IntWalk.i64_in _ (by omega)
  have HF : Hid (sqF a b = max (a * a) (b * b)) := rfl
  clear sa sb
  go_enter Try.func93, Try.ntmps93
  go_wp2_with fail
  go_ret
  exact ⟨by rw [HF.out]; rfl, rfl⟩

set_option maxRecDepth 100000 in
set_option maxHeartbeats 2000000 in
theorem rpart_any (m M u0 u1 v0 v1 : Int) (w : World) (hu : Part u0 u1) (hv : Part v0 v1) (m0 : 0 ≤ m) (hm : m ≤ M) (m1 : M ≤ 10000000) :
    Calls Try.prog 59 #[.int .i64 m, .int .i64 M, .int .i64 u0, .int .i64 u1, .int .i64 v0, .int .i64 v1] w fun e w' => e = .returned (.agg #[.int .i64 (shLo m u0 u1 v0 v1), .int .i64 (shHi M u0 u1 v0 v1)]) ∧ Own w.heap.size w w' := by
  have HL : Hid (shLo m u0 u1 v0 v1 = m * ((u1 - u0) * (v1 - v0) * 1000) / (rtU (qF u0 u1 v0 v1) * rtU (qF u0 u1 v0 v1) * rtU (qF u0 u1 v0 v1))) := rfl
  have HH : Hid (shHi M u0 u1 v0 v1 = upD (M * ((u1 - u0) * (v1 - v0) * 1000)) (rt (qN u0 u1 v0 v1) * rt (qN u0 u1 v0 v1) * rt (qN u0 u1 v0 v1))) := rfl
  have lu := hu.lo; have eu := hu.le; have hu' := hu.hi; have lv := hv.lo; have ev := hv.le; have hv' := hv.hi
  obtain ⟨q0, q1, q2, r0, r1, r2⟩ := shq_bd hu hv
  obtain ⟨s0, s1⟩ := size_bd hu hv
  obtain ⟨a0, a1, a2⟩ := sqN_F lu hu' eu
  obtain ⟨b0, b1, b2⟩ := sqN_F lv hv' ev
  have NU := Lib.hid (fun W => rnearest_any u0 u1 W lu (by omega) (by omega) hu')
  have NV := Lib.hid (fun W => rnearest_any v0 v1 W lv (by omega) (by omega) hv')
  have FU := Lib.hid (fun W => rfarthest_any u0 u1 W lu (by omega) (by omega) hu')
  have FV := Lib.hid (fun W => rfarthest_any v0 v1 W lv (by omega) (by omega) hv')
  have RN := Lib.hid (fun W => rroot_any (qN u0 u1 v0 v1) W (by omega) (by omega))
  have RF := Lib.hid (fun W => rroot_any (qF u0 u1 v0 v1) W (by omega) (by omega))
  have wn : IntKind.i64.wrap (1000000 + sqN u0 u1 + sqN v0 v1) = qN u0 u1 v0 v1 := IntWalk.i64_in _ (by omega)
  have wf : IntKind.i64.wrap (1000000 + sqF u0 u1 + sqF v0 v1) = qF u0 u1 v0 v1 := IntWalk.i64_in _ (by omega)
  have wn0 : IntKind.i64.wrap (1000000 + sqN u0 u1) = 1000000 + sqN u0 u1 := IntWalk.i64_in _ (by omega)
  have wf0 : IntKind.i64.wrap (1000000 + sqF u0 u1) = 1000000 + sqF u0 u1 := IntWalk.i64_in _ (by omega)
  obtain ⟨t0, t1, t2⟩ := rt_is (show 0 ≤ qF u0 u1 v0 v1 by omega)
  have hU : rtU (qF u0 u1 v0 v1) = if rt (qF u0 u1 v0 v1) * rt (qF u0 u1 v0 v1) = qF u0 u1 v0 v1 then rt (qF u0 u1 v0 v1) else rt (qF u0 u1 v0 v1) + 1 := rfl
  generalize qN u0 u1 v0 v1 = n at *
  generalize qF u0 u1 v0 v1 = r at *
  generalize sqN u0 u1 = nu at *
  generalize sqN v0 v1 = nv at *
  generalize sqF u0 u1 = fu at *
  generalize sqF v0 v1 = fv at *
  obtain ⟨d, hd⟩ : ∃ d, rt n = d := ⟨_, rfl⟩
  obtain ⟨D, hD⟩ : ∃ D, rtU r = D := ⟨_, rfl⟩
  obtain ⟨E, hE⟩ : ∃ E, rt r = E := ⟨_, rfl⟩
  rw [hd] at RN HH r0 r1
  rw [hD] at HL r1 r2 hU
  rw [hE] at RF t0 t1 t2 hU
  have he7 : E ≤ D := by rw [hU]; split <;> omega
  obtain ⟨c0, c1, c2, c3⟩ := cube_bd (d := d) r0 (by omega)
  obtain ⟨C0, C1, C2, C3⟩ := cube_bd (d := D) (by omega) r2
  obtain ⟨z, hz⟩ : ∃ z, (u1 - u0) * (v1 - v0) * 1000 = z := ⟨_, rfl⟩
  obtain ⟨k0, k1⟩ := num_bd (m := m) m0 (by omega) s0 s1
  obtain ⟨K0, K1⟩ := num_bd (m := M) (by omega) m1 s0 s1
  rw [hz] at HL HH k0 k1 K0 K1
  have wu : IntKind.i64.wrap (u1 - u0) = u1 - u0 := IntWalk.i64_in _ (by omega)
  have wv : IntKind.i64.wrap (v1 - v0) = v1 - v0 := IntWalk.i64_in _ (by omega)
  have ws : IntKind.i64.wrap ((u1 - u0) * (v1 - v0)) = (u1 - u0) * (v1 - v0) := IntWalk.i64_in _ (by omega)
  have wz : IntKind.i64.wrap ((u1 - u0) * (v1 - v0) * 1000) = z := by rw [← hz]; exact IntWalk.i64_in _ (by omega)
  have w1 : IntKind.i64.wrap (m * z) = m * z := IntWalk.i64_in _ (by omega)
  have w2 : IntKind.i64.wrap (M * z) = M * z := IntWalk.i64_in _ (by omega)
  have w3 : IntKind.i64.wrap (D * D) = D * D := IntWalk.i64_in _ (by omega)
  have w4 : IntKind.i64.wrap (D * D * D) = D * D * D := IntWalk.i64_in _ (by omega)
  have w5 : IntKind.i64.wrap (d * d) = d * d := IntWalk.i64_in _ (by omega)
  have w6 : IntKind.i64.wrap (d * d * d) = d * d * d := IntWalk.i64_in _ (by omega)
  have hEE := Int.mul_nonneg t0 t0
  have w7 : IntKind.i64.wrap (E * E) = E * E := IntWalk.i64_in _ (by omega)
  have w8 : IntKind.i64.wrap (E + 1) = E + 1 := IntWalk.i64_in _ (by omega)
  have DN := Lib.hid (fun W => rdown_any (m * z) (D * D * D) W (by omega) (by omega) (by omega) (by omega))
  have UP := Lib.hid (fun W => rup_any (M * z) (d * d * d) W (by omega) (by omega) (by omega) (by omega))
  have own0 : Own w.heap.size w (w.alloc (.cells #[.int .i64 0, .int .i64 0] 35)) := (Own.refl _ _).alloc (Nat.le_refl _) _
  have OW := Lib.hid own0
  by_cases hq : E * E = r
  · have hDE : D = E := by rw [hU, if_pos hq]
    have hlt : ¬ E * E < r := by omega
    have hlt2 : decide (E * E < r) = false := decide_eq_false hlt
    subst hDE
    have HQ := Lib.hid hq
    clear q0 q1 q2 r0 r1 r2 s0 s1 a0 a1 a2 b0 b1 b2 c0 c1 c2 c3 C0 C1 C2 C3 k0 k1 K0 K1 hz hd hD hE lu eu hu' lv ev hv' m0 hm m1 hu hv t0 t1 t2 hU he7 hq own0 hEE
    go_enter Try.func59, Try.ntmps59
    go_wp2_with fail
    with_reducible refine Calls.mono (NU.out _) ?_
    rintro e w' ⟨rfl, rfl⟩
    go_wp2_with fail
    with_reducible refine Calls.mono (NV.out _) ?_
    rintro e w' ⟨rfl, rfl⟩
    go_wp2_with fail
    with_reducible refine Calls.mono (FU.out _) ?_
    rintro e w' ⟨rfl, rfl⟩
    go_wp2_with fail
    with_reducible refine Calls.mono (FV.out _) ?_
    rintro e w' ⟨rfl, rfl⟩
    go_wp2_with fail
    with_reducible refine Calls.mono (RF.out _) ?_
    rintro e w' ⟨rfl, rfl⟩
    go_wp2_with fail
    with_reducible refine Calls.mono (RN.out _) ?_
    rintro e w' ⟨rfl, rfl⟩
    go_wp2_with fail
    with_reducible refine Calls.mono (DN.out _) ?_
    rintro e w' ⟨rfl, rfl⟩
    go_wp2_with fail
    with_reducible refine Calls.mono (UP.out _) ?_
    rintro e w' ⟨rfl, rfl⟩
    go_wp2_with fail
    refine bodyPost_ret (v := .agg #[.int .i64 (m * z / (D * D * D)), .int .i64 (upD (M * z) (d * d * d))]) (by simp [results, Try.results59, go_sem]) rfl ⟨by rw [HL.out, HH.out], ?_⟩
    first | exact (Own.refl _ _).alloc (Nat.le_refl _) _ | exact (OW.out.setCell (p := ⟨w.heap.size, 0, none⟩) (Nat.le_refl _) _).setCell (p := ⟨w.heap.size, 1, none⟩) (Nat.le_refl _) _
  · have hDE : D = E + 1 := by rw [hU, if_neg hq]
    have hlt : E * E < r := by omega
    have hlt2 : decide (E * E < r) = true := decide_eq_true hlt
    subst hDE
    have HQ := Lib.hid hq
    clear q0 q1 q2 r0 r1 r2 s0 s1 a0 a1 a2 b0 b1 b2 c0 c1 c2 c3 C0 C1 C2 C3 k0 k1 K0 K1 hz hd hD hE lu eu hu' lv ev hv' m0 hm m1 hu hv t0 t1 t2 hU he7 hq own0 hEE
    go_enter Try.func59, Try.ntmps59
    go_wp2_with fail
    with_reducible refine Calls.mono (NU.out _) ?_
    rintro e w' ⟨rfl, rfl⟩
    go_wp2_with fail
    with_reducible refine Calls.mono (NV.out _) ?_
    rintro e w' ⟨rfl, rfl⟩
    go_wp2_with fail
    with_reducible refine Calls.mono (FU.out _) ?_
    rintro e w' ⟨rfl, rfl⟩
    go_wp2_with fail
    with_reducible refine Calls.mono (FV.out _) ?_
    rintro e w' ⟨rfl, rfl⟩
    go_wp2_with fail
    with_reducible refine Calls.mono (RF.out _) ?_
    rintro e w' ⟨rfl, rfl⟩
    go_wp2_with fail
    with_reducible refine Calls.mono (RN.out _) ?_
    rintro e w' ⟨rfl, rfl⟩
    go_wp2_with fail
    with_reducible refine Calls.mono (DN.out _) ?_
    rintro e w' ⟨rfl, rfl⟩
    go_wp2_with fail
    with_reducible refine Calls.mono (UP.out _) ?_
    rintro e w' ⟨rfl, rfl⟩
    go_wp2_with fail
    refine bodyPost_ret (v := .agg #[.int .i64 (m * z / ((E + 1) * (E + 1) * (E + 1))), .int .i64 (upD (M * z) (d * d * d))]) (by simp [results, Try.results59, go_sem]) rfl ⟨by rw [HL.out, HH.out], ?_⟩
    first | exact (Own.refl _ _).alloc (Nat.le_refl _) _ | exact (OW.out.setCell (p := ⟨w.heap.size, 0, none⟩) (Nat.le_refl _) _).setCell (p := ⟨w.heap.size, 1, none⟩) (Nat.le_refl _) _
end Go.Proofs.Ytgmpipciinphiaa
