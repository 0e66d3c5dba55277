/- flux, Flux and Level of the reference. -/
import Derived.Test.YthmelkakgbchbaaPow
namespace Go.Proofs.Ythmelkakgbchbaa
set_option linter.unusedSimpArgs false
set_option linter.unusedVariables false
open Go.RowKit Go.Shelf
attribute [local go_sem ↓] Go.wp_at_zero Go.wp_at_succ

@[local go_sem ↓] theorem max_three (ats : Array TypeId) (ty : TypeId) (k : IntKind) (p q r : Int) : Builtin.max_ ats ty #[.int k p, .int k q, .int k r] = pure (.int k (max (max p q) r)) := by
  show (Builtin.max2 (.int k p) (.int k q) >>= fun a => Builtin.max2 a (.int k r) >>= fun a => pure a) = _
  rw [max2_is]
  show (Builtin.max2 (.int k (max p q)) (.int k r) >>= fun a => pure a) = _
  rw [max2_is]
  rfl

set_option maxRecDepth 100000 in
set_option maxHeartbeats 2000000 in
theorem rflux_any (nt : Nat) (l : Lmp) (a m v : Int) (w : World) (ok : LmpOk nt l) (hu : useB a m v = true) :
    Calls Try.prog 65 #[l.val, .agg #[.int .i64 a, .int .i64 m, .int .i64 v]] w fun e w' => e = .returned (encl (flxLo l a m v) (flxHi l a m v)) ∧ Own w.heap.size w w' := by
  obtain ⟨a0, a1, m0, m1, l0, l1⟩ := useB_ok hu
  clear hu
  have h0 : 0 ≤ l.lumens := by have := ok.l0; omega
  have h1 := ok.l1
  have GAD : 0 ≤ l.ahi ∧ l.ahi ≤ 1000 := by have := ok.a0; have := ok.a1; have := ok.a2; omega
  have GDD : 0 ≤ l.dhi ∧ l.dhi ≤ 1000 := by have := ok.d0; have := ok.d1; have := ok.d2; omega
  have GAU : 0 ≤ l.alo ∧ l.alo ≤ 1000 := by have := ok.a0; have := ok.a1; have := ok.a2; omega
  have GDU : 0 ≤ l.dlo ∧ l.dlo ≤ 1000 := by have := ok.d0; have := ok.d1; have := ok.d2; omega
  have AD := mul_bd (x := l.ahi) (X := 1000) (y := a) (Y := 200000) GAD.1 GAD.2 a0 a1
  have e1D : IntKind.i64.wrap (l.ahi * a) = l.ahi * a := IntWalk.i64_in _ (by omega)
  have e2D : IntKind.i64.wrap (1000000 - l.ahi * a) = 1000000 - l.ahi * a := IntWalk.i64_in _ (by omega)
  have K1D : 0 ≤ max 0 (1000000 - l.ahi * a) ∧ max 0 (1000000 - l.ahi * a) ≤ 1000000 := by omega
  have L1D := mul_bd h0 h1 K1D.1 K1D.2
  have e3D : IntKind.i64.wrap (l.lumens * max 0 (1000000 - l.ahi * a)) = l.lumens * max 0 (1000000 - l.ahi * a) := IntWalk.i64_in _ (by omega)
  obtain ⟨r1D, hr1D⟩ : ∃ r1, r1 = (fun a b => a / b) (l.lumens * max 0 (1000000 - l.ahi * a)) 1000000 := ⟨_, rfl⟩
  have R1D : 0 ≤ r1D ∧ r1D ≤ l.lumens := hr1D ▸ down_share l.lumens _ 1000000 h0 K1D.1 K1D.2 (by omega)
  have C1D := Lib.hid (fun w : World => (show Calls Try.prog 59 #[.int .i64 (l.lumens * max 0 (1000000 - l.ahi * a)), .int .i64 1000000] w fun e w' => e = .returned (.int .i64 r1D) ∧ w = w' from hr1D ▸ rdown_any _ _ w (by omega) (by omega) (by omega) (by omega)))
  have MD := mul_bd (x := l.dhi) (X := 1000) (y := m) (Y := 600) GDD.1 GDD.2 m0 m1
  have e4D : IntKind.i64.wrap (l.dhi * m) = l.dhi * m := IntWalk.i64_in _ (by omega)
  have e5D : IntKind.i64.wrap (1000 - l.dhi * m) = 1000 - l.dhi * m := IntWalk.i64_in _ (by omega)
  have K2D : 0 ≤ max 0 (1000 - l.dhi * m) ∧ max 0 (1000 - l.dhi * m) ≤ 1000 := by omega
  have L2D := mul_bd R1D.1 (Int.le_trans R1D.2 h1) K2D.1 K2D.2
  have e6D : IntKind.i64.wrap (r1D * max 0 (1000 - l.dhi * m)) = r1D * max 0 (1000 - l.dhi * m) := IntWalk.i64_in _ (by omega)
  obtain ⟨r2D, hr2D⟩ : ∃ r2, r2 = (fun a b => a / b) (r1D * max 0 (1000 - l.dhi * m)) 1000 := ⟨_, rfl⟩
  have R2D : 0 ≤ r2D ∧ r2D ≤ r1D := hr2D ▸ down_share r1D _ 1000 R1D.1 K2D.1 K2D.2 (by omega)
  have C2D := Lib.hid (fun w : World => (show Calls Try.prog 59 #[.int .i64 (r1D * max 0 (1000 - l.dhi * m)), .int .i64 1000] w fun e w' => e = .returned (.int .i64 r2D) ∧ w = w' from hr2D ▸ rdown_any _ _ w (by omega) (by omega) (by omega) (by omega)))
  have L3D := mul_bd R2D.1 (show r2D ≤ 1000000 by omega) l0 l1
  have e7D : IntKind.i64.wrap (r2D * v) = r2D * v := IntWalk.i64_in _ (by omega)
  obtain ⟨r3D, hr3D⟩ : ∃ r3, r3 = (fun a b => a / b) (r2D * v) 1000 := ⟨_, rfl⟩
  have C3D := Lib.hid (fun w : World => (show Calls Try.prog 59 #[.int .i64 (r2D * v), .int .i64 1000] w fun e w' => e = .returned (.int .i64 r3D) ∧ w = w' from hr3D ▸ rdown_any _ _ w (by omega) (by omega) (by omega) (by omega)))
  have AU := mul_bd (x := l.alo) (X := 1000) (y := a) (Y := 200000) GAU.1 GAU.2 a0 a1
  have e1U : IntKind.i64.wrap (l.alo * a) = l.alo * a := IntWalk.i64_in _ (by omega)
  have e2U : IntKind.i64.wrap (1000000 - l.alo * a) = 1000000 - l.alo * a := IntWalk.i64_in _ (by omega)
  have K1U : 0 ≤ max 0 (1000000 - l.alo * a) ∧ max 0 (1000000 - l.alo * a) ≤ 1000000 := by omega
  have L1U := mul_bd h0 h1 K1U.1 K1U.2
  have e3U : IntKind.i64.wrap (l.lumens * max 0 (1000000 - l.alo * a)) = l.lumens * max 0 (1000000 - l.alo * a) := IntWalk.i64_in _ (by omega)
  obtain ⟨r1U, hr1U⟩ : ∃ r1, r1 = upD (l.lumens * max 0 (1000000 - l.alo * a)) 1000000 := ⟨_, rfl⟩
  have R1U : 0 ≤ r1U ∧ r1U ≤ l.lumens := hr1U ▸ up_share l.lumens _ 1000000 h0 K1U.1 K1U.2 (by omega)
  have C1U := Lib.hid (fun w : World => (show Calls Try.prog 60 #[.int .i64 (l.lumens * max 0 (1000000 - l.alo * a)), .int .i64 1000000] w fun e w' => e = .returned (.int .i64 r1U) ∧ w = w' from hr1U ▸ rup_any _ _ w (by omega) (by omega) (by omega) (by omega)))
  have MU := mul_bd (x := l.dlo) (X := 1000) (y := m) (Y := 600) GDU.1 GDU.2 m0 m1
  have e4U : IntKind.i64.wrap (l.dlo * m) = l.dlo * m := IntWalk.i64_in _ (by omega)
  have e5U : IntKind.i64.wrap (1000 - l.dlo * m) = 1000 - l.dlo * m := IntWalk.i64_in _ (by omega)
  have K2U : 0 ≤ max 0 (1000 - l.dlo * m) ∧ max 0 (1000 - l.dlo * m) ≤ 1000 := by omega
  have L2U := mul_bd R1U.1 (Int.le_trans R1U.2 h1) K2U.1 K2U.2
  have e6U : IntKind.i64.wrap (r1U * max 0 (1000 - l.dlo * m)) = r1U * max 0 (1000 - l.dlo * m) := IntWalk.i64_in _ (by omega)
  obtain ⟨r2U, hr2U⟩ : ∃ r2, r2 = upD (r1U * max 0 (1000 - l.dlo * m)) 1000 := ⟨_, rfl⟩
  have R2U : 0 ≤ r2U ∧ r2U ≤ r1U := hr2U ▸ up_share r1U _ 1000 R1U.1 K2U.1 K2U.2 (by omega)
  have C2U := Lib.hid (fun w : World => (show Calls Try.prog 60 #[.int .i64 (r1U * max 0 (1000 - l.dlo * m)), .int .i64 1000] w fun e w' => e = .returned (.int .i64 r2U) ∧ w = w' from hr2U ▸ rup_any _ _ w (by omega) (by omega) (by omega) (by omega)))
  have L3U := mul_bd R2U.1 (show r2U ≤ 1000000 by omega) l0 l1
  have e7U : IntKind.i64.wrap (r2U * v) = r2U * v := IntWalk.i64_in _ (by omega)
  obtain ⟨r3U, hr3U⟩ : ∃ r3, r3 = upD (r2U * v) 1000 := ⟨_, rfl⟩
  have C3U := Lib.hid (fun w : World => (show Calls Try.prog 60 #[.int .i64 (r2U * v), .int .i64 1000] w fun e w' => e = .returned (.int .i64 r3U) ∧ w = w' from hr3U ▸ rup_any _ _ w (by omega) (by omega) (by omega) (by omega)))
  have HFD : Hid (flxLo l a m v = r3D) := by show flxLo l a m v = r3D; rw [hr3D, hr2D, hr1D]; rfl
  have HFU : Hid (flxHi l a m v = r3U) := by show flxHi l a m v = r3U; rw [hr3U, hr2U, hr1U]; rfl
  clear hr1D hr2D hr3D AD K1D L1D R1D MD K2D L2D R2D L3D hr1U hr2U hr3U AU K1U L1U R1U MU K2U L2U R2U L3U GAD GDD GAU GDU
  unfold Lmp.val
  have own0 : Own w.heap.size w (((w.alloc (.cells #[.string l.name, .int .i64 l.table, .int .i64 l.kind, .int .i64 l.lumens, .int .i64 l.power, .int .i64 l.standing, .int .i64 l.tol, .int .i64 l.alo, .int .i64 l.ahi, .int .i64 l.dlo, .int .i64 l.dhi, .int .i64 l.life, .int .i64 l.dim, .int .i64 l.rest] 82)).alloc (.cells #[.int .i64 a, .int .i64 m, .int .i64 v] 48)).alloc (.cells #[.int .i64 0, .int .i64 0] 35)) := (((Own.refl _ _).alloc (Nat.le_refl _) _).alloc (by simp) _).alloc (by simp; omega) _
  have k3 : (((w.alloc (.cells #[.string l.name, .int .i64 l.table, .int .i64 l.kind, .int .i64 l.lumens, .int .i64 l.power, .int .i64 l.standing, .int .i64 l.tol, .int .i64 l.alo, .int .i64 l.ahi, .int .i64 l.dlo, .int .i64 l.dhi, .int .i64 l.life, .int .i64 l.dim, .int .i64 l.rest] 82)).alloc (.cells #[.int .i64 a, .int .i64 m, .int .i64 v] 48)).alloc (.cells #[.int .i64 0, .int .i64 0] 35)).cell? ⟨w.heap.size, 3, none⟩ = some (.int .i64 l.lumens) := by simp [go_sem]
  have k7 : (((w.alloc (.cells #[.string l.name, .int .i64 l.table, .int .i64 l.kind, .int .i64 l.lumens, .int .i64 l.power, .int .i64 l.standing, .int .i64 l.tol, .int .i64 l.alo, .int .i64 l.ahi, .int .i64 l.dlo, .int .i64 l.dhi, .int .i64 l.life, .int .i64 l.dim, .int .i64 l.rest] 82)).alloc (.cells #[.int .i64 a, .int .i64 m, .int .i64 v] 48)).alloc (.cells #[.int .i64 0, .int .i64 0] 35)).cell? ⟨w.heap.size, 7, none⟩ = some (.int .i64 l.alo) := by simp [go_sem]
  have k8 : (((w.alloc (.cells #[.string l.name, .int .i64 l.table, .int .i64 l.kind, .int .i64 l.lumens, .int .i64 l.power, .int .i64 l.standing, .int .i64 l.tol, .int .i64 l.alo, .int .i64 l.ahi, .int .i64 l.dlo, .int .i64 l.dhi, .int .i64 l.life, .int .i64 l.dim, .int .i64 l.rest] 82)).alloc (.cells #[.int .i64 a, .int .i64 m, .int .i64 v] 48)).alloc (.cells #[.int .i64 0, .int .i64 0] 35)).cell? ⟨w.heap.size, 8, none⟩ = some (.int .i64 l.ahi) := by simp [go_sem]
  have k9 : (((w.alloc (.cells #[.string l.name, .int .i64 l.table, .int .i64 l.kind, .int .i64 l.lumens, .int .i64 l.power, .int .i64 l.standing, .int .i64 l.tol, .int .i64 l.alo, .int .i64 l.ahi, .int .i64 l.dlo, .int .i64 l.dhi, .int .i64 l.life, .int .i64 l.dim, .int .i64 l.rest] 82)).alloc (.cells #[.int .i64 a, .int .i64 m, .int .i64 v] 48)).alloc (.cells #[.int .i64 0, .int .i64 0] 35)).cell? ⟨w.heap.size, 9, none⟩ = some (.int .i64 l.dlo) := by simp [go_sem]
  have k10 : (((w.alloc (.cells #[.string l.name, .int .i64 l.table, .int .i64 l.kind, .int .i64 l.lumens, .int .i64 l.power, .int .i64 l.standing, .int .i64 l.tol, .int .i64 l.alo, .int .i64 l.ahi, .int .i64 l.dlo, .int .i64 l.dhi, .int .i64 l.life, .int .i64 l.dim, .int .i64 l.rest] 82)).alloc (.cells #[.int .i64 a, .int .i64 m, .int .i64 v] 48)).alloc (.cells #[.int .i64 0, .int .i64 0] 35)).cell? ⟨w.heap.size, 10, none⟩ = some (.int .i64 l.dhi) := by simp [go_sem]
  have u0 : (((w.alloc (.cells #[.string l.name, .int .i64 l.table, .int .i64 l.kind, .int .i64 l.lumens, .int .i64 l.power, .int .i64 l.standing, .int .i64 l.tol, .int .i64 l.alo, .int .i64 l.ahi, .int .i64 l.dlo, .int .i64 l.dhi, .int .i64 l.life, .int .i64 l.dim, .int .i64 l.rest] 82)).alloc (.cells #[.int .i64 a, .int .i64 m, .int .i64 v] 48)).alloc (.cells #[.int .i64 0, .int .i64 0] 35)).cell? ⟨w.heap.size + 1, 0, none⟩ = some (.int .i64 a) := by simp [go_sem]
  have u1 : (((w.alloc (.cells #[.string l.name, .int .i64 l.table, .int .i64 l.kind, .int .i64 l.lumens, .int .i64 l.power, .int .i64 l.standing, .int .i64 l.tol, .int .i64 l.alo, .int .i64 l.ahi, .int .i64 l.dlo, .int .i64 l.dhi, .int .i64 l.life, .int .i64 l.dim, .int .i64 l.rest] 82)).alloc (.cells #[.int .i64 a, .int .i64 m, .int .i64 v] 48)).alloc (.cells #[.int .i64 0, .int .i64 0] 35)).cell? ⟨w.heap.size + 1, 1, none⟩ = some (.int .i64 m) := by simp [go_sem]
  have u2 : (((w.alloc (.cells #[.string l.name, .int .i64 l.table, .int .i64 l.kind, .int .i64 l.lumens, .int .i64 l.power, .int .i64 l.standing, .int .i64 l.tol, .int .i64 l.alo, .int .i64 l.ahi, .int .i64 l.dlo, .int .i64 l.dhi, .int .i64 l.life, .int .i64 l.dim, .int .i64 l.rest] 82)).alloc (.cells #[.int .i64 a, .int .i64 m, .int .i64 v] 48)).alloc (.cells #[.int .i64 0, .int .i64 0] 35)).cell? ⟨w.heap.size + 1, 2, none⟩ = some (.int .i64 v) := by simp [go_sem]
  have z0 : (((w.alloc (.cells #[.string l.name, .int .i64 l.table, .int .i64 l.kind, .int .i64 l.lumens, .int .i64 l.power, .int .i64 l.standing, .int .i64 l.tol, .int .i64 l.alo, .int .i64 l.ahi, .int .i64 l.dlo, .int .i64 l.dhi, .int .i64 l.life, .int .i64 l.dim, .int .i64 l.rest] 82)).alloc (.cells #[.int .i64 a, .int .i64 m, .int .i64 v] 48)).alloc (.cells #[.int .i64 0, .int .i64 0] 35)).cell? ⟨w.heap.size + 1 + 1, 0, none⟩ = some (.int .i64 0) := by simp [go_sem]
  have z1 : (((w.alloc (.cells #[.string l.name, .int .i64 l.table, .int .i64 l.kind, .int .i64 l.lumens, .int .i64 l.power, .int .i64 l.standing, .int .i64 l.tol, .int .i64 l.alo, .int .i64 l.ahi, .int .i64 l.dlo, .int .i64 l.dhi, .int .i64 l.life, .int .i64 l.dim, .int .i64 l.rest] 82)).alloc (.cells #[.int .i64 a, .int .i64 m, .int .i64 v] 48)).alloc (.cells #[.int .i64 0, .int .i64 0] 35)).cell? ⟨w.heap.size + 1 + 1, 1, none⟩ = some (.int .i64 0) := by simp [go_sem]
  have z2 : (((w.alloc (.cells #[.string l.name, .int .i64 l.table, .int .i64 l.kind, .int .i64 l.lumens, .int .i64 l.power, .int .i64 l.standing, .int .i64 l.tol, .int .i64 l.alo, .int .i64 l.ahi, .int .i64 l.dlo, .int .i64 l.dhi, .int .i64 l.life, .int .i64 l.dim, .int .i64 l.rest] 82)).alloc (.cells #[.int .i64 a, .int .i64 m, .int .i64 v] 48)).alloc (.cells #[.int .i64 0, .int .i64 0] 35)).frozen? ⟨w.heap.size + 1 + 1, 0, none⟩ = false := by simp [go_sem]
  have z3 : (((w.alloc (.cells #[.string l.name, .int .i64 l.table, .int .i64 l.kind, .int .i64 l.lumens, .int .i64 l.power, .int .i64 l.standing, .int .i64 l.tol, .int .i64 l.alo, .int .i64 l.ahi, .int .i64 l.dlo, .int .i64 l.dhi, .int .i64 l.life, .int .i64 l.dim, .int .i64 l.rest] 82)).alloc (.cells #[.int .i64 a, .int .i64 m, .int .i64 v] 48)).alloc (.cells #[.int .i64 0, .int .i64 0] 35)).frozen? ⟨w.heap.size + 1 + 1, 1, none⟩ = false := by simp [go_sem]
  generalize hW0 : (((w.alloc (.cells #[.string l.name, .int .i64 l.table, .int .i64 l.kind, .int .i64 l.lumens, .int .i64 l.power, .int .i64 l.standing, .int .i64 l.tol, .int .i64 l.alo, .int .i64 l.ahi, .int .i64 l.dlo, .int .i64 l.dhi, .int .i64 l.life, .int .i64 l.dim, .int .i64 l.rest] 82)).alloc (.cells #[.int .i64 a, .int .i64 m, .int .i64 v] 48)).alloc (.cells #[.int .i64 0, .int .i64 0] 35)) = W0 at *
  go_enter Try.func65, Try.ntmps65
  go_wp2_with fail
  (try rw [hW0])
  refine (C1D.out _).mono ?_
  rintro e w1 ⟨rfl, rfl⟩
  go_wp2_with fail
  refine (C2D.out _).mono ?_
  rintro e w1 ⟨rfl, rfl⟩
  go_wp2_with fail
  refine (C1U.out _).mono ?_
  rintro e w1 ⟨rfl, rfl⟩
  go_wp2_with fail
  refine (C2U.out _).mono ?_
  rintro e w1 ⟨rfl, rfl⟩
  go_wp2_with fail
  go_still_tail 11, (by kernel_rfl)
  still_call ((C3D.out _).mono fun _ _ hh => ⟨hh.1, hh.2.symm⟩)
  repeat still_step
  still_call ((C3U.out _).mono fun _ _ hh => ⟨hh.1, hh.2.symm⟩)
  repeat still_step
  refine wpStill_nil ?_
  have k9' := own0.drew
  have y0 : W0.drew.cell? ⟨w.heap.size + 1 + 1, 0, none⟩ = some (.int .i64 0) := z0
  have y1 : W0.drew.cell? ⟨w.heap.size + 1 + 1, 1, none⟩ = some (.int .i64 0) := z1
  have y2 : W0.drew.frozen? ⟨w.heap.size + 1 + 1, 0, none⟩ = false := z2
  have y3 : W0.drew.frozen? ⟨w.heap.size + 1 + 1, 1, none⟩ = false := z3
  clear z0 z1 z2 z3 k3 k7 k8 k9 k10 u0 u1 u2
  change wpList _ _ _ _ _ W0.drew
  generalize W0.drew = W3 at *
  go_wp2_with fail
  refine bodyPost_ret (v := encl r3D r3U) (by simp [results, Try.results65, go_sem, y0, y1]) rfl ⟨by rw [HFD.out, HFU.out], ?_⟩
  exact (k9'.setCell (p := ⟨w.heap.size + 1 + 1, 0, none⟩) (by show w.heap.size ≤ w.heap.size + 1 + 1; omega) _).setCell (p := ⟨w.heap.size + 1 + 1, 1, none⟩) (by show w.heap.size ≤ w.heap.size + 1 + 1; omega) _

set_option maxRecDepth 100000 in
set_option maxHeartbeats 2000000 in
theorem rFlux_any (c : Cat) (n a m v : Int) (w : World) (hc : CatIn w.heap.size c w) :
    Calls Try.prog 28 #[.agg #[c.tv, c.lv], .int .i64 n, .agg #[.int .i64 a, .int .i64 m, .int .i64 v]] w fun e w' => e = .returned (enclE (fxLo c n a m v) (fxHi c n a m v) (fxE c n a m v)) ∧ Own w.heap.size w w' := by
  have hml := hc.lamps.1
  have hc0 := Lib.hid hc
  unfold Cat.tv Cat.lv at *
  have own0 : Own w.heap.size w (((w.alloc (.cells #[.slice c.ta c.tabs.length c.tc, .slice c.la c.lamps.length c.lc] 25)).alloc (.cells #[.int .i64 a, .int .i64 m, .int .i64 v] 48)).alloc (.cells #[.int .i64 0, .int .i64 0] 35)) := (((Own.refl _ _).alloc (Nat.le_refl _) _).alloc (by simp) _).alloc (by simp; omega) _
  have sz0 : (((w.alloc (.cells #[.slice c.ta c.tabs.length c.tc, .slice c.la c.lamps.length c.lc] 25)).alloc (.cells #[.int .i64 a, .int .i64 m, .int .i64 v] 48)).alloc (.cells #[.int .i64 0, .int .i64 0] 35)).heap.size = w.heap.size + 1 + 1 + 1 := by simp
  have HC := Lib.hid ((hc0.out.keep own0.below (Nat.le_refl _)))
  clear hc hc0
  have CB : ∀ Wz : World, (∀ k, k < w.heap.size + 1 + 1 → Wz.heap[k]? = (((w.alloc (.cells #[.slice c.ta c.tabs.length c.tc, .slice c.la c.lamps.length c.lc] 25)).alloc (.cells #[.int .i64 a, .int .i64 m, .int .i64 v] 48)).alloc (.cells #[.int .i64 0, .int .i64 0] 35)).heap[k]?) → (Wz.cell? ⟨w.heap.size, 0, none⟩ = some (.slice c.ta c.tabs.length c.tc) ∧ Wz.cell? ⟨w.heap.size, 1, none⟩ = some (.slice c.la c.lamps.length c.lc) ∧ Wz.cell? ⟨w.heap.size + 1, 0, none⟩ = some (.int .i64 a) ∧ Wz.cell? ⟨w.heap.size + 1, 1, none⟩ = some (.int .i64 m) ∧ Wz.cell? ⟨w.heap.size + 1, 2, none⟩ = some (.int .i64 v)) := fun Wz hk => by
    have e : ∀ p : Addr, p.block < w.heap.size + 1 + 1 → Wz.cell? p = World.cell? _ p := fun p hp => World.cell?_of_block (hk _ hp)
    refine ⟨?_, ?_, ?_, ?_, ?_⟩
    · rw [e _ (by show w.heap.size < _; omega)]; simp [go_sem]
    · rw [e _ (by show w.heap.size < _; omega)]; simp [go_sem]
    · rw [e _ (by show w.heap.size + 1 < _; omega)]; simp [go_sem]
    · rw [e _ (by show w.heap.size + 1 < _; omega)]; simp [go_sem]
    · rw [e _ (by show w.heap.size + 1 < _; omega)]; simp [go_sem]
  have CZ : ∀ Wz : World, Wz.heap[w.heap.size + 1 + 1]? = (((w.alloc (.cells #[.slice c.ta c.tabs.length c.tc, .slice c.la c.lamps.length c.lc] 25)).alloc (.cells #[.int .i64 a, .int .i64 m, .int .i64 v] 48)).alloc (.cells #[.int .i64 0, .int .i64 0] 35)).heap[w.heap.size + 1 + 1]? →
      (Wz.cell? ⟨w.heap.size + 1 + 1, 0, none⟩ = some (.int .i64 0) ∧ Wz.cell? ⟨w.heap.size + 1 + 1, 1, none⟩ = some (.int .i64 0) ∧ Wz.frozen? ⟨w.heap.size + 1 + 1, 0, none⟩ = false ∧ Wz.frozen? ⟨w.heap.size + 1 + 1, 1, none⟩ = false) := fun Wz hk => by
    refine ⟨(World.cell?_of_block (a := ⟨w.heap.size + 1 + 1, 0, none⟩) hk).trans ?_, (World.cell?_of_block (a := ⟨w.heap.size + 1 + 1, 1, none⟩) hk).trans ?_, (World.frozen?_of_block (a := ⟨w.heap.size + 1 + 1, 0, none⟩) hk).trans ?_, (World.frozen?_of_block (a := ⟨w.heap.size + 1 + 1, 1, none⟩) hk).trans ?_⟩ <;> simp [go_sem]
  generalize hW0 : (((w.alloc (.cells #[.slice c.ta c.tabs.length c.tc, .slice c.la c.lamps.length c.lc] 25)).alloc (.cells #[.int .i64 a, .int .i64 m, .int .i64 v] 48)).alloc (.cells #[.int .i64 0, .int .i64 0] 35)) = W0 at *
  have CB := Lib.hid CB
  have CZ := Lib.hid CZ
  have SZ := Lib.hid sz0
  clear sz0
  have K := Lib.hid (rlamped_any c n W0 (HC.out.more (by rw [SZ.out]; omega)))
  unfold Cat.tv Cat.lv at K
  have HE : Hid (fxE c n a m v = if errOf c n c.lamps.length ≠ 0 then errOf c n c.lamps.length else if useB a m v = true then 0 else 7) := rfl
  have HL : Hid (fxLo c n a m v = if fxE c n a m v ≠ 0 then 0 else flxLo (lmpAt c.lamps n.toNat) a m v) := rfl
  have HH : Hid (fxHi c n a m v = if fxE c n a m v ≠ 0 then 0 else flxHi (lmpAt c.lamps n.toNat) a m v) := rfl
  unfold maxLen at hml
  by_cases hz : errOf c n c.lamps.length = 0
  case neg =>
    have HF : Hid (fxE c n a m v = errOf c n c.lamps.length) := HE.out.trans (if_pos hz)
    have HF1 : Hid (fxLo c n a m v = 0) := HL.out.trans (if_pos (by rw [HF.out]; exact hz))
    have HF2 : Hid (fxHi c n a m v = 0) := HH.out.trans (if_pos (by rw [HF.out]; exact hz))
    have b2 : (errOf c n c.lamps.length != 0) = true := by simpa using hz
    have b3 : (errOf c n c.lamps.length == 0) = false := by simpa using hz
    clear hz
    obtain ⟨t0, t1, p0, p1, p2⟩ := CB.out W0 (fun _ _ => rfl)
    go_enter Try.func28, Try.ntmps28
    go_wp2_with fail
    (try rw [hW0])
    refine K.out.mono ?_
    rintro e w1 ⟨rfl, hb1⟩
    clear t0 t1 p0 p1 p2
    obtain ⟨z0, z1, z2, z3⟩ := CZ.out w1 (hb1.below.block _ (by rw [SZ.out]; omega))
    go_wp2_with fail
    refine bodyPost_ret (v := enclE 0 0 (errOf c n c.lamps.length)) (by simp [results, Try.results28, go_sem, z0, z1]) rfl ⟨by rw [HF.out, HF1.out, HF2.out], ?_⟩
    have obz := own0.trans (hb1.mono (by rw [SZ.out]; omega))
    exact (obz.setCell (p := ⟨w.heap.size + 1 + 1, 0, none⟩) (by show w.heap.size ≤ w.heap.size + 1 + 1; omega) _).setCell (p := ⟨w.heap.size + 1 + 1, 1, none⟩) (by show w.heap.size ≤ w.heap.size + 1 + 1; omega) _
  case pos =>
    obtain ⟨ok, hn0, hn1⟩ := errOf_ok hz
    have HZ := Lib.hid hz
    have HE2 : Hid (fxE c n a m v = if useB a m v = true then 0 else 7) := HE.out.trans (if_neg (fun hh => hh hz))
    clear hz HE
    obtain ⟨k, rfl⟩ := Int.eq_ofNat_of_zero_le hn0
    have hm : k < c.lamps.length := by omega
    cases hr : useB a m v
    case false =>
      have HE3 : Hid (fxE c k a m v = 7) := HE2.out.trans (if_neg (by rw [hr]; decide))
      have HF1 : Hid (fxLo c k a m v = 0) := HL.out.trans (if_pos (by rw [HE3.out]; decide))
      have HF2 : Hid (fxHi c k a m v = 0) := HH.out.trans (if_pos (by rw [HE3.out]; decide))
      have HR := Lib.hid hr
      have HUE := Lib.hid (usE_7 hr)
      clear hr
      obtain ⟨t0, t1, p0, p1, p2⟩ := CB.out W0 (fun _ _ => rfl)
      go_enter Try.func28, Try.ntmps28
      go_wp2_with fail
      (try rw [hW0])
      refine K.out.mono ?_
      rintro e w1 ⟨rfl, hb1⟩
      clear t0 t1 p0 p1 p2
      rw [HZ.out]
      obtain ⟨t0, t1, p0, p1, p2⟩ := CB.out w1 (fun k hk => hb1.below.block k (by rw [SZ.out]; omega))
      go_wp2_with fail
      refine (rused_any _ _ _ _).mono ?_
      rintro e w2 ⟨rfl, hb2⟩
      rw [HUE.out]
      have hb12 := hb1.trans (hb2.mono hb1.below.size)
      obtain ⟨z0, z1, z2, z3⟩ := CZ.out w2 (hb12.below.block _ (by rw [SZ.out]; omega))
      go_wp2_with fail
      refine bodyPost_ret (v := enclE 0 0 7) (by simp [results, Try.results28, go_sem, z0, z1]) rfl ⟨by rw [HE3.out, HF1.out, HF2.out], ?_⟩
      have obz := own0.trans (hb12.mono (by rw [SZ.out]; omega))
      exact (obz.setCell (p := ⟨w.heap.size + 1 + 1, 0, none⟩) (by show w.heap.size ≤ w.heap.size + 1 + 1; omega) _).setCell (p := ⟨w.heap.size + 1 + 1, 1, none⟩) (by show w.heap.size ≤ w.heap.size + 1 + 1; omega) _
    case true =>
      have HE3 : Hid (fxE c k a m v = 0) := HE2.out.trans (if_pos hr)
      have HF1 : Hid (fxLo c k a m v = flxLo (lmpAt c.lamps k) a m v) := HL.out.trans (if_neg (by rw [HE3.out]; exact fun hh => hh rfl))
      have HF2 : Hid (fxHi c k a m v = flxHi (lmpAt c.lamps k) a m v) := HH.out.trans (if_neg (by rw [HE3.out]; exact fun hh => hh rfl))
      have okl := ok.lmp k hm
      have HR := Lib.hid hr
      have HUE := Lib.hid (usE_0 hr)
      clear hr
      obtain ⟨t0, t1, p0, p1, p2⟩ := CB.out W0 (fun _ _ => rfl)
      go_enter Try.func28, Try.ntmps28
      go_wp2_with fail
      (try rw [hW0])
      refine K.out.mono ?_
      rintro e w1 ⟨rfl, hb1⟩
      clear t0 t1 p0 p1 p2
      rw [HZ.out]
      obtain ⟨t0, t1, p0, p1, p2⟩ := CB.out w1 (fun k hk => hb1.below.block k (by rw [SZ.out]; omega))
      go_wp2_with fail
      refine (rused_any _ _ _ _).mono ?_
      rintro e w2 ⟨rfl, hb2⟩
      rw [HUE.out]
      clear t0 t1 p0 p1 p2
      have hb12 := hb1.trans (hb2.mono hb1.below.size)
      have hk2 : ∀ k, k < w.heap.size + 1 + 1 + 1 → w2.heap[k]? = W0.heap[k]? := fun k hk => hb12.below.block k (by rw [SZ.out]; omega)
      obtain ⟨t0, t1, p0, p1, p2⟩ := CB.out w2 (fun k hk => hk2 k (by omega))
      have HC2 := HC.out.keep (hb12.below.mono (by rw [SZ.out]; omega)) (Nat.le_refl w.heap.size)
      obtain ⟨b, o, ha, hb, ht⟩ := lmpAt_cells HC2 hm
      have s2 : w.heap.size + 1 + 1 < w2.heap.size := by have := hb12.below.size; rw [SZ.out] at this; omega
      have OV := Lib.hid (rflux_any c.tabs.length (lmpAt c.lamps k) a m v w2.drew okl HR.out)
      unfold Lmp.val at OV
      rw [ha] at t1
      have KF := Lib.hid (show ∀ Wz : World, (∀ k, k < w.heap.size + 1 + 1 → Wz.heap[k]? = w2.heap[k]?) → (Wz.cell? ⟨w.heap.size, 1, none⟩ = some (.slice (some ⟨b, o, none⟩) c.lamps.length c.lc) ∧ Wz.cell? ⟨w.heap.size + 1, 0, none⟩ = some (.int .i64 a) ∧ Wz.cell? ⟨w.heap.size + 1, 1, none⟩ = some (.int .i64 m) ∧ Wz.cell? ⟨w.heap.size + 1, 2, none⟩ = some (.int .i64 v) ∧ Wz.cell? ⟨b, o + k * 14, none⟩ = some (.string (lmpAt c.lamps k).name) ∧ Wz.cell? ⟨b, o + k * 14 + 1, none⟩ = some (.int .i64 (lmpAt c.lamps k).table) ∧ Wz.cell? ⟨b, o + k * 14 + 2, none⟩ = some (.int .i64 (lmpAt c.lamps k).kind) ∧ Wz.cell? ⟨b, o + k * 14 + 3, none⟩ = some (.int .i64 (lmpAt c.lamps k).lumens) ∧ Wz.cell? ⟨b, o + k * 14 + 4, none⟩ = some (.int .i64 (lmpAt c.lamps k).power) ∧ Wz.cell? ⟨b, o + k * 14 + 5, none⟩ = some (.int .i64 (lmpAt c.lamps k).standing) ∧ Wz.cell? ⟨b, o + k * 14 + 6, none⟩ = some (.int .i64 (lmpAt c.lamps k).tol) ∧ Wz.cell? ⟨b, o + k * 14 + 7, none⟩ = some (.int .i64 (lmpAt c.lamps k).alo) ∧ Wz.cell? ⟨b, o + k * 14 + 8, none⟩ = some (.int .i64 (lmpAt c.lamps k).ahi) ∧ Wz.cell? ⟨b, o + k * 14 + 9, none⟩ = some (.int .i64 (lmpAt c.lamps k).dlo) ∧ Wz.cell? ⟨b, o + k * 14 + 10, none⟩ = some (.int .i64 (lmpAt c.lamps k).dhi) ∧ Wz.cell? ⟨b, o + k * 14 + 11, none⟩ = some (.int .i64 (lmpAt c.lamps k).life) ∧ Wz.cell? ⟨b, o + k * 14 + 12, none⟩ = some (.int .i64 (lmpAt c.lamps k).dim) ∧ Wz.cell? ⟨b, o + k * 14 + 13, none⟩ = some (.int .i64 (lmpAt c.lamps k).rest)) from fun Wz hk => by
        have e : ∀ p : Addr, p.block < w.heap.size + 1 + 1 → Wz.cell? p = w2.cell? p := fun p hp => World.cell?_of_block (hk _ hp)
        refine ⟨?_, ?_, ?_, ?_, ?_, ?_, ?_, ?_, ?_, ?_, ?_, ?_, ?_, ?_, ?_, ?_, ?_, ?_⟩
        · rw [e _ (by show w.heap.size < _; omega)]; exact t1
        · rw [e _ (by show w.heap.size + 1 < _; omega)]; exact p0
        · rw [e _ (by show w.heap.size + 1 < _; omega)]; exact p1
        · rw [e _ (by show w.heap.size + 1 < _; omega)]; exact p2
        · rw [e _ (by show b < _; omega)]; exact ht.c0
        · rw [e _ (by show b < _; omega)]; exact ht.c1
        · rw [e _ (by show b < _; omega)]; exact ht.c2
        · rw [e _ (by show b < _; omega)]; exact ht.c3
        · rw [e _ (by show b < _; omega)]; exact ht.c4
        · rw [e _ (by show b < _; omega)]; exact ht.c5
        · rw [e _ (by show b < _; omega)]; exact ht.c6
        · rw [e _ (by show b < _; omega)]; exact ht.c7
        · rw [e _ (by show b < _; omega)]; exact ht.c8
        · rw [e _ (by show b < _; omega)]; exact ht.c9
        · rw [e _ (by show b < _; omega)]; exact ht.c10
        · rw [e _ (by show b < _; omega)]; exact ht.c11
        · rw [e _ (by show b < _; omega)]; exact ht.c12
        · rw [e _ (by show b < _; omega)]; exact ht.c13)
      have n1 : (0 : Int) ≤ (k : Int) := by omega
      have n2 : (k : Int) < (c.lamps.length : Int) := by omega
      have n3 : k < c.lamps.length := hm
      clear t0 t1 p0 p1 p2 ht ha
      go_wp2_with fail
      go_region_held3 (fun w' => w'.cell? ⟨w.heap.size, 1, none⟩ = some (.slice (some ⟨b, o, none⟩) c.lamps.length c.lc) ∧ w'.cell? ⟨w.heap.size + 1, 0, none⟩ = some (.int .i64 a) ∧ w'.cell? ⟨w.heap.size + 1, 1, none⟩ = some (.int .i64 m) ∧ w'.cell? ⟨w.heap.size + 1, 2, none⟩ = some (.int .i64 v) ∧ w'.cell? ⟨b, o + k * 14, none⟩ = some (.string (lmpAt c.lamps k).name) ∧ w'.cell? ⟨b, o + k * 14 + 1, none⟩ = some (.int .i64 (lmpAt c.lamps k).table) ∧ w'.cell? ⟨b, o + k * 14 + 2, none⟩ = some (.int .i64 (lmpAt c.lamps k).kind) ∧ w'.cell? ⟨b, o + k * 14 + 3, none⟩ = some (.int .i64 (lmpAt c.lamps k).lumens) ∧ w'.cell? ⟨b, o + k * 14 + 4, none⟩ = some (.int .i64 (lmpAt c.lamps k).power) ∧ w'.cell? ⟨b, o + k * 14 + 5, none⟩ = some (.int .i64 (lmpAt c.lamps k).standing) ∧ w'.cell? ⟨b, o + k * 14 + 6, none⟩ = some (.int .i64 (lmpAt c.lamps k).tol) ∧ w'.cell? ⟨b, o + k * 14 + 7, none⟩ = some (.int .i64 (lmpAt c.lamps k).alo) ∧ w'.cell? ⟨b, o + k * 14 + 8, none⟩ = some (.int .i64 (lmpAt c.lamps k).ahi) ∧ w'.cell? ⟨b, o + k * 14 + 9, none⟩ = some (.int .i64 (lmpAt c.lamps k).dlo) ∧ w'.cell? ⟨b, o + k * 14 + 10, none⟩ = some (.int .i64 (lmpAt c.lamps k).dhi) ∧ w'.cell? ⟨b, o + k * 14 + 11, none⟩ = some (.int .i64 (lmpAt c.lamps k).life) ∧ w'.cell? ⟨b, o + k * 14 + 12, none⟩ = some (.int .i64 (lmpAt c.lamps k).dim) ∧ w'.cell? ⟨b, o + k * 14 + 13, none⟩ = some (.int .i64 (lmpAt c.lamps k).rest))
        (first | exact KF.out _ (fun _ _ => rfl) | exact KF.out _ (fun k hk => hbq.below.block k (by show k < w2.heap.size; omega)) | exact KF.out _ (fun k hk => (Below.heap_setCell _ _ _ k (by show k ≠ w.heap.size + 1 + 1; omega)).trans ((Below.heap_setCell _ _ _ k (by show k ≠ w.heap.size + 1 + 1; omega)).trans (hbq.below.block k (by show k < w2.heap.size; omega)))))
        (first | (go_at_call 65; (with_reducible refine OV.out.mono ?_); rintro e wq ⟨rfl, hbq⟩; obtain ⟨z0, z1, z2, z3⟩ := CZ.out wq ((hbq.below.block _ (by show w.heap.size + 1 + 1 < w2.heap.size; omega)).trans (hk2 _ (by omega))); dsimp only))
      go_wp2_with fail
      refine bodyPost_ret (v := enclE (flxLo (lmpAt c.lamps k) a m v) (flxHi (lmpAt c.lamps k) a m v) 0) (by simp [results, Try.results28, go_sem, z0, z1]) rfl ⟨by rw [HE3.out, HF1.out, HF2.out], ?_⟩
      have obz := (own0.trans (hb12.mono (by rw [SZ.out]; omega))).drew.trans (hbq.mono (by show w.heap.size ≤ w2.heap.size; omega))
      exact (obz.setCell (p := ⟨w.heap.size + 1 + 1, 0, none⟩) (by show w.heap.size ≤ w.heap.size + 1 + 1; omega) _).setCell (p := ⟨w.heap.size + 1 + 1, 1, none⟩) (by show w.heap.size ≤ w.heap.size + 1 + 1; omega) _
set_option maxHeartbeats 1000000 in
theorem rlevel_any (c : Cat) (n want : Int) (w : World) (h : CatIn w.heap.size c w) :
    Calls Try.prog 32 #[.agg #[c.tv, c.lv], .int .i64 n, .int .i64 want] w fun e w' => e = .returned (intE (lvlN c n want) (errOf c n c.lamps.length)) ∧ Own w.heap.size w w' := by
  have own0 : Own w.heap.size w (w.alloc (.cells #[c.tv, c.lv] 25)) := (Own.refl _ _).alloc (Nat.le_refl _) _
  have sz0 : w.heap.size < (w.alloc (.cells #[c.tv, c.lv] 25)).heap.size := by simp
  have b1 : (w.alloc (.cells #[c.tv, c.lv] 25)).cell? ⟨w.heap.size, 1, none⟩ = some (.slice c.la c.lamps.length c.lc) := by simp [go_sem, Cat.lv]
  have B1 := Lib.hid b1
  clear b1
  have hml := h.lamps.1
  have H1 := Lib.hid ((h.keep own0.below (Nat.le_refl _)).more (Nat.le_of_lt sz0))
  clear h
  have k := rlamped_any c n _ H1.out
  have K := Lib.hid k
  clear k
  unfold maxLen at hml
  unfold Cat.tv Cat.lv at *
  by_cases hz : errOf c n c.lamps.length = 0
  · obtain ⟨ok, hn0, hn1⟩ := errOf_ok hz
    have HE := Lib.hid hz
    obtain ⟨m, rfl⟩ := Int.eq_ofNat_of_zero_le hn0
    have hm : m < c.lamps.length := by omega
    have HN : Hid (lvlN c m want = lvl c m want) := by show lvlN c m want = _; unfold lvlN; rw [if_neg (fun hh => hh hz)]
    clear hz
    by_cases hw : want ≤ 0
    · have HF : Hid (lvlN c m want = 0) := HN.out.trans (if_pos hw)
      go_enter Try.func32, Try.ntmps32
      go_wp2_with fail
      refine K.out.mono ?_
      rintro e w1 ⟨rfl, hb1⟩
      have hb2 := own0.trans (hb1.mono (Nat.le_of_lt sz0))
      rw [HE.out]
      go_wp2_with fail
      go_ret2
      exact ⟨by rw [HF.out]; first | rfl | (rw [HE.out]; rfl), hb2⟩
    · have HF : Hid (lvlN c m want = min (max want (max (lmpAt c.lamps m).dim 1)) 1000) := HN.out.trans ((if_neg hw).trans (by show min (max want (lmpAt c.lamps m).dim) 1000 = min (max want (max (lmpAt c.lamps m).dim 1)) 1000; omega))
      go_enter Try.func32, Try.ntmps32
      go_wp2_with fail
      refine K.out.mono ?_
      rintro e w1 ⟨rfl, hb1⟩
      have hb2 := own0.trans (hb1.mono (Nat.le_of_lt sz0))
      obtain ⟨b, o, ha, hb, hl⟩ := lmpAt_cells (H1.out.keep hb1.below (Nat.le_refl _)) hm
      have r1 : w1.cell? ⟨w.heap.size, 1, none⟩ = some (.slice c.la c.lamps.length c.lc) := by rw [hb1.cell (p := ⟨w.heap.size, 1, none⟩) sz0]; exact B1.out
      rw [ha] at r1
      have c12 := hl.c12
      clear hl ha
      rw [HE.out]
      go_wp2_with fail
      go_ret2
      exact ⟨by rw [HF.out]; first | rfl | (rw [HE.out]; rfl), hb2⟩
  · have HF : Hid (lvlN c n want = 0) := by show lvlN c n want = 0; unfold lvlN; rw [if_pos hz]
    have b2 : (errOf c n c.lamps.length != 0) = true := by simpa using hz
    clear hz
    go_enter Try.func32, Try.ntmps32
    go_wp2_with fail
    refine K.out.mono ?_
    rintro e w1 ⟨rfl, hb1⟩
    have hb2 := own0.trans (hb1.mono (Nat.le_of_lt sz0))
    go_wp2_with fail
    go_ret2
    exact ⟨by rw [HF.out]; first | rfl | (rw [HE.out]; rfl), hb2⟩
end Go.Proofs.Ythmelkakgbchbaa
