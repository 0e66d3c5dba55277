/- remainder, flux and Flux of the code. -/
import Derived.Test.YtgmpipciinphiaaUse
import Derived.Test.YtgmpipciinphiaaLvl
namespace Go.Proofs.Ytgmpipciinphiaa
set_option linter.unusedSimpArgs false
set_option linter.unusedVariables false
open Go.RowKit Go.Shelf
attribute [local go_sem ↓] Go.wp_at_zero Go.wp_at_succ

theorem mul_bd {x X y Y : Int} (h0 : 0 ≤ x) (h1 : x ≤ X) (h2 : 0 ≤ y) (h3 : y ≤ Y) : 0 ≤ x * y ∧ x * y ≤ X * Y :=
  ⟨Int.mul_nonneg h0 h2, Int.mul_le_mul h1 h3 h2 (by omega)⟩

set_option maxHeartbeats 1000000 in
theorem remDown_any (lum ag di a m l : Int) (w : World) (h0 : 0 ≤ lum) (h1 : lum ≤ 1000000) (g0 : 0 ≤ ag) (g1 : ag ≤ 1000) (d0 : 0 ≤ di) (d1 : di ≤ 1000) (a0 : 0 ≤ a) (a1 : a ≤ 200000) (m0 : 0 ≤ m) (m1 : m ≤ 600) (l0 : 0 ≤ l) (l1 : l ≤ 1000) :
    Calls Try.prog 95 #[.int .i64 lum, .int .i64 ag, .int .i64 di, .agg #[.int .i64 a, .int .i64 m, .int .i64 l], .func (.func 57) #[] #[]] w fun e w' => e = .returned (.int .i64 (rem (fun a b => a / b) lum ag di a m l)) ∧ Own w.heap.size w w' := by
  have own0 : Own w.heap.size w (w.alloc (.cells #[.int .i64 a, .int .i64 m, .int .i64 l] 48)) := (Own.refl _ _).alloc (Nat.le_refl _) _
  have A := mul_bd g0 g1 a0 a1
  have e1 : IntKind.i64.wrap (ag * a) = ag * a := IntWalk.i64_in _ (by omega)
  have e2 : IntKind.i64.wrap (1000000 - ag * a) = 1000000 - ag * a := IntWalk.i64_in _ (by omega)
  have K1 : 0 ≤ max 0 (1000000 - ag * a) ∧ max 0 (1000000 - ag * a) ≤ 1000000 := by omega
  have L1 := mul_bd h0 h1 K1.1 K1.2
  have e3 : IntKind.i64.wrap (lum * max 0 (1000000 - ag * a)) = lum * max 0 (1000000 - ag * a) := IntWalk.i64_in _ (by omega)
  obtain ⟨r1, hr1⟩ : ∃ r1, r1 = (fun a b => a / b) (lum * max 0 (1000000 - ag * a)) 1000000 := ⟨_, rfl⟩
  have R1 : 0 ≤ r1 ∧ r1 ≤ lum := hr1 ▸ down_share lum _ 1000000 h0 K1.1 K1.2 (by omega)
  have C1 := Lib.hid (fun w : World => (show Calls Try.prog 57 #[.int .i64 (lum * max 0 (1000000 - ag * a)), .int .i64 1000000] w fun e w' => e = .returned (.int .i64 r1) ∧ w = w' from hr1 ▸ rounds_down _ _ w (by omega) (by omega) (by omega) (by omega)))
  have M := mul_bd d0 d1 m0 m1
  have e4 : IntKind.i64.wrap (di * m) = di * m := IntWalk.i64_in _ (by omega)
  have e5 : IntKind.i64.wrap (1000 - di * m) = 1000 - di * m := IntWalk.i64_in _ (by omega)
  have K2 : 0 ≤ max 0 (1000 - di * m) ∧ max 0 (1000 - di * m) ≤ 1000 := by omega
  have L2 := mul_bd R1.1 (Int.le_trans R1.2 h1) K2.1 K2.2
  have e6 : IntKind.i64.wrap (r1 * max 0 (1000 - di * m)) = r1 * max 0 (1000 - di * m) := IntWalk.i64_in _ (by omega)
  obtain ⟨r2, hr2⟩ : ∃ r2, r2 = (fun a b => a / b) (r1 * max 0 (1000 - di * m)) 1000 := ⟨_, rfl⟩
  have R2 : 0 ≤ r2 ∧ r2 ≤ r1 := hr2 ▸ down_share r1 _ 1000 R1.1 K2.1 K2.2 (by omega)
  have C2 := Lib.hid (fun w : World => (show Calls Try.prog 57 #[.int .i64 (r1 * max 0 (1000 - di * m)), .int .i64 1000] w fun e w' => e = .returned (.int .i64 r2) ∧ w = w' from hr2 ▸ rounds_down _ _ w (by omega) (by omega) (by omega) (by omega)))
  have L3 := mul_bd R2.1 (show r2 ≤ 1000000 by omega) l0 l1
  have e7 : IntKind.i64.wrap (r2 * l) = r2 * l := IntWalk.i64_in _ (by omega)
  obtain ⟨r3, hr3⟩ : ∃ r3, r3 = (fun a b => a / b) (r2 * l) 1000 := ⟨_, rfl⟩
  have C3 := Lib.hid (fun w : World => (show Calls Try.prog 57 #[.int .i64 (r2 * l), .int .i64 1000] w fun e w' => e = .returned (.int .i64 r3) ∧ w = w' from hr3 ▸ rounds_down _ _ w (by omega) (by omega) (by omega) (by omega)))
  have HF : Hid (rem (fun a b => a / b) lum ag di a m l = r3) := by show rem (fun a b => a / b) lum ag di a m l = r3; rw [hr3, hr2, hr1]; rfl
  clear hr1 hr2 hr3 A K1 L1 R1 M K2 L2 R2 L3
  go_enter Try.func95, Try.ntmps95
  go_wp2_with fail
  refine (C1.out _).mono ?_
  rintro e w1 ⟨rfl, rfl⟩
  go_wp2_with fail
  refine (C2.out _).mono ?_
  rintro e w1 ⟨rfl, rfl⟩
  go_wp2_with fail
  refine (C3.out _).mono ?_
  rintro e w1 ⟨rfl, rfl⟩
  go_wp2_with fail
  go_ret
  exact ⟨by rw [HF.out]; rfl, own0⟩

set_option maxHeartbeats 1000000 in
theorem remUp_any (lum ag di a m l : Int) (w : World) (h0 : 0 ≤ lum) (h1 : lum ≤ 1000000) (g0 : 0 ≤ ag) (g1 : ag ≤ 1000) (d0 : 0 ≤ di) (d1 : di ≤ 1000) (a0 : 0 ≤ a) (a1 : a ≤ 200000) (m0 : 0 ≤ m) (m1 : m ≤ 600) (l0 : 0 ≤ l) (l1 : l ≤ 1000) :
    Calls Try.prog 95 #[.int .i64 lum, .int .i64 ag, .int .i64 di, .agg #[.int .i64 a, .int .i64 m, .int .i64 l], .func (.func 58) #[] #[]] w fun e w' => e = .returned (.int .i64 (rem (upD) lum ag di a m l)) ∧ Own w.heap.size w w' := by
  have own0 : Own w.heap.size w (w.alloc (.cells #[.int .i64 a, .int .i64 m, .int .i64 l] 48)) := (Own.refl _ _).alloc (Nat.le_refl _) _
  have A := mul_bd g0 g1 a0 a1
  have e1 : IntKind.i64.wrap (ag * a) = ag * a := IntWalk.i64_in _ (by omega)
  have e2 : IntKind.i64.wrap (1000000 - ag * a) = 1000000 - ag * a := IntWalk.i64_in _ (by omega)
  have K1 : 0 ≤ max 0 (1000000 - ag * a) ∧ max 0 (1000000 - ag * a) ≤ 1000000 := by omega
  have L1 := mul_bd h0 h1 K1.1 K1.2
  have e3 : IntKind.i64.wrap (lum * max 0 (1000000 - ag * a)) = lum * max 0 (1000000 - ag * a) := IntWalk.i64_in _ (by omega)
  obtain ⟨r1, hr1⟩ : ∃ r1, r1 = (upD) (lum * max 0 (1000000 - ag * a)) 1000000 := ⟨_, rfl⟩
  have R1 : 0 ≤ r1 ∧ r1 ≤ lum := hr1 ▸ up_share lum _ 1000000 h0 K1.1 K1.2 (by omega)
  have C1 := Lib.hid (fun w : World => (show Calls Try.prog 58 #[.int .i64 (lum * max 0 (1000000 - ag * a)), .int .i64 1000000] w fun e w' => e = .returned (.int .i64 r1) ∧ w = w' from hr1 ▸ rounds_up _ _ w (by omega) (by omega) (by omega) (by omega)))
  have M := mul_bd d0 d1 m0 m1
  have e4 : IntKind.i64.wrap (di * m) = di * m := IntWalk.i64_in _ (by omega)
  have e5 : IntKind.i64.wrap (1000 - di * m) = 1000 - di * m := IntWalk.i64_in _ (by omega)
  have K2 : 0 ≤ max 0 (1000 - di * m) ∧ max 0 (1000 - di * m) ≤ 1000 := by omega
  have L2 := mul_bd R1.1 (Int.le_trans R1.2 h1) K2.1 K2.2
  have e6 : IntKind.i64.wrap (r1 * max 0 (1000 - di * m)) = r1 * max 0 (1000 - di * m) := IntWalk.i64_in _ (by omega)
  obtain ⟨r2, hr2⟩ : ∃ r2, r2 = (upD) (r1 * max 0 (1000 - di * m)) 1000 := ⟨_, rfl⟩
  have R2 : 0 ≤ r2 ∧ r2 ≤ r1 := hr2 ▸ up_share r1 _ 1000 R1.1 K2.1 K2.2 (by omega)
  have C2 := Lib.hid (fun w : World => (show Calls Try.prog 58 #[.int .i64 (r1 * max 0 (1000 - di * m)), .int .i64 1000] w fun e w' => e = .returned (.int .i64 r2) ∧ w = w' from hr2 ▸ rounds_up _ _ w (by omega) (by omega) (by omega) (by omega)))
  have L3 := mul_bd R2.1 (show r2 ≤ 1000000 by omega) l0 l1
  have e7 : IntKind.i64.wrap (r2 * l) = r2 * l := IntWalk.i64_in _ (by omega)
  obtain ⟨r3, hr3⟩ : ∃ r3, r3 = (upD) (r2 * l) 1000 := ⟨_, rfl⟩
  have C3 := Lib.hid (fun w : World => (show Calls Try.prog 58 #[.int .i64 (r2 * l), .int .i64 1000] w fun e w' => e = .returned (.int .i64 r3) ∧ w = w' from hr3 ▸ rounds_up _ _ w (by omega) (by omega) (by omega) (by omega)))
  have HF : Hid (rem (upD) lum ag di a m l = r3) := by show rem (upD) lum ag di a m l = r3; rw [hr3, hr2, hr1]; rfl
  clear hr1 hr2 hr3 A K1 L1 R1 M K2 L2 R2 L3
  go_enter Try.func95, Try.ntmps95
  go_wp2_with fail
  refine (C1.out _).mono ?_
  rintro e w1 ⟨rfl, rfl⟩
  go_wp2_with fail
  refine (C2.out _).mono ?_
  rintro e w1 ⟨rfl, rfl⟩
  go_wp2_with fail
  refine (C3.out _).mono ?_
  rintro e w1 ⟨rfl, rfl⟩
  go_wp2_with fail
  go_ret
  exact ⟨by rw [HF.out]; rfl, own0⟩

def Lmp.val (l : Lmp) : Value := .agg #[.string l.name, .int .i64 l.table, .int .i64 l.kind, .int .i64 l.lumens, .int .i64 l.power, .int .i64 l.standing, .int .i64 l.tol, .int .i64 l.alo, .int .i64 l.ahi, .int .i64 l.dlo, .int .i64 l.dhi, .int .i64 l.life, .int .i64 l.dim, .int .i64 l.rest]
def flxLo (l : Lmp) (a m v : Int) : Int := rem (fun a b => a / b) l.lumens l.ahi l.dhi a m v
def flxHi (l : Lmp) (a m v : Int) : Int := rem upD l.lumens l.alo l.dlo a m v

set_option maxRecDepth 100000 in
set_option maxHeartbeats 2000000 in
theorem flux_any (nt : Nat) (l : Lmp) (a m v : Int) (w : World) (ok : LmpOk nt l) (hu : useB a m v = true) :
    Calls Try.prog 63 #[l.val, .agg #[.int .i64 a, .int .i64 m, .int .i64 v]] w fun e w' => e = .returned (encl (flxLo l a m v) (flxHi l a m v)) ∧ Own w.heap.size w w' := by
  obtain ⟨u0, u1, u2, u3, u4, u5⟩ := useB_ok hu
  clear hu
  have D := Lib.hid (fun Wz : World => remDown_any l.lumens l.ahi l.dhi a m v Wz (by have := ok.l0; omega) ok.l1 (by have := ok.a0; have := ok.a1; omega) ok.a2 (by have := ok.d0; have := ok.d1; omega) ok.d2 u0 u1 u2 u3 u4 u5)
  have U := Lib.hid (fun Wz : World => remUp_any l.lumens l.alo l.dlo a m v Wz (by have := ok.l0; omega) ok.l1 ok.a0 (by have := ok.a1; have := ok.a2; omega) ok.d0 (by have := ok.d1; have := ok.d2; omega) u0 u1 u2 u3 u4 u5)
  unfold Lmp.val
  have own0 : Own w.heap.size w (((w.alloc (.cells #[.string l.name, .int .i64 l.table, .int .i64 l.kind, .int .i64 l.lumens, .int .i64 l.power, .int .i64 l.standing, .int .i64 l.tol, .int .i64 l.alo, .int .i64 l.ahi, .int .i64 l.dlo, .int .i64 l.dhi, .int .i64 l.life, .int .i64 l.dim, .int .i64 l.rest] 82)).alloc (.cells #[.int .i64 a, .int .i64 m, .int .i64 v] 48)).alloc (.cells #[.int .i64 0, .int .i64 0] 35)) := (((Own.refl _ _).alloc (Nat.le_refl _) _).alloc (by simp) _).alloc (by simp; omega) _
  have CB : ∀ Wz : World, (∀ k, k < w.heap.size + 1 + 1 → Wz.heap[k]? = (((w.alloc (.cells #[.string l.name, .int .i64 l.table, .int .i64 l.kind, .int .i64 l.lumens, .int .i64 l.power, .int .i64 l.standing, .int .i64 l.tol, .int .i64 l.alo, .int .i64 l.ahi, .int .i64 l.dlo, .int .i64 l.dhi, .int .i64 l.life, .int .i64 l.dim, .int .i64 l.rest] 82)).alloc (.cells #[.int .i64 a, .int .i64 m, .int .i64 v] 48)).alloc (.cells #[.int .i64 0, .int .i64 0] 35)).heap[k]?) →
      (Wz.cell? ⟨w.heap.size, 3, none⟩ = some (.int .i64 l.lumens) ∧ Wz.cell? ⟨w.heap.size, 7, none⟩ = some (.int .i64 l.alo) ∧ Wz.cell? ⟨w.heap.size, 8, none⟩ = some (.int .i64 l.ahi) ∧ Wz.cell? ⟨w.heap.size, 9, none⟩ = some (.int .i64 l.dlo) ∧ Wz.cell? ⟨w.heap.size, 10, none⟩ = some (.int .i64 l.dhi) ∧ Wz.cell? ⟨w.heap.size + 1, 0, none⟩ = some (.int .i64 a) ∧ Wz.cell? ⟨w.heap.size + 1, 1, none⟩ = some (.int .i64 m) ∧ Wz.cell? ⟨w.heap.size + 1, 2, none⟩ = some (.int .i64 v)) := fun Wz hk => by
    have e : ∀ p : Addr, p.block < w.heap.size + 1 + 1 → Wz.cell? p = World.cell? _ p := fun p hp => World.cell?_of_block (hk _ hp)
    refine ⟨?_, ?_, ?_, ?_, ?_, ?_, ?_, ?_⟩
    · rw [e _ (by show w.heap.size < _; omega)]; simp [go_sem]
    · rw [e _ (by show w.heap.size < _; omega)]; simp [go_sem]
    · rw [e _ (by show w.heap.size < _; omega)]; simp [go_sem]
    · rw [e _ (by show w.heap.size < _; omega)]; simp [go_sem]
    · rw [e _ (by show w.heap.size < _; omega)]; simp [go_sem]
    · rw [e _ (by show w.heap.size + 1 < _; omega)]; simp [go_sem]
    · rw [e _ (by show w.heap.size + 1 < _; omega)]; simp [go_sem]
    · rw [e _ (by show w.heap.size + 1 < _; omega)]; simp [go_sem]
  have CZ : ∀ Wz : World, Wz.heap[w.heap.size + 1 + 1]? = (((w.alloc (.cells #[.string l.name, .int .i64 l.table, .int .i64 l.kind, .int .i64 l.lumens, .int .i64 l.power, .int .i64 l.standing, .int .i64 l.tol, .int .i64 l.alo, .int .i64 l.ahi, .int .i64 l.dlo, .int .i64 l.dhi, .int .i64 l.life, .int .i64 l.dim, .int .i64 l.rest] 82)).alloc (.cells #[.int .i64 a, .int .i64 m, .int .i64 v] 48)).alloc (.cells #[.int .i64 0, .int .i64 0] 35)).heap[w.heap.size + 1 + 1]? →
      (Wz.cell? ⟨w.heap.size + 1 + 1, 0, none⟩ = some (.int .i64 0) ∧ Wz.cell? ⟨w.heap.size + 1 + 1, 1, none⟩ = some (.int .i64 0) ∧ Wz.frozen? ⟨w.heap.size + 1 + 1, 0, none⟩ = false ∧ Wz.frozen? ⟨w.heap.size + 1 + 1, 1, none⟩ = false) := fun Wz hk => by
    refine ⟨(World.cell?_of_block (a := ⟨w.heap.size + 1 + 1, 0, none⟩) hk).trans ?_, (World.cell?_of_block (a := ⟨w.heap.size + 1 + 1, 1, none⟩) hk).trans ?_, (World.frozen?_of_block (a := ⟨w.heap.size + 1 + 1, 0, none⟩) hk).trans ?_, (World.frozen?_of_block (a := ⟨w.heap.size + 1 + 1, 1, none⟩) hk).trans ?_⟩ <;> simp [go_sem]
  have sz0 : w.heap.size + 1 + 1 < (((w.alloc (.cells #[.string l.name, .int .i64 l.table, .int .i64 l.kind, .int .i64 l.lumens, .int .i64 l.power, .int .i64 l.standing, .int .i64 l.tol, .int .i64 l.alo, .int .i64 l.ahi, .int .i64 l.dlo, .int .i64 l.dhi, .int .i64 l.life, .int .i64 l.dim, .int .i64 l.rest] 82)).alloc (.cells #[.int .i64 a, .int .i64 m, .int .i64 v] 48)).alloc (.cells #[.int .i64 0, .int .i64 0] 35)).heap.size := by simp
  have CB := Lib.hid CB
  have CZ := Lib.hid CZ
  have SZ := Lib.hid sz0
  clear sz0
  go_enter Try.func63, Try.ntmps63
  go_wp2_with fail
  generalize (((w.alloc (.cells #[.string l.name, .int .i64 l.table, .int .i64 l.kind, .int .i64 l.lumens, .int .i64 l.power, .int .i64 l.standing, .int .i64 l.tol, .int .i64 l.alo, .int .i64 l.ahi, .int .i64 l.dlo, .int .i64 l.dhi, .int .i64 l.life, .int .i64 l.dim, .int .i64 l.rest] 82)).alloc (.cells #[.int .i64 a, .int .i64 m, .int .i64 v] 48)).alloc (.cells #[.int .i64 0, .int .i64 0] 35)) = W0 at *
  go_region_held3 (fun w' => w'.cell? ⟨w.heap.size, 3, none⟩ = some (.int .i64 l.lumens) ∧ w'.cell? ⟨w.heap.size, 7, none⟩ = some (.int .i64 l.alo) ∧ w'.cell? ⟨w.heap.size, 8, none⟩ = some (.int .i64 l.ahi) ∧ w'.cell? ⟨w.heap.size, 9, none⟩ = some (.int .i64 l.dlo) ∧ w'.cell? ⟨w.heap.size, 10, none⟩ = some (.int .i64 l.dhi) ∧ w'.cell? ⟨w.heap.size + 1, 0, none⟩ = some (.int .i64 a) ∧ w'.cell? ⟨w.heap.size + 1, 1, none⟩ = some (.int .i64 m) ∧ w'.cell? ⟨w.heap.size + 1, 2, none⟩ = some (.int .i64 v))
    (first | exact CB.out _ (fun _ _ => rfl) | exact CB.out _ (fun k hk => obq.below.block k (by show k < W0.heap.size; have := SZ.out; omega)) | exact CB.out _ (fun k hk => (Below.heap_setCell _ _ _ k (by show k ≠ w.heap.size + 1 + 1; omega)).trans ((Below.heap_setCell _ _ _ k (by show k ≠ w.heap.size + 1 + 1; omega)).trans (obq.below.block k (by show k < W0.heap.size; have := SZ.out; omega)))))
    (first | (go_at_call 95; (with_reducible refine (D.out W0.drew).mono ?_); rintro e wq ⟨rfl, obq⟩; obtain ⟨z0, z1, z2, z3⟩ := CZ.out wq (obq.below.block _ SZ.out); dsimp only) | (go_at_call 95; (with_reducible refine (U.out W0.drew).mono ?_); rintro e wq ⟨rfl, obq⟩; obtain ⟨z0, z1, z2, z3⟩ := CZ.out wq (obq.below.block _ SZ.out); dsimp only) | (go_at_call 95; (with_reducible refine (U.out wq).mono ?_); rintro e wr ⟨rfl, obr⟩; have obq := obq.trans (obr.mono obq.below.size); obtain ⟨z0, z1, z2, z3⟩ := CZ.out wr (obq.below.block _ SZ.out); dsimp only) | (go_at_call 95; (with_reducible refine (D.out wq).mono ?_); rintro e wr ⟨rfl, obr⟩; have obq := obq.trans (obr.mono obq.below.size); obtain ⟨z0, z1, z2, z3⟩ := CZ.out wr (obq.below.block _ SZ.out); dsimp only))
  go_wp2_with fail
  refine bodyPost_ret (v := encl (flxLo l a m v) (flxHi l a m v)) (by unfold flxLo flxHi; simp [results, Try.results63, go_sem, z0, z1]) rfl ⟨rfl, ?_⟩
  have obz := own0.drew.trans (obq.mono (by show w.heap.size ≤ W0.heap.size; have := SZ.out; omega))
  exact (obz.setCell (p := ⟨w.heap.size + 1 + 1, 0, none⟩) (by show w.heap.size ≤ w.heap.size + 1 + 1; omega) _).setCell (p := ⟨w.heap.size + 1 + 1, 1, none⟩) (by show w.heap.size ≤ w.heap.size + 1 + 1; omega) _


/-- what Flux answers -/
def fxE (c : Cat) (n a m v : Int) : Int := if errOf c n c.lamps.length ≠ 0 then errOf c n c.lamps.length else if useB a m v = true then 0 else 7
def fxLo (c : Cat) (n a m v : Int) : Int := if fxE c n a m v ≠ 0 then 0 else flxLo (lmpAt c.lamps n.toNat) a m v
def fxHi (c : Cat) (n a m v : Int) : Int := if fxE c n a m v ≠ 0 then 0 else flxHi (lmpAt c.lamps n.toNat) a m v

set_option maxRecDepth 100000 in
set_option maxHeartbeats 2000000 in
theorem Flux_any (c : Cat) (n a m v : Int) (w : World) (hc : CatIn w.heap.size c w) :
    Calls Try.prog 27 #[.agg #[c.tv, c.lv], .int .i64 n, .agg #[.int .i64 a, .int .i64 m, .int .i64 v]] w fun e w' => e = .returned (enclE (fxLo c n a m v) (fxHi c n a m v) (fxE c n a m v)) ∧ Own w.heap.size w w' := by
  have hml := hc.lamps.1
  have hc0 := Lib.hid hc
  unfold Cat.tv Cat.lv at *
  have own0 : Own w.heap.size w (((w.alloc (.cells #[.slice c.ta c.tabs.length c.tc, .slice c.la c.lamps.length c.lc] 25)).alloc (.cells #[.int .i64 a, .int .i64 m, .int .i64 v] 48)).alloc (.cells #[.int .i64 0, .int .i64 0] 35)) := (((Own.refl _ _).alloc (Nat.le_refl _) _).alloc (by simp) _).alloc (by simp; omega) _
  have sz0 : (((w.alloc (.cells #[.slice c.ta c.tabs.length c.tc, .slice c.la c.lamps.length c.lc] 25)).alloc (.cells #[.int .i64 a, .int .i64 m, .int .i64 v] 48)).alloc (.cells #[.int .i64 0, .int .i64 0] 35)).heap.size = w.heap.size + 1 + 1 + 1 := by simp
  have HC := Lib.hid ((hc0.out.keep own0.below (Nat.le_refl _)))
  clear hc hc0
  have CB : ∀ Wz : World, (∀ k, k < w.heap.size + 1 + 1 → Wz.heap[k]? = (((w.alloc (.cells #[.slice c.ta c.tabs.length c.tc, .slice c.la c.lamps.length c.lc] 25)).alloc (.cells #[.int .i64 a, .int .i64 m, .int .i64 v] 48)).alloc (.cells #[.int .i64 0, .int .i64 0] 35)).heap[k]?) → (Wz.cell? ⟨w.heap.size, 0, none⟩ = some (.slice c.ta c.tabs.length c.tc) ∧ Wz.cell? ⟨w.heap.size, 1, none⟩ = some (.slice c.la c.lamps.length c.lc) ∧ Wz.cell? ⟨w.heap.size + 1, 0, none⟩ = some (.int .i64 a) ∧ Wz.cell? ⟨w.heap.size + 1, 1, none⟩ = some (.int .i64 m) ∧ Wz.cell? ⟨w.heap.size + 1, 2, none⟩ = some (.int .i64 v)) := fun Wz hk => by
    have e : ∀ p : Addr, p.block < w.heap.size + 1 + 1 → Wz.cell? p = World.cell? _ p := fun p hp => World.cell?_of_block (hk _ hp)
    refine ⟨?_, ?_, ?_, ?_, ?_⟩
    · rw [e _ (by show w.heap.size < _; omega)]; simp [go_sem]
    · rw [e _ (by show w.heap.size < _; omega)]; simp [go_sem]
    · rw [e _ (by show w.heap.size + 1 < _; omega)]; simp [go_sem]
    · rw [e _ (by show w.heap.size + 1 < _; omega)]; simp [go_sem]
    · rw [e _ (by show w.heap.size + 1 < _; omega)]; simp [go_sem]
  have CZ : ∀ Wz : World, Wz.heap[w.heap.size + 1 + 1]? = (((w.alloc (.cells #[.slice c.ta c.tabs.length c.tc, .slice c.la c.lamps.length c.lc] 25)).alloc (.cells #[.int .i64 a, .int .i64 m, .int .i64 v] 48)).alloc (.cells #[.int .i64 0, .int .i64 0] 35)).heap[w.heap.size + 1 + 1]? →
      (Wz.cell? ⟨w.heap.size + 1 + 1, 0, none⟩ = some (.int .i64 0) ∧ Wz.cell? ⟨w.heap.size + 1 + 1, 1, none⟩ = some (.int .i64 0) ∧ Wz.frozen? ⟨w.heap.size + 1 + 1, 0, none⟩ = false ∧ Wz.frozen? ⟨w.heap.size + 1 + 1, 1, none⟩ = false) := fun Wz hk => by
    refine ⟨(World.cell?_of_block (a := ⟨w.heap.size + 1 + 1, 0, none⟩) hk).trans ?_, (World.cell?_of_block (a := ⟨w.heap.size + 1 + 1, 1, none⟩) hk).trans ?_, (World.frozen?_of_block (a := ⟨w.heap.size + 1 + 1, 0, none⟩) hk).trans ?_, (World.frozen?_of_block (a := ⟨w.heap.size + 1 + 1, 1, none⟩) hk).trans ?_⟩ <;> simp [go_sem]
  generalize hW0 : (((w.alloc (.cells #[.slice c.ta c.tabs.length c.tc, .slice c.la c.lamps.length c.lc] 25)).alloc (.cells #[.int .i64 a, .int .i64 m, .int .i64 v] 48)).alloc (.cells #[.int .i64 0, .int .i64 0] 35)) = W0 at *
  have CB := Lib.hid CB
  have CZ := Lib.hid CZ
  have SZ := Lib.hid sz0
  clear sz0
  have K := Lib.hid (errorOf_any c n c.lamps.length W0 (HC.out.more (by rw [SZ.out]; omega)) hml)
  unfold Cat.tv Cat.lv at K
  have HE : Hid (fxE c n a m v = if errOf c n c.lamps.length ≠ 0 then errOf c n c.lamps.length else if useB a m v = true then 0 else 7) := rfl
  have HL : Hid (fxLo c n a m v = if fxE c n a m v ≠ 0 then 0 else flxLo (lmpAt c.lamps n.toNat) a m v) := rfl
  have HH : Hid (fxHi c n a m v = if fxE c n a m v ≠ 0 then 0 else flxHi (lmpAt c.lamps n.toNat) a m v) := rfl
  unfold maxLen at hml
  by_cases hz : errOf c n c.lamps.length = 0
  case neg =>
    have HF : Hid (fxE c n a m v = errOf c n c.lamps.length) := HE.out.trans (if_pos hz)
    have HF1 : Hid (fxLo c n a m v = 0) := HL.out.trans (if_pos (by rw [HF.out]; exact hz))
    have HF2 : Hid (fxHi c n a m v = 0) := HH.out.trans (if_pos (by rw [HF.out]; exact hz))
    have b2 : (errOf c n c.lamps.length != 0) = true := by simpa using hz
    clear hz
    obtain ⟨t0, t1, p0, p1, p2⟩ := CB.out W0 (fun _ _ => rfl)
    go_enter Try.func27, Try.ntmps27
    go_wp2_with fail
    (try rw [hW0])
    refine K.out.mono ?_
    rintro e w1 ⟨rfl, hb1⟩
    clear t0 t1 p0 p1 p2
    obtain ⟨z0, z1, z2, z3⟩ := CZ.out w1 (hb1.below.block _ (by rw [SZ.out]; omega))
    go_wp2_with fail
    refine bodyPost_ret (v := enclE 0 0 (errOf c n c.lamps.length)) (by simp [results, Try.results27, go_sem, z0, z1]) rfl ⟨by rw [HF.out, HF1.out, HF2.out], ?_⟩
    have obz := own0.trans (hb1.mono (by rw [SZ.out]; omega))
    exact (obz.setCell (p := ⟨w.heap.size + 1 + 1, 0, none⟩) (by show w.heap.size ≤ w.heap.size + 1 + 1; omega) _).setCell (p := ⟨w.heap.size + 1 + 1, 1, none⟩) (by show w.heap.size ≤ w.heap.size + 1 + 1; omega) _
  case pos =>
    obtain ⟨ok, hn0, hn1⟩ := errOf_ok hz
    have HZ := Lib.hid hz
    have HE2 : Hid (fxE c n a m v = if useB a m v = true then 0 else 7) := HE.out.trans (if_neg (fun hh => hh hz))
    clear hz HE
    obtain ⟨k, rfl⟩ := Int.eq_ofNat_of_zero_le hn0
    have hm : k < c.lamps.length := by omega
    cases hr : useB a m v
    case false =>
      have HE3 : Hid (fxE c k a m v = 7) := HE2.out.trans (if_neg (by rw [hr]; decide))
      have HF1 : Hid (fxLo c k a m v = 0) := HL.out.trans (if_pos (by rw [HE3.out]; decide))
      have HF2 : Hid (fxHi c k a m v = 0) := HH.out.trans (if_pos (by rw [HE3.out]; decide))
      have HR := Lib.hid hr
      clear hr
      obtain ⟨t0, t1, p0, p1, p2⟩ := CB.out W0 (fun _ _ => rfl)
      go_enter Try.func27, Try.ntmps27
      go_wp2_with fail
      (try rw [hW0])
      refine K.out.mono ?_
      rintro e w1 ⟨rfl, hb1⟩
      clear t0 t1 p0 p1 p2
      rw [HZ.out]
      obtain ⟨t0, t1, p0, p1, p2⟩ := CB.out w1 (fun k hk => hb1.below.block k (by rw [SZ.out]; omega))
      go_wp2_with fail
      refine (isUse_any _ _ _ _).mono ?_
      rintro e w2 ⟨rfl, hb2⟩
      rw [HR.out]
      have hb12 := hb1.trans (hb2.mono hb1.below.size)
      obtain ⟨z0, z1, z2, z3⟩ := CZ.out w2 (hb12.below.block _ (by rw [SZ.out]; omega))
      go_wp2_with fail
      refine bodyPost_ret (v := enclE 0 0 7) (by simp [results, Try.results27, go_sem, z0, z1]) rfl ⟨by rw [HE3.out, HF1.out, HF2.out], ?_⟩
      have obz := own0.trans (hb12.mono (by rw [SZ.out]; omega))
      exact (obz.setCell (p := ⟨w.heap.size + 1 + 1, 0, none⟩) (by show w.heap.size ≤ w.heap.size + 1 + 1; omega) _).setCell (p := ⟨w.heap.size + 1 + 1, 1, none⟩) (by show w.heap.size ≤ w.heap.size + 1 + 1; omega) _
    case true =>
      have HE3 : Hid (fxE c k a m v = 0) := HE2.out.trans (if_pos hr)
      have HF1 : Hid (fxLo c k a m v = flxLo (lmpAt c.lamps k) a m v) := HL.out.trans (if_neg (by rw [HE3.out]; exact fun hh => hh rfl))
      have HF2 : Hid (fxHi c k a m v = flxHi (lmpAt c.lamps k) a m v) := HH.out.trans (if_neg (by rw [HE3.out]; exact fun hh => hh rfl))
      have okl := ok.lmp k hm
      have HR := Lib.hid hr
      clear hr
      obtain ⟨t0, t1, p0, p1, p2⟩ := CB.out W0 (fun _ _ => rfl)
      go_enter Try.func27, Try.ntmps27
      go_wp2_with fail
      (try rw [hW0])
      refine K.out.mono ?_
      rintro e w1 ⟨rfl, hb1⟩
      clear t0 t1 p0 p1 p2
      rw [HZ.out]
      obtain ⟨t0, t1, p0, p1, p2⟩ := CB.out w1 (fun k hk => hb1.below.block k (by rw [SZ.out]; omega))
      go_wp2_with fail
      refine (isUse_any _ _ _ _).mono ?_
      rintro e w2 ⟨rfl, hb2⟩
      rw [HR.out]
      clear t0 t1 p0 p1 p2
      have hb12 := hb1.trans (hb2.mono hb1.below.size)
      have hk2 : ∀ k, k < w.heap.size + 1 + 1 + 1 → w2.heap[k]? = W0.heap[k]? := fun k hk => hb12.below.block k (by rw [SZ.out]; omega)
      obtain ⟨t0, t1, p0, p1, p2⟩ := CB.out w2 (fun k hk => hk2 k (by omega))
      have HC2 := HC.out.keep (hb12.below.mono (by rw [SZ.out]; omega)) (Nat.le_refl w.heap.size)
      obtain ⟨b, o, ha, hb, ht⟩ := lmpAt_cells HC2 hm
      have s2 : w.heap.size + 1 + 1 < w2.heap.size := by have := hb12.below.size; rw [SZ.out] at this; omega
      have OV := Lib.hid (flux_any c.tabs.length (lmpAt c.lamps k) a m v w2.drew okl HR.out)
      unfold Lmp.val at OV
      rw [ha] at t1
      have KF := Lib.hid (show ∀ Wz : World, (∀ k, k < w.heap.size + 1 + 1 → Wz.heap[k]? = w2.heap[k]?) → (Wz.cell? ⟨w.heap.size, 1, none⟩ = some (.slice (some ⟨b, o, none⟩) c.lamps.length c.lc) ∧ Wz.cell? ⟨w.heap.size + 1, 0, none⟩ = some (.int .i64 a) ∧ Wz.cell? ⟨w.heap.size + 1, 1, none⟩ = some (.int .i64 m) ∧ Wz.cell? ⟨w.heap.size + 1, 2, none⟩ = some (.int .i64 v) ∧ Wz.cell? ⟨b, o + k * 14, none⟩ = some (.string (lmpAt c.lamps k).name) ∧ Wz.cell? ⟨b, o + k * 14 + 1, none⟩ = some (.int .i64 (lmpAt c.lamps k).table) ∧ Wz.cell? ⟨b, o + k * 14 + 2, none⟩ = some (.int .i64 (lmpAt c.lamps k).kind) ∧ Wz.cell? ⟨b, o + k * 14 + 3, none⟩ = some (.int .i64 (lmpAt c.lamps k).lumens) ∧ Wz.cell? ⟨b, o + k * 14 + 4, none⟩ = some (.int .i64 (lmpAt c.lamps k).power) ∧ Wz.cell? ⟨b, o + k * 14 + 5, none⟩ = some (.int .i64 (lmpAt c.lamps k).standing) ∧ Wz.cell? ⟨b, o + k * 14 + 6, none⟩ = some (.int .i64 (lmpAt c.lamps k).tol) ∧ Wz.cell? ⟨b, o + k * 14 + 7, none⟩ = some (.int .i64 (lmpAt c.lamps k).alo) ∧ Wz.cell? ⟨b, o + k * 14 + 8, none⟩ = some (.int .i64 (lmpAt c.lamps k).ahi) ∧ Wz.cell? ⟨b, o + k * 14 + 9, none⟩ = some (.int .i64 (lmpAt c.lamps k).dlo) ∧ Wz.cell? ⟨b, o + k * 14 + 10, none⟩ = some (.int .i64 (lmpAt c.lamps k).dhi) ∧ Wz.cell? ⟨b, o + k * 14 + 11, none⟩ = some (.int .i64 (lmpAt c.lamps k).life) ∧ Wz.cell? ⟨b, o + k * 14 + 12, none⟩ = some (.int .i64 (lmpAt c.lamps k).dim) ∧ Wz.cell? ⟨b, o + k * 14 + 13, none⟩ = some (.int .i64 (lmpAt c.lamps k).rest)) from fun Wz hk => by
        have e : ∀ p : Addr, p.block < w.heap.size + 1 + 1 → Wz.cell? p = w2.cell? p := fun p hp => World.cell?_of_block (hk _ hp)
        refine ⟨?_, ?_, ?_, ?_, ?_, ?_, ?_, ?_, ?_, ?_, ?_, ?_, ?_, ?_, ?_, ?_, ?_, ?_⟩
        · rw [e _ (by show w.heap.size < _; omega)]; exact t1
        · rw [e _ (by show w.heap.size + 1 < _; omega)]; exact p0
        · rw [e _ (by show w.heap.size + 1 < _; omega)]; exact p1
        · rw [e _ (by show w.heap.size + 1 < _; omega)]; exact p2
        · rw [e _ (by show b < _; omega)]; exact ht.c0
        · rw [e _ (by show b < _; omega)]; exact ht.c1
        · rw [e _ (by show b < _; omega)]; exact ht.c2
        · rw [e _ (by show b < _; omega)]; exact ht.c3
        · rw [e _ (by show b < _; omega)]; exact ht.c4
        · rw [e _ (by show b < _; omega)]; exact ht.c5
        · rw [e _ (by show b < _; omega)]; exact ht.c6
        · rw [e _ (by show b < _; omega)]; exact ht.c7
        · rw [e _ (by show b < _; omega)]; exact ht.c8
        · rw [e _ (by show b < _; omega)]; exact ht.c9
        · rw [e _ (by show b < _; omega)]; exact ht.c10
        · rw [e _ (by show b < _; omega)]; exact ht.c11
        · rw [e _ (by show b < _; omega)]; exact ht.c12
        · rw [e _ (by show b < _; omega)]; exact ht.c13)
      have n1 : (0 : Int) ≤ (k : Int) := by omega
      have n2 : (k : Int) < (c.lamps.length : Int) := by omega
      have n3 : k < c.lamps.length := hm
      clear t0 t1 p0 p1 p2 ht ha
      go_wp2_with fail
      go_region_held3 (fun w' => w'.cell? ⟨w.heap.size, 1, none⟩ = some (.slice (some ⟨b, o, none⟩) c.lamps.length c.lc) ∧ w'.cell? ⟨w.heap.size + 1, 0, none⟩ = some (.int .i64 a) ∧ w'.cell? ⟨w.heap.size + 1, 1, none⟩ = some (.int .i64 m) ∧ w'.cell? ⟨w.heap.size + 1, 2, none⟩ = some (.int .i64 v) ∧ w'.cell? ⟨b, o + k * 14, none⟩ = some (.string (lmpAt c.lamps k).name) ∧ w'.cell? ⟨b, o + k * 14 + 1, none⟩ = some (.int .i64 (lmpAt c.lamps k).table) ∧ w'.cell? ⟨b, o + k * 14 + 2, none⟩ = some (.int .i64 (lmpAt c.lamps k).kind) ∧ w'.cell? ⟨b, o + k * 14 + 3, none⟩ = some (.int .i64 (lmpAt c.lamps k).lumens) ∧ w'.cell? ⟨b, o + k * 14 + 4, none⟩ = some (.int .i64 (lmpAt c.lamps k).power) ∧ w'.cell? ⟨b, o + k * 14 + 5, none⟩ = some (.int .i64 (lmpAt c.lamps k).standing) ∧ w'.cell? ⟨b, o + k * 14 + 6, none⟩ = some (.int .i64 (lmpAt c.lamps k).tol) ∧ w'.cell? ⟨b, o + k * 14 + 7, none⟩ = some (.int .i64 (lmpAt c.lamps k).alo) ∧ w'.cell? ⟨b, o + k * 14 + 8, none⟩ = some (.int .i64 (lmpAt c.lamps k).ahi) ∧ w'.cell? ⟨b, o + k * 14 + 9, none⟩ = some (.int .i64 (lmpAt c.lamps k).dlo) ∧ w'.cell? ⟨b, o + k * 14 + 10, none⟩ = some (.int .i64 (lmpAt c.lamps k).dhi) ∧ w'.cell? ⟨b, o + k * 14 + 11, none⟩ = some (.int .i64 (lmpAt c.lamps k).life) ∧ w'.cell? ⟨b, o + k * 14 + 12, none⟩ = some (.int .i64 (lmpAt c.lamps k).dim) ∧ w'.cell? ⟨b, o + k * 14 + 13, none⟩ = some (.int .i64 (lmpAt c.lamps k).rest))
        (first | exact KF.out _ (fun _ _ => rfl) | exact KF.out _ (fun k hk => hbq.below.block k (by show k < w2.heap.size; omega)) | exact KF.out _ (fun k hk => (Below.heap_setCell _ _ _ k (by show k ≠ w.heap.size + 1 + 1; omega)).trans ((Below.heap_setCell _ _ _ k (by show k ≠ w.heap.size + 1 + 1; omega)).trans (hbq.below.block k (by show k < w2.heap.size; omega)))))
        (first | (go_at_call 63; (with_reducible refine OV.out.mono ?_); rintro e wq ⟨rfl, hbq⟩; obtain ⟨z0, z1, z2, z3⟩ := CZ.out wq ((hbq.below.block _ (by show w.heap.size + 1 + 1 < w2.heap.size; omega)).trans (hk2 _ (by omega))); dsimp only))
      go_wp2_with fail
      refine bodyPost_ret (v := enclE (flxLo (lmpAt c.lamps k) a m v) (flxHi (lmpAt c.lamps k) a m v) 0) (by simp [results, Try.results27, go_sem, z0, z1]) rfl ⟨by rw [HE3.out, HF1.out, HF2.out], ?_⟩
      have obz := (own0.trans (hb12.mono (by rw [SZ.out]; omega))).drew.trans (hbq.mono (by show w.heap.size ≤ w2.heap.size; omega))
      exact (obz.setCell (p := ⟨w.heap.size + 1 + 1, 0, none⟩) (by show w.heap.size ≤ w.heap.size + 1 + 1; omega) _).setCell (p := ⟨w.heap.size + 1 + 1, 1, none⟩) (by show w.heap.size ≤ w.heap.size + 1 + 1; omega) _
end Go.Proofs.Ytgmpipciinphiaa
