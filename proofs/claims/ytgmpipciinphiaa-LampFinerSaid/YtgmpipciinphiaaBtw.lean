/- Between two enclosures: Only, between. -/
import Derived.Test.YtgmpipciinphiaaQup
import Derived.RegionTactic
import Derived.Deep.RegionHeld3
import Derived.StillTailTactics
namespace Go.Proofs.Ytgmpipciinphiaa
set_option linter.unusedSimpArgs false
set_option linter.unusedVariables false
open Go.RowKit

theorem only_any (a : Int) (w : World) : Calls Try.prog 89 #[.int .i64 a] w fun e w' => e = .returned (encl a a) ∧ Own w.heap.size w w' := by
  go_enter Try.func89, Try.ntmps89
  go_wp2_with fail
  refine bodyPost_ret (v := encl a a) (by simp [results, Try.results89, go_sem]) rfl ⟨rfl, ?_⟩
  first | exact (Own.refl _ _).alloc (Nat.le_refl _) _ | (refine Own.setCell (Own.setCell ((Own.refl _ _).alloc (Nat.le_refl _) _) ?_ _) ?_ _ <;> simp)

/-- the cells that between reads -/
def Kb (W : World) (s : Nat) (p0 p1 p2 p3 a0 a1 b0 b1 : Int) (w : World) : Prop :=
  w.cell? ⟨s, 0, none⟩ = some (.int .i64 p0) ∧ w.cell? ⟨s, 1, none⟩ = some (.int .i64 p1) ∧ w.cell? ⟨s, 2, none⟩ = some (.int .i64 p2) ∧ w.cell? ⟨s, 3, none⟩ = some (.int .i64 p3) ∧
  w.cell? ⟨s + 1, 0, none⟩ = some (.int .i64 a0) ∧ w.cell? ⟨s + 1, 1, none⟩ = some (.int .i64 a1) ∧ w.cell? ⟨s + 1 + 1, 0, none⟩ = some (.int .i64 b0) ∧ w.cell? ⟨s + 1 + 1, 1, none⟩ = some (.int .i64 b1) ∧ Own W.heap.size W w
theorem Kb.drew {W : World} {s : Nat} {p0 p1 p2 p3 a0 a1 b0 b1 : Int} {w : World} (h : Kb W s p0 p1 p2 p3 a0 a1 b0 b1 w) : Kb W s p0 p1 p2 p3 a0 a1 b0 b1 w.drew := by
  obtain ⟨k0, k1, k2, k3, k4, k5, k6, k7, k8⟩ := h
  exact ⟨k0, k1, k2, k3, k4, k5, k6, k7, k8.drew⟩

theorem Kb.set {W : World} {s : Nat} {p0 p1 p2 p3 a0 a1 b0 b1 : Int} {w : World} {u v : Value} (h : Kb W s p0 p1 p2 p3 a0 a1 b0 b1 w) (hs : W.heap.size ≤ s) : Kb W s p0 p1 p2 p3 a0 a1 b0 b1 ((w.setCell ⟨s + 1 + 1 + 1, 0, none⟩ u).setCell ⟨s + 1 + 1 + 1, 1, none⟩ v) := by
  obtain ⟨k0, k1, k2, k3, k4, k5, k6, k7, k8⟩ := h
  refine ⟨?_, ?_, ?_, ?_, ?_, ?_, ?_, ?_, Own.setCell (Own.setCell k8 (by show _ ≤ s + 1 + 1 + 1; omega) _) (by show _ ≤ s + 1 + 1 + 1; omega) _⟩ <;> simp [go_sem, k0, k1, k2, k3, k4, k5, k6, k7]

set_option maxRecDepth 100000 in
set_option maxHeartbeats 1000000 in
theorem between_any (t f s al a0 a1 b0 b1 : Int) (w : World) (hd : 0 < al) (hd1 : al ≤ 9000000000000000000)
    (m1 : -4000000000000000000 ≤ f * a0 ∧ f * a0 ≤ 4000000000000000000) (m2 : -4000000000000000000 ≤ s * b0 ∧ s * b0 ≤ 4000000000000000000)
    (m3 : -4000000000000000000 ≤ f * a1 ∧ f * a1 ≤ 4000000000000000000) (m4 : -4000000000000000000 ≤ s * b1 ∧ s * b1 ≤ 4000000000000000000) :
    Calls Try.prog 106 #[.agg #[.int .i64 t, .int .i64 f, .int .i64 s, .int .i64 al], encl a0 a1, encl b0 b1] w fun e w' => e = .returned (encl ((f * a0 + s * b0) / al) (upD (f * a1 + s * b1) al)) ∧ Own w.heap.size w w' := by
  obtain ⟨m1, n1⟩ := m1
  obtain ⟨m2, n2⟩ := m2
  obtain ⟨m3, n3⟩ := m3
  obtain ⟨m4, n4⟩ := m4
  have w1 : IntKind.i64.wrap (f * a0) = f * a0 := IntWalk.i64_in _ (by omega)
  have w2 : IntKind.i64.wrap (s * b0) = s * b0 := IntWalk.i64_in _ (by omega)
  have w3 : IntKind.i64.wrap (f * a1) = f * a1 := IntWalk.i64_in _ (by omega)
  have w4 : IntKind.i64.wrap (s * b1) = s * b1 := IntWalk.i64_in _ (by omega)
  have w5 : IntKind.i64.wrap (f * a0 + s * b0) = f * a0 + s * b0 := IntWalk.i64_in _ (by omega)
  have w6 : IntKind.i64.wrap (f * a1 + s * b1) = f * a1 + s * b1 := IntWalk.i64_in _ (by omega)
  have dn := fun W => down_any (f * a0 + s * b0) al W hd (by omega) (by omega) (by omega)
  have up := fun W => up_any (f * a1 + s * b1) al W hd (by omega) (by omega) (by omega)
  have DN := Lib.hid dn
  have UP := Lib.hid up
  clear dn up
  have own0 : Own w.heap.size w ((((w.alloc (.cells #[.int .i64 t, .int .i64 f, .int .i64 s, .int .i64 al] 123)).alloc (.cells #[.int .i64 a0, .int .i64 a1] 35)).alloc (.cells #[.int .i64 b0, .int .i64 b1] 35)).alloc (.cells #[.int .i64 0, .int .i64 0] 35)) :=
    ((((Own.refl _ _).alloc (Nat.le_refl _) _).alloc (by simp) _).alloc (by simp; omega) _).alloc (by simp; omega) _
  have hS : Kb w w.heap.size t f s al a0 a1 b0 b1 ((((w.alloc (.cells #[.int .i64 t, .int .i64 f, .int .i64 s, .int .i64 al] 123)).alloc (.cells #[.int .i64 a0, .int .i64 a1] 35)).alloc (.cells #[.int .i64 b0, .int .i64 b1] 35)).alloc (.cells #[.int .i64 0, .int .i64 0] 35)) := by
    refine ⟨?_, ?_, ?_, ?_, ?_, ?_, ?_, ?_, own0⟩ <;> simp [go_sem]
  have r0 : ((((w.alloc (.cells #[.int .i64 t, .int .i64 f, .int .i64 s, .int .i64 al] 123)).alloc (.cells #[.int .i64 a0, .int .i64 a1] 35)).alloc (.cells #[.int .i64 b0, .int .i64 b1] 35)).alloc (.cells #[.int .i64 0, .int .i64 0] 35)).cell? ⟨w.heap.size + 1 + 1 + 1, 0, none⟩ = some (.int .i64 0) := by simp [go_sem]
  have r1 : ((((w.alloc (.cells #[.int .i64 t, .int .i64 f, .int .i64 s, .int .i64 al] 123)).alloc (.cells #[.int .i64 a0, .int .i64 a1] 35)).alloc (.cells #[.int .i64 b0, .int .i64 b1] 35)).alloc (.cells #[.int .i64 0, .int .i64 0] 35)).cell? ⟨w.heap.size + 1 + 1 + 1, 1, none⟩ = some (.int .i64 0) := by simp [go_sem]
  have g0 : ((((w.alloc (.cells #[.int .i64 t, .int .i64 f, .int .i64 s, .int .i64 al] 123)).alloc (.cells #[.int .i64 a0, .int .i64 a1] 35)).alloc (.cells #[.int .i64 b0, .int .i64 b1] 35)).alloc (.cells #[.int .i64 0, .int .i64 0] 35)).frozen? ⟨w.heap.size + 1 + 1 + 1, 0, none⟩ = false := by simp [go_sem]
  have g1 : ((((w.alloc (.cells #[.int .i64 t, .int .i64 f, .int .i64 s, .int .i64 al] 123)).alloc (.cells #[.int .i64 a0, .int .i64 a1] 35)).alloc (.cells #[.int .i64 b0, .int .i64 b1] 35)).alloc (.cells #[.int .i64 0, .int .i64 0] 35)).frozen? ⟨w.heap.size + 1 + 1 + 1, 1, none⟩ = false := by simp [go_sem]
  go_enter Try.func106, Try.ntmps106
  go_wp2_with fail
  generalize (((w.alloc (.cells #[.int .i64 t, .int .i64 f, .int .i64 s, .int .i64 al] 123)).alloc (.cells #[.int .i64 a0, .int .i64 a1] 35)).alloc (.cells #[.int .i64 b0, .int .i64 b1] 35)).alloc (.cells #[.int .i64 0, .int .i64 0] 35) = W at *
  obtain ⟨k0, k1, k2, k3, k4, k5, k6, k7, k8⟩ := hS
  go_still_tail 29, (by kernel_rfl)
  still_call ((DN.out _).mono fun _ _ hh => ⟨hh.1, hh.2.symm⟩)
  repeat still_step
  still_call ((UP.out _).mono fun _ _ hh => ⟨hh.1, hh.2.symm⟩)
  repeat still_step
  refine wpStill_nil ?_
  have k9 : Own w.heap.size w W.drew := k8.drew
  have q0 : W.drew.cell? ⟨w.heap.size + 1 + 1 + 1, 0, none⟩ = some (.int .i64 0) := r0
  have q1 : W.drew.cell? ⟨w.heap.size + 1 + 1 + 1, 1, none⟩ = some (.int .i64 0) := r1
  have f0 : W.drew.frozen? ⟨w.heap.size + 1 + 1 + 1, 0, none⟩ = false := g0
  have f1 : W.drew.frozen? ⟨w.heap.size + 1 + 1 + 1, 1, none⟩ = false := g1
  change wpList _ _ _ _ _ W.drew
  generalize W.drew = W2 at *
  clear r0 r1 g0 g1 k0 k1 k2 k3 k4 k5 k6 k7 k8
  go_wp2_with fail
  refine bodyPost_ret (v := encl ((f * a0 + s * b0) / al) (upD (f * a1 + s * b1) al)) (by simp [results, Try.results106, go_sem, q0, q1]) rfl ⟨rfl, ?_⟩
  refine Own.setCell (Own.setCell k9 ?_ _) ?_ _ <;> simp <;> omega
end Go.Proofs.Ytgmpipciinphiaa
