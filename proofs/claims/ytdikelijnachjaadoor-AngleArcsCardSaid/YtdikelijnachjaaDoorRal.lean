/- The reference's least enclosure of four fractions. -/
import Derived.Test.YtdikelijnachjaaDoorRas
import Derived.Test.YtdikelijnachjaaDoorCirA
namespace Go.Proofs.YtdikelijnachjaaDoor
set_option linter.unusedSimpArgs false
set_option linter.unusedVariables false
open Go.RowKit SineNear

theorem rdown_same (a b : Int) (w : World) (hb : 0 < b) (hb1 : b ≤ 9100000000000000000) (h0 : -9100000000000000000 ≤ a) (h1 : a ≤ 9100000000000000000) :
    Calls Tryd.prog 88 #[.int .i64 a, .int .i64 b] w fun e w' => e = .returned (.int .i64 (a / b)) ∧ w' = w :=
  (rdown_any a b w hb hb1 h0 h1).mono fun _ _ ⟨h, k⟩ => ⟨h, k.symm⟩

theorem lo4_r (a b c d : Int) : lo4 a b c d = min a (min b (min c d)) := by unfold lo4; omega
theorem hi4_r (a b c d : Int) : hi4 a b c d = max a (max b (max c d)) := by unfold hi4; omega

set_option maxRecDepth 100000 in
set_option maxHeartbeats 2000000 in
theorem least_any (a b c d p q r s : Int) (w : World) (ha : -9000000000000000000 ≤ a ∧ a ≤ 9000000000000000000) (hb : -9000000000000000000 ≤ b ∧ b ≤ 9000000000000000000) (hc : -9000000000000000000 ≤ c ∧ c ≤ 9000000000000000000) (hd : -9000000000000000000 ≤ d ∧ d ≤ 9000000000000000000)
    (hp : 0 < p ∧ p ≤ 3000000000) (hq : 0 < q ∧ q ≤ 3000000000) (hr : 0 < r ∧ r ≤ 3000000000) (hs : 0 < s ∧ s ≤ 3000000000) :
    Calls Tryd.prog 66 #[.agg #[.int .i64 a, .int .i64 b, .int .i64 c, .int .i64 d], .agg #[.int .i64 p, .int .i64 q, .int .i64 r, .int .i64 s]] w
      fun e w' => e = .returned (.tuple #[.int .i64 (lo4 (a / p) (b / q) (c / r) (d / s)), .int .i64 (hi4 (upD a p) (upD b q) (upD c r) (upD d s))]) ∧ Own w.heap.size w w' := by
  rw [lo4_r, hi4_r]
  have u0 := q_bd (-a) p hp.1 (by omega) (by omega)
  have t0 := q_bd a p hp.1 (by omega) (by omega)
  have v0 : IntKind.i64.wrap (-a) = -a := IntWalk.i64_in _ (by omega)
  have x0 : IntKind.i64.wrap (-(-a / p)) = upD a p := IntWalk.i64_in _ (by omega)
  have u1 := q_bd (-b) q hq.1 (by omega) (by omega)
  have t1 := q_bd b q hq.1 (by omega) (by omega)
  have v1 : IntKind.i64.wrap (-b) = -b := IntWalk.i64_in _ (by omega)
  have x1 : IntKind.i64.wrap (-(-b / q)) = upD b q := IntWalk.i64_in _ (by omega)
  have u2 := q_bd (-c) r hr.1 (by omega) (by omega)
  have t2 := q_bd c r hr.1 (by omega) (by omega)
  have v2 : IntKind.i64.wrap (-c) = -c := IntWalk.i64_in _ (by omega)
  have x2 : IntKind.i64.wrap (-(-c / r)) = upD c r := IntWalk.i64_in _ (by omega)
  have u3 := q_bd (-d) s hs.1 (by omega) (by omega)
  have t3 := q_bd d s hs.1 (by omega) (by omega)
  have v3 : IntKind.i64.wrap (-d) = -d := IntWalk.i64_in _ (by omega)
  have x3 : IntKind.i64.wrap (-(-d / s)) = upD d s := IntWalk.i64_in _ (by omega)
  go_enter Tryd.func66, Tryd.ntmps66
  go_wp2_with fail
  have o1 : Own w.heap.size w ((w.alloc (.cells #[.int .i64 a, .int .i64 b, .int .i64 c, .int .i64 d] 64)).alloc (.cells #[.int .i64 p, .int .i64 q, .int .i64 r, .int .i64 s] 64)) := ((Own.refl _ _).alloc (Nat.le_refl _) _).alloc (by simp) _
  have c0 : ((w.alloc (.cells #[.int .i64 a, .int .i64 b, .int .i64 c, .int .i64 d] 64)).alloc (.cells #[.int .i64 p, .int .i64 q, .int .i64 r, .int .i64 s] 64)).cell? ⟨w.heap.size, 0, none⟩ = some (.int .i64 a) := by simp [go_sem]
  have e0 : ((w.alloc (.cells #[.int .i64 a, .int .i64 b, .int .i64 c, .int .i64 d] 64)).alloc (.cells #[.int .i64 p, .int .i64 q, .int .i64 r, .int .i64 s] 64)).cell? ⟨w.heap.size + 1, 0, none⟩ = some (.int .i64 p) := by simp [go_sem]
  have c1 : ((w.alloc (.cells #[.int .i64 a, .int .i64 b, .int .i64 c, .int .i64 d] 64)).alloc (.cells #[.int .i64 p, .int .i64 q, .int .i64 r, .int .i64 s] 64)).cell? ⟨w.heap.size, 1, none⟩ = some (.int .i64 b) := by simp [go_sem]
  have e1 : ((w.alloc (.cells #[.int .i64 a, .int .i64 b, .int .i64 c, .int .i64 d] 64)).alloc (.cells #[.int .i64 p, .int .i64 q, .int .i64 r, .int .i64 s] 64)).cell? ⟨w.heap.size + 1, 1, none⟩ = some (.int .i64 q) := by simp [go_sem]
  have c2 : ((w.alloc (.cells #[.int .i64 a, .int .i64 b, .int .i64 c, .int .i64 d] 64)).alloc (.cells #[.int .i64 p, .int .i64 q, .int .i64 r, .int .i64 s] 64)).cell? ⟨w.heap.size, 2, none⟩ = some (.int .i64 c) := by simp [go_sem]
  have e2 : ((w.alloc (.cells #[.int .i64 a, .int .i64 b, .int .i64 c, .int .i64 d] 64)).alloc (.cells #[.int .i64 p, .int .i64 q, .int .i64 r, .int .i64 s] 64)).cell? ⟨w.heap.size + 1, 2, none⟩ = some (.int .i64 r) := by simp [go_sem]
  have c3 : ((w.alloc (.cells #[.int .i64 a, .int .i64 b, .int .i64 c, .int .i64 d] 64)).alloc (.cells #[.int .i64 p, .int .i64 q, .int .i64 r, .int .i64 s] 64)).cell? ⟨w.heap.size, 3, none⟩ = some (.int .i64 d) := by simp [go_sem]
  have e3 : ((w.alloc (.cells #[.int .i64 a, .int .i64 b, .int .i64 c, .int .i64 d] 64)).alloc (.cells #[.int .i64 p, .int .i64 q, .int .i64 r, .int .i64 s] 64)).cell? ⟨w.heap.size + 1, 3, none⟩ = some (.int .i64 s) := by simp [go_sem]
  obtain ⟨W, hW⟩ : ∃ W, W = (w.alloc (.cells #[.int .i64 a, .int .i64 b, .int .i64 c, .int .i64 d] 64)).alloc (.cells #[.int .i64 p, .int .i64 q, .int .i64 r, .int .i64 s] 64) := ⟨_, rfl⟩
  rw [← hW] at o1 c0 c1 c2 c3 e0 e1 e2 e3 ⊢
  clear hW
  go_quiet (first | (go_at_call 88; ((with_reducible refine Calls.quiet_of_same (rdown_same a p _ ?_ ?_ ?_ ?_)) <;> omega)) | (go_at_call 88; ((with_reducible refine Calls.quiet_of_same (rdown_same (-a) p _ ?_ ?_ ?_ ?_)) <;> omega)))
  go_wp2_with fail
  go_loopw [6, 7, 8] (fun s6 s7 i wr => ((i = .int .i64 1 ∧ s6 = .int .i64 (a / p) ∧ s7 = .int .i64 (upD a p)) ∨ (i = .int .i64 2 ∧ s6 = .int .i64 (min (a / p) (b / q)) ∧ s7 = .int .i64 (max (upD a p) (upD b q))) ∨ (i = .int .i64 3 ∧ s6 = .int .i64 (min (a / p) (min (b / q) (c / r))) ∧ s7 = .int .i64 (max (upD a p) (max (upD b q) (upD c r)))) ∨ (i = .int .i64 4 ∧ s6 = .int .i64 (min (a / p) (min (b / q) (min (c / r) (d / s)))) ∧ s7 = .int .i64 (max (upD a p) (max (upD b q) (max (upD c r) (upD d s)))))) ∧ (∀ b o, wr.cell? ⟨b, o, none⟩ = W.cell? ⟨b, o, none⟩) ∧ Own w.heap.size w wr) (fun _ _ i _ => (4 - intOf i).toNat)
  case atStart => exact ⟨.inl ⟨rfl, rfl, rfl⟩, fun _ _ => rfl, own_dN o1 _⟩
  case round =>
    obtain ⟨hcase, hcell, ko⟩ := hrel
    have HC := Lib.hid hcell
    clear hcell
    rcases hcase with ⟨rfl, rfl, rfl⟩ | ⟨rfl, rfl, rfl⟩ | ⟨rfl, rfl, rfl⟩ | ⟨rfl, rfl, rfl⟩
    · go_wp2_with fail
      have k0 : wr.cell? ⟨w.heap.size, 1, none⟩ = some (.int .i64 b) := (HC.out _ _).trans c1
      have k1 : wr.cell? ⟨w.heap.size + 1, 1, none⟩ = some (.int .i64 q) := (HC.out _ _).trans e1
      go_region_held3 (fun w' => w'.cell? ⟨w.heap.size, 1, none⟩ = some (.int .i64 b) ∧ w'.cell? ⟨w.heap.size + 1, 1, none⟩ = some (.int .i64 q) )
        (first | exact ⟨k0, k1⟩ | assumption)
        (first | (go_at_call 88; (with_reducible refine (rdown_any b q _ ?_ ?_ ?_ ?_).mono ?_); omega; omega; omega; omega; rintro e' w' ⟨rfl, rfl⟩) | (go_at_call 88; (with_reducible refine (rdown_any (-b) q _ ?_ ?_ ?_ ?_).mono ?_); omega; omega; omega; omega; rintro e' w' ⟨rfl, rfl⟩))
      all_goals go_wp2_with fail
      all_goals
        go_roundw
        case rel => exact ⟨.inr (.inl ⟨rfl, rfl, rfl⟩), fun b o => HC.out b o, ko.drew⟩
        case measure => simp [intOf]
    · go_wp2_with fail
      have k0 : wr.cell? ⟨w.heap.size, 2, none⟩ = some (.int .i64 c) := (HC.out _ _).trans c2
      have k1 : wr.cell? ⟨w.heap.size + 1, 2, none⟩ = some (.int .i64 r) := (HC.out _ _).trans e2
      go_region_held3 (fun w' => w'.cell? ⟨w.heap.size, 2, none⟩ = some (.int .i64 c) ∧ w'.cell? ⟨w.heap.size + 1, 2, none⟩ = some (.int .i64 r) )
        (first | exact ⟨k0, k1⟩ | assumption)
        (first | (go_at_call 88; (with_reducible refine (rdown_any c r _ ?_ ?_ ?_ ?_).mono ?_); omega; omega; omega; omega; rintro e' w' ⟨rfl, rfl⟩) | (go_at_call 88; (with_reducible refine (rdown_any (-c) r _ ?_ ?_ ?_ ?_).mono ?_); omega; omega; omega; omega; rintro e' w' ⟨rfl, rfl⟩))
      all_goals go_wp2_with fail
      all_goals
        go_roundw
        case rel => exact ⟨.inr (.inr (.inl ⟨rfl, rfl, rfl⟩)), fun b o => HC.out b o, ko.drew⟩
        case measure => simp [intOf]
    · go_wp2_with fail
      have k0 : wr.cell? ⟨w.heap.size, 3, none⟩ = some (.int .i64 d) := (HC.out _ _).trans c3
      have k1 : wr.cell? ⟨w.heap.size + 1, 3, none⟩ = some (.int .i64 s) := (HC.out _ _).trans e3
      go_region_held3 (fun w' => w'.cell? ⟨w.heap.size, 3, none⟩ = some (.int .i64 d) ∧ w'.cell? ⟨w.heap.size + 1, 3, none⟩ = some (.int .i64 s) )
        (first | exact ⟨k0, k1⟩ | assumption)
        (first | (go_at_call 88; (with_reducible refine (rdown_any d s _ ?_ ?_ ?_ ?_).mono ?_); omega; omega; omega; omega; rintro e' w' ⟨rfl, rfl⟩) | (go_at_call 88; (with_reducible refine (rdown_any (-d) s _ ?_ ?_ ?_ ?_).mono ?_); omega; omega; omega; omega; rintro e' w' ⟨rfl, rfl⟩))
      all_goals go_wp2_with fail
      all_goals
        go_roundw
        case rel => exact ⟨.inr (.inr (.inr ⟨rfl, rfl, rfl⟩)), fun b o => HC.out b o, ko.drew⟩
        case measure => simp [intOf]
    · go_wp2_with fail
      go_ret2
      exact ⟨rfl, ko⟩
end Go.Proofs.YtdikelijnachjaaDoor
