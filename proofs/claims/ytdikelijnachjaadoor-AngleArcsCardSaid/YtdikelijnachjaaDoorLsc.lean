/- The reference's fractions of long numbers. -/
import Derived.Test.YtdikelijnachjaaDoorLpm
import Derived.IntWalk
import Derived.BigRegion
import Derived.Deep.LoopGhost
import Derived.Deep.DrawnRows
namespace Go.Proofs.YtdikelijnachjaaDoor
set_option linter.unusedSimpArgs false
set_option linter.unusedVariables false
open Go.RowKit SineNear
attribute [local go_sem ↓] Go.wp_at_zero Go.wp_at_succ


set_option maxHeartbeats 2000000 in
theorem lscaled_walk (x p c q f : Nat → Int) (n d : Int) (w : World) (hn : 0 < n ∧ n < 1000000000) (hd : 0 < d ∧ d < 1000000000) (hx : Nm x) (hq : Nm q) (t : ScaledT x n d p c q f) :
    Calls Tryd.prog 94 #[arr6 x, .int .i64 n, .int .i64 d] w fun e w' => e = .returned (arr6 q) ∧ Own w.heap.size w w' := by
  have T := hidden t
  have HX := hidden hx
  have HQ := hidden hq
  clear t hx hq
  go_enter Tryd.func94, Tryd.ntmps94
  go_wp2_with fail
  go_loopw [7, 8] (fun c' i' wr => ∃ i : Nat, i ≤ 5 ∧ c' = .int .i64 (c i) ∧ i' = .int .i64 i ∧ Own w.heap.size w wr ∧ Arr w.heap.size 6 (fun j => if i < j then p j else x j) wr ∧ Arr (w.heap.size + 1) 6 (fun _ => 0) wr) (fun _ i' _ => (intOf i').toNat)
  case atStart =>
    have a0 := (Arr.fresh6 w x 90).alloc (.cells #[.int .i64 0, .int .i64 0, .int .i64 0, .int .i64 0, .int .i64 0, .int .i64 0] 90)
    have a1 := Arr.fresh6At (b := w.heap.size + 1) (w := w.alloc (.cells #[.int .i64 (x 0), .int .i64 (x 1), .int .i64 (x 2), .int .i64 (x 3), .int .i64 (x 4), .int .i64 (x 5)] 90)) (by simp) (fun _ => 0) 90
    refine ⟨5, by omega, by rw [T.out.c5], rfl, ((Own.refl _ _).alloc (Nat.le_refl _) _).alloc (by simp) _, a0.congr (fun j hj => if_neg (by omega)), a1⟩
  case round =>
    obtain ⟨i, hi, rfl, rfl, ho, ax, az⟩ := hrel
    cases i with
    | zero =>
      have x0 := HX.out 0 (by omega)
      have k0 := T.out.cb 0 (by omega)
      have m0 := T.out.mb 0 (by omega)
      have q0 := T.out.p0
      have pb := T.out.pb 0 (by omega)
      have g0 : wr.cell? ⟨w.heap.size, 0, none⟩ = some (.int .i64 (x 0)) := (ax.2 0 (by omega)).1
      have f0 := (ax.2 0 (by omega)).2
      have w1 : IntKind.i64.wrap (x 0 * n) = x 0 * n := IntWalk.i64_in _ (by omega)
      have w2 : IntKind.i64.wrap (x 0 * n + c 0) = p 0 := by rw [← q0]; exact IntWalk.i64_in _ (by omega)
      have ax' : Arr w.heap.size 6 p (wr.setCell ⟨w.heap.size, 0, none⟩ (.int .i64 (p 0))) := ax.set (by omega) rfl (fun j hj hn => (if_pos (by omega)).symm)
      have az' : Arr (w.heap.size + 1) 6 (fun _ => 0) (wr.setCell ⟨w.heap.size, 0, none⟩ (.int .i64 (p 0))) := az.other (by omega) _
      have ho' : Own w.heap.size w (wr.setCell ⟨w.heap.size, 0, none⟩ (.int .i64 (p 0))) := ho.setCell (Nat.le_refl _) _
      have zx := ax.1
      clear ax az x0 k0 m0 q0 pb ho
      go_wp2_with fail
      obtain ⟨W, hW⟩ : ∃ W, W = wr.setCell ⟨w.heap.size, 0, none⟩ (.int .i64 (p 0)) := ⟨_, rfl⟩
      rw [← hW] at ax' az' ho' ⊢
      clear hW w1 w2 g0 f0 zx
      go_loopw [10, 11] (fun e' i' wr => ∃ i : Nat, i ≤ 6 ∧ e' = .int .i64 (f i) ∧ i' = .int .i64 i ∧ Own w.heap.size w wr ∧ Arr w.heap.size 6 (fun j => if j < i then q j else p j) wr ∧ Arr (w.heap.size + 1) 6 (fun _ => 0) wr) (fun _ i' _ => (6 - intOf i').toNat)
      case atStart => exact ⟨0, by omega, by rw [T.out.e0], rfl, ho', ax'.congr (fun j hj => if_neg (by omega)), az'⟩
      case round =>
        clear ax' az' ho'
        obtain ⟨i, hi, rfl, rfl, ho, ax, az⟩ := hrel
        by_cases hlt : i < 6
        · have eb := T.out.eb i (by omega)
          have eb1 := T.out.eb (i+1) (by omega)
          have pb := T.out.pb i (by omega)
          have qb := HQ.out i (by omega)
          have q0 := T.out.qj i (by omega)
          have q1 := T.out.ej i (by omega)
          have g0 : wr.cell? ⟨w.heap.size, i, none⟩ = some (.int .i64 (p i)) := by have h := (ax.2 i (by omega)).1; dsimp only at h; rw [if_neg (by omega)] at h; exact h
          have f0 := (ax.2 i (by omega)).2
          have w1 : IntKind.i64.wrap (f i * 1000000000) = f i * 1000000000 := IntWalk.i64_in _ (by omega)
          have w2 : IntKind.i64.wrap (f i * 1000000000 + p i) = f i * 1000000000 + p i := IntWalk.i64_in _ (by omega)
          have d1 : (f i * 1000000000 + p i).tdiv d = q i := by rw [Int.tdiv_eq_ediv_of_nonneg (by omega), q0]
          have d2 : (f i * 1000000000 + p i).tmod d = f (i+1) := by rw [Int.tmod_eq_emod_of_nonneg (by omega), q1]
          have w3 : IntKind.i64.wrap (q i) = q i := IntWalk.i64_in _ (by omega)
          have w4 : IntKind.i64.wrap (f (i+1)) = f (i+1) := IntWalk.i64_in _ (by omega)
          have dz : (d == 0) = false := by simp; omega
          have zx := ax.1
          clear q0 q1
          go_wp2_with fail
          go_region
          all_goals go_wp2_with fail
          go_roundw
          case rel =>
            refine ⟨i + 1, by omega, rfl, by go_num, (ho.put (Nat.le_refl _) _).drew, (ax.put hlt _).congr (fun j hj => ?_), az.other (by omega) _⟩
            by_cases e1 : j = i
            · subst e1; rw [if_pos (by omega), if_pos rfl]
            · by_cases e2 : j < i
              · rw [if_pos (by omega), if_neg e1, if_pos e2]
              · rw [if_neg (by omega), if_neg e1, if_neg e2]
          case measure => simp [intOf]; omega
        · obtain rfl : i = 6 := by omega
          have ax' : Arr w.heap.size 6 q wr := ax.congr (fun j hj => (if_pos hj).symm)
          obtain ⟨p0, p1, p2, p3, p4, p5⟩ := ax'.six
          obtain ⟨s0, s1, s2, s3, s4, s5⟩ := az.six_f
          obtain ⟨t0, t1, t2, t3, t4, t5⟩ := az.six
          clear ax ax' az
          go_wp2_with fail
          refine bodyPost_ret (v := arr6 q) (by simp [results, Tryd.results94, go_sem, s0, s1, s2, s3, s4, s5, t0, t1, t2, t3, t4, t5]) rfl ⟨rfl, ?_⟩
          exact ho.put6 (by omega) q
    | succ i =>
      have x0 := HX.out (i+1) hi
      have k0 := T.out.cb (i+1) hi
      have k1 := T.out.cb i (by omega)
      have m0 := T.out.mb (i+1) hi
      have pb := T.out.pb (i+1) hi
      have q0 := T.out.pj (i+1) (by omega) hi
      have q1 := T.out.cj (i+1) (by omega) hi
      rw [Nat.add_sub_cancel] at q1
      have g0 : wr.cell? ⟨w.heap.size, i+1, none⟩ = some (.int .i64 (x (i+1))) := by have h := (ax.2 (i+1) (by omega)).1; dsimp only at h; rw [if_neg (by omega)] at h; exact h
      have f0 := (ax.2 (i+1) (by omega)).2
      have w1 : IntKind.i64.wrap (x (i+1) * n) = x (i+1) * n := IntWalk.i64_in _ (by omega)
      have w2 : IntKind.i64.wrap (x (i+1) * n + c (i+1)) = x (i+1) * n + c (i+1) := IntWalk.i64_in _ (by omega)
      have d1 : (x (i+1) * n + c (i+1)).tdiv 1000000000 = c i := by rw [Int.tdiv_eq_ediv_of_nonneg (by omega), q1]
      have d2 : (x (i+1) * n + c (i+1)).tmod 1000000000 = p (i+1) := by rw [Int.tmod_eq_emod_of_nonneg (by omega), q0]
      have wc : IntKind.i64.wrap (c i) = c i := IntWalk.i64_in _ (by omega)
      have wp : IntKind.i64.wrap (p (i+1)) = p (i+1) := IntWalk.i64_in _ (by omega)
      have hi6 : i + 1 < 6 := by omega
      have zx := ax.1
      clear q0 q1
      go_wp2_with fail
      go_roundw
      case rel =>
        refine ⟨i, by omega, rfl, rfl, ho.put (Nat.le_refl _) _, (ax.put hi6 _).congr (fun j hj => ?_), az.other (by omega) _⟩
        by_cases e1 : j = i + 1
        · subst e1; rw [if_pos (by omega), if_pos rfl]
        · by_cases e2 : i + 1 < j
          · rw [if_pos (by omega), if_neg e1, if_pos e2]
          · rw [if_neg (by omega), if_neg e1, if_neg e2]
      case measure => simp [intOf]
end Go.Proofs.YtdikelijnachjaaDoor
