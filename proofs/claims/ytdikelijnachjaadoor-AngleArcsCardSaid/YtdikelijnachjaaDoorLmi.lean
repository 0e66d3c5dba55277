/- The reference's differences of long numbers. -/
import Derived.Test.YtdikelijnachjaaDoorLpm
import Derived.IntWalk
import Derived.BigRegion
import Derived.Deep.LoopGhost
import Derived.Deep.DrawnRows
namespace Go.Proofs.YtdikelijnachjaaDoor
set_option linter.unusedSimpArgs false
set_option linter.unusedVariables false
open Go.RowKit SineNear
attribute [local go_sem ↓] Go.wp_at_zero Go.wp_at_succ


set_option maxHeartbeats 1000000 in
theorem lminus_walk (x y r b : Nat → Int) (w : World) (hx : Nm x) (hy : Nm y) (hr : Nm r) (t : MinusT x y r b) :
    Calls Tryd.prog 98 #[arr6 x, arr6 y] w fun e w' => e = .returned (arr6 r) ∧ Own w.heap.size w w' := by
  have T := hidden t
  have HX := hidden hx
  have HY := hidden hy
  have HR := hidden hr
  clear t hx hy hr
  go_enter Tryd.func98, Tryd.ntmps98
  go_wp2_with fail
  go_loopw [5] (fun i' wr => ∃ i : Nat, i ≤ 5 ∧ i' = .int .i64 i ∧ Own w.heap.size w wr ∧ Arr w.heap.size 6 (fun j => if i < j then r j else if j = i then x j - b j else x j) wr ∧ Arr (w.heap.size + 1) 6 y wr ∧ Arr (w.heap.size + 1 + 1) 6 (fun _ => 0) wr) (fun i' _ => (intOf i').toNat)
  case atStart =>
    have a0 := ((Arr.fresh6 w x 90).alloc (.cells #[.int .i64 (y 0), .int .i64 (y 1), .int .i64 (y 2), .int .i64 (y 3), .int .i64 (y 4), .int .i64 (y 5)] 90)).alloc (.cells #[.int .i64 0, .int .i64 0, .int .i64 0, .int .i64 0, .int .i64 0, .int .i64 0] 90)
    have a1 := (Arr.fresh6At (b := w.heap.size + 1) (w := w.alloc (.cells #[.int .i64 (x 0), .int .i64 (x 1), .int .i64 (x 2), .int .i64 (x 3), .int .i64 (x 4), .int .i64 (x 5)] 90)) (by simp) y 90).alloc (.cells #[.int .i64 0, .int .i64 0, .int .i64 0, .int .i64 0, .int .i64 0, .int .i64 0] 90)
    have a2 := Arr.fresh6At (b := w.heap.size + 1 + 1) (w := (w.alloc (.cells #[.int .i64 (x 0), .int .i64 (x 1), .int .i64 (x 2), .int .i64 (x 3), .int .i64 (x 4), .int .i64 (x 5)] 90)).alloc (.cells #[.int .i64 (y 0), .int .i64 (y 1), .int .i64 (y 2), .int .i64 (y 3), .int .i64 (y 4), .int .i64 (y 5)] 90)) (by simp) (fun _ => 0) 90
    refine ⟨5, by omega, rfl, (((Own.refl _ _).alloc (Nat.le_refl _) _).alloc (by simp) _).alloc (by simp; omega) _, a0.congr (fun j hj => ?_), a1, a2⟩
    rw [if_neg (by omega)]
    have h5 := T.out.b5
    by_cases e : j = 5
    · subst e; rw [if_pos rfl, h5]; omega
    · rw [if_neg e]
  case round =>
    obtain ⟨i, hi, rfl, ho, ax, ay, az⟩ := hrel
    cases i with
    | zero =>
      have x0 := HX.out 0 (by omega)
      have y0 := HY.out 0 (by omega)
      have k0 := T.out.bb 0 (by omega)
      have q0 := T.out.r0
      have g0 : wr.cell? ⟨w.heap.size, 0, none⟩ = some (.int .i64 (x 0 - b 0)) := (ax.2 0 (by omega)).1
      have h0 : wr.cell? ⟨w.heap.size + 1, 0, none⟩ = some (.int .i64 (y 0)) := (ay.2 0 (by omega)).1
      have f0 := (ax.2 0 (by omega)).2
      have w2 : IntKind.i64.wrap (x 0 - b 0 - y 0) = r 0 := by rw [← q0]; exact IntWalk.i64_in _ (by omega)
      have ax' : Arr w.heap.size 6 r (wr.setCell ⟨w.heap.size, 0, none⟩ (.int .i64 (r 0))) := ax.set (by omega) rfl (fun j hj hn => (if_pos (by omega)).symm)
      have az' : Arr (w.heap.size + 1 + 1) 6 (fun _ => 0) (wr.setCell ⟨w.heap.size, 0, none⟩ (.int .i64 (r 0))) := az.other (by omega) _
      have zx := ax.1
      have zz := az.1
      clear ax ay az x0 y0 k0 q0
      obtain ⟨p0, p1, p2, p3, p4, p5⟩ := ax'.six
      obtain ⟨s0, s1, s2, s3, s4, s5⟩ := az'.six_f
      obtain ⟨t0, t1, t2, t3, t4, t5⟩ := az'.six
      clear ax' az'
      go_wp2_with fail
      refine bodyPost_ret (v := arr6 r) (by simp [results, Tryd.results98, go_sem, s0, s1, s2, s3, s4, s5, t0, t1, t2, t3, t4, t5]) rfl ⟨rfl, ?_⟩
      exact (ho.put (Nat.le_refl _) _).put6 (by omega) r
    | succ i =>
      have x0 := HX.out (i+1) hi
      have y0 := HY.out (i+1) hi
      have r0 := HR.out (i+1) hi
      have x1 := HX.out i (by omega)
      have k0 := T.out.bb (i+1) hi
      have q0 := T.out.rj (i+1) (by omega) hi
      have q1 := T.out.bj (i+1) (by omega) hi
      rw [Nat.add_sub_cancel] at q1
      have g0 : wr.cell? ⟨w.heap.size, i+1, none⟩ = some (.int .i64 (x (i+1) - b (i+1))) := by have h := (ax.2 (i+1) (by omega)).1; dsimp only at h; rw [if_neg (by omega), if_pos rfl] at h; exact h
      have g1 : wr.cell? ⟨w.heap.size, i, none⟩ = some (.int .i64 (x i)) := by have h := (ax.2 i (by omega)).1; dsimp only at h; rw [if_neg (by omega), if_neg (by omega)] at h; exact h
      have f0 := (ax.2 (i+1) (by omega)).2
      have f1 := (ax.2 i (by omega)).2
      have h0 : wr.cell? ⟨w.heap.size + 1, i+1, none⟩ = some (.int .i64 (y (i+1))) := (ay.2 (i+1) (by omega)).1
      have hi6 : i + 1 < 6 := by omega
      have hi6' : i < 6 := by omega
      have zx := ax.1
      obtain ⟨d, hd⟩ : ∃ d, d = x (i+1) - b (i+1) - y (i+1) := ⟨_, rfl⟩
      rw [← hd] at q0 q1
      have w2 : IntKind.i64.wrap (x (i+1) - b (i+1) - y (i+1)) = d := by rw [hd]; exact IntWalk.i64_in _ (by omega)
      by_cases hn : d < 0
      · rw [if_pos hn] at q0 q1
        have w3 : IntKind.i64.wrap (d + 1000000000) = r (i+1) := by rw [q0]; exact IntWalk.i64_in _ (by omega)
        have w4 : IntKind.i64.wrap (x i - 1) = x i - 1 := IntWalk.i64_in _ (by omega)
        have ii : IntKind.i64.wrap (((i + 1 : Nat) : Int) - 1) = (i : Int) := by rw [show ((i + 1 : Nat) : Int) - 1 = i by omega]; exact IntWalk.i64_in _ (by omega)
        go_wp2_with fail
        go_region
        all_goals go_wp2_with fail
        all_goals go_region
        all_goals go_wp2_with fail
        go_roundw
        case rel =>
          refine ⟨i, by omega, rfl, ((((ho.put (Nat.le_refl _) _).put (Nat.le_refl _) _).put (Nat.le_refl _) _).drew).drew, ((((ax.put hi6 _).put hi6 _).put hi6' _).congr ?_), ((ay.other (by omega) _).other (by omega) _).other (by omega) _, ((az.other (by omega) _).other (by omega) _).other (by omega) _⟩
          intro j hj
          by_cases e1 : j = i
          · subst e1; rw [if_neg (by omega), if_pos rfl, if_pos rfl, q1]
          · by_cases e2 : j = i + 1
            · subst e2; rw [if_pos (by omega), if_neg e1, if_pos rfl, q0, hd]
            · by_cases e3 : i + 1 < j
              · rw [if_pos (by omega), if_neg e1, if_neg e2, if_neg e2, if_pos e3]
              · rw [if_neg (by omega), if_neg e1, if_neg e1, if_neg e2, if_neg e2, if_neg e3, if_neg e2]
        case measure => simp [intOf]
      · rw [if_neg hn] at q0 q1
        go_wp2_with fail
        go_region
        all_goals go_wp2_with fail
        go_roundw
        case rel =>
          refine ⟨i, by omega, rfl, (ho.put (Nat.le_refl _) _).drew, ((ax.put hi6 _).congr ?_), ay.other (by omega) _, az.other (by omega) _⟩
          intro j hj
          by_cases e1 : j = i
          · subst e1; rw [if_neg (by omega), if_pos rfl, if_neg (by omega), if_neg (by omega), if_neg (by omega), q1]; omega
          · by_cases e2 : j = i + 1
            · subst e2; rw [if_pos (by omega), if_pos rfl, q0, hd]
            · by_cases e3 : i + 1 < j
              · rw [if_pos (by omega), if_neg e2, if_pos e3]
              · rw [if_neg (by omega), if_neg e1, if_neg e2, if_neg e3, if_neg e2]
        case measure => simp [intOf]
end Go.Proofs.YtdikelijnachjaaDoor
