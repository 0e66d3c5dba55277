/- The reference's sums and differences of long numbers. -/
import Derived.Test.YtdikelijnachjaaDoorArr
import Derived.IntWalk
import Derived.BigRegion
import Derived.Deep.LoopGhost
import Derived.Deep.DrawnRows
namespace Go.Proofs.YtdikelijnachjaaDoor
set_option linter.unusedSimpArgs false
set_option linter.unusedVariables false
open Go.RowKit SineNear
attribute [local go_sem ↓] Go.wp_at_zero Go.wp_at_succ


theorem nat_int (i : Nat) : ((i + 1 : Nat) : Int) = (i : Int) + 1 := by omega

set_option maxHeartbeats 1000000 in
theorem lplus_walk (x y r c : Nat → Int) (w : World) (hx : Nm x) (hy : Nm y) (t : PlusT x y r c) :
    Calls Tryd.prog 97 #[arr6 x, arr6 y] w fun e w' => e = .returned (arr6 r) ∧ Own w.heap.size w w' := by
  have T := hidden t
  have HX := hidden hx
  have HY := hidden hy
  clear t hx hy
  go_enter Tryd.func97, Tryd.ntmps97
  go_wp2_with fail
  go_loopw [5, 6] (fun c' i' wr => ∃ i : Nat, i ≤ 5 ∧ c' = .int .i64 (c i) ∧ i' = .int .i64 i ∧ Own w.heap.size w wr ∧ Arr w.heap.size 6 (fun j => if i < j then r j else x j) wr ∧ Arr (w.heap.size + 1) 6 y wr ∧ Arr (w.heap.size + 1 + 1) 6 (fun _ => 0) wr) (fun _ i' _ => (intOf i').toNat)
  case atStart =>
    have a0 := ((Arr.fresh6 w x 90).alloc (.cells #[.int .i64 (y 0), .int .i64 (y 1), .int .i64 (y 2), .int .i64 (y 3), .int .i64 (y 4), .int .i64 (y 5)] 90)).alloc (.cells #[.int .i64 0, .int .i64 0, .int .i64 0, .int .i64 0, .int .i64 0, .int .i64 0] 90)
    have a1 := (Arr.fresh6At (b := w.heap.size + 1) (w := w.alloc (.cells #[.int .i64 (x 0), .int .i64 (x 1), .int .i64 (x 2), .int .i64 (x 3), .int .i64 (x 4), .int .i64 (x 5)] 90)) (by simp) y 90).alloc (.cells #[.int .i64 0, .int .i64 0, .int .i64 0, .int .i64 0, .int .i64 0, .int .i64 0] 90)
    have a2 := Arr.fresh6At (b := w.heap.size + 1 + 1) (w := (w.alloc (.cells #[.int .i64 (x 0), .int .i64 (x 1), .int .i64 (x 2), .int .i64 (x 3), .int .i64 (x 4), .int .i64 (x 5)] 90)).alloc (.cells #[.int .i64 (y 0), .int .i64 (y 1), .int .i64 (y 2), .int .i64 (y 3), .int .i64 (y 4), .int .i64 (y 5)] 90)) (by simp) (fun _ => 0) 90
    refine ⟨5, by omega, by rw [T.out.c5], rfl, (((Own.refl _ _).alloc (Nat.le_refl _) _).alloc (by simp) _).alloc (by simp; omega) _, a0.congr (fun j hj => if_neg (by omega)), a1, a2⟩
  case round =>
    obtain ⟨i, hi, rfl, rfl, ho, ax, ay, az⟩ := hrel
    cases i with
    | zero =>
      have x0 := (HX.out 0 (by omega))
      have y0 := (HY.out 0 (by omega))
      have k0 := T.out.cb 0 (by omega)
      have q0 := T.out.r0
      obtain ⟨zx, fx⟩ := id ax
      obtain ⟨zy, fy⟩ := id ay
      obtain ⟨zz, fz⟩ := id az
      have g0 : wr.cell? ⟨w.heap.size, 0, none⟩ = some (.int .i64 (x 0)) := (fx 0 (by omega)).1
      have h0 : wr.cell? ⟨w.heap.size + 1, 0, none⟩ = some (.int .i64 (y 0)) := (fy 0 (by omega)).1
      have f0 := (fx 0 (by omega)).2
      have w1 : IntKind.i64.wrap (x 0 + y 0) = x 0 + y 0 := IntWalk.i64_in _ (by omega)
      have w2 : IntKind.i64.wrap (x 0 + y 0 + c 0) = r 0 := by rw [← q0]; exact IntWalk.i64_in _ (by omega)
      have ax' : Arr w.heap.size 6 r (wr.setCell ⟨w.heap.size, 0, none⟩ (.int .i64 (r 0))) := ax.set (by omega) rfl (fun j hj hn => (if_pos (by omega)).symm)
      have az' : Arr (w.heap.size + 1 + 1) 6 (fun _ => 0) (wr.setCell ⟨w.heap.size, 0, none⟩ (.int .i64 (r 0))) := az.other (by omega) _
      obtain ⟨_, fr⟩ := id ax'
      obtain ⟨_, fs⟩ := id az'
      clear fx fy fz ax ay az x0 y0 k0 q0
      have p1 := (fr 1 (by omega)).1
      have p2 := (fr 2 (by omega)).1
      have p3 := (fr 3 (by omega)).1
      have p4 := (fr 4 (by omega)).1
      have p5 := (fr 5 (by omega)).1
      have p0 := (fr 0 (by omega)).1
      have s0 := (fs 0 (by omega)).2
      have s1 := (fs 1 (by omega)).2
      have s2 := (fs 2 (by omega)).2
      have s3 := (fs 3 (by omega)).2
      have s4 := (fs 4 (by omega)).2
      have s5 := (fs 5 (by omega)).2
      have t0 := (fs 0 (by omega)).1
      have t1 := (fs 1 (by omega)).1
      have t2 := (fs 2 (by omega)).1
      have t3 := (fs 3 (by omega)).1
      have t4 := (fs 4 (by omega)).1
      have t5 := (fs 5 (by omega)).1
      clear fr fs ax' az'
      go_wp2_with fail
      refine bodyPost_ret (v := arr6 r) (by simp [results, Tryd.results97, go_sem, s0, s1, s2, s3, s4, s5, t0, t1, t2, t3, t4, t5]) rfl ⟨rfl, ?_⟩
      exact (ho.put (Nat.le_refl _) _).put6 (by omega) r
    | succ i =>
      have x0 := HX.out (i+1) hi
      have y0 := HY.out (i+1) hi
      have k0 := T.out.cb (i+1) hi
      have q0 := T.out.rj (i+1) (by omega) hi
      have q1 := T.out.cj (i+1) (by omega) hi
      rw [Nat.add_sub_cancel] at q1
      have g0 : wr.cell? ⟨w.heap.size, i+1, none⟩ = some (.int .i64 (x (i+1))) := by have h := (ax.2 (i+1) (by omega)).1; dsimp only at h; rw [if_neg (by omega)] at h; exact h
      have f0 := (ax.2 (i+1) (by omega)).2
      have h0 : wr.cell? ⟨w.heap.size + 1, i+1, none⟩ = some (.int .i64 (y (i+1))) := (ay.2 (i+1) (by omega)).1
      have w1 : IntKind.i64.wrap (x (i+1) + y (i+1)) = x (i+1) + y (i+1) := IntWalk.i64_in _ (by omega)
      have w2 : IntKind.i64.wrap (x (i+1) + y (i+1) + c (i+1)) = x (i+1) + y (i+1) + c (i+1) := IntWalk.i64_in _ (by omega)
      have d1 : (x (i+1) + y (i+1) + c (i+1)).tdiv 1000000000 = c i := by rw [Int.tdiv_eq_ediv_of_nonneg (by omega), q1]
      have d2 : (x (i+1) + y (i+1) + c (i+1)).tmod 1000000000 = r (i+1) := by rw [Int.tmod_eq_emod_of_nonneg (by omega), q0]
      have wc : IntKind.i64.wrap (c i) = c i := IntWalk.i64_in _ (by omega)
      have wr' : IntKind.i64.wrap (r (i+1)) = r (i+1) := IntWalk.i64_in _ (by omega)
      have hi6 : i + 1 < 6 := by omega
      clear q0 q1
      go_wp2_with fail
      go_quiet (fail)
      go_wp2_with fail
      go_roundw
      case rel =>
        refine ⟨i, by omega, rfl, rfl, (ho.drewN _).put (Nat.le_refl _) _, (ax.drewN _).set (by omega) (if_pos (by omega)) (fun j hj hn => ?_), (ay.drewN _).other (by omega) _, (az.drewN _).other (by omega) _⟩
        by_cases e : i + 1 < j
        · rw [if_pos e, if_pos (by omega)]
        · rw [if_neg e, if_neg (by omega)]
      case measure => simp [intOf]
end Go.Proofs.YtdikelijnachjaaDoor
