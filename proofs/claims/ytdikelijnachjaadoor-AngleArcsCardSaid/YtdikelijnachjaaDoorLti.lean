/- The reference's products of long numbers. -/
import Derived.Test.YtdikelijnachjaaDoorLpm
import Derived.IntWalk
import Derived.BigRegion
import Derived.Deep.LoopGhost
import Derived.Deep.DrawnRows
namespace Go.Proofs.YtdikelijnachjaaDoor
set_option linter.unusedSimpArgs false
set_option linter.unusedVariables false
open Go.RowKit SineNear
attribute [local go_sem ↓] Go.wp_at_zero Go.wp_at_succ


set_option maxRecDepth 100000 in
set_option maxHeartbeats 4000000 in
theorem ltimes_walk (x y t g : Nat → Int) (w : World) (hx : Nm x) (hy : Nm y) (ht : Nm t) (h : CarryT (prv x y 6) t g) :
    Calls Tryd.prog 96 #[arr6 x, arr6 y] w fun e w' => e = .returned (arr6 t) ∧ Own w.heap.size w w' := by
  have T := hidden h
  have HX := hidden hx
  have HY := hidden hy
  have HT := hidden ht
  clear h hx hy ht
  go_enter Tryd.func96, Tryd.ntmps96
  go_wp2_with fail
  go_loopg [6] 6 (fun n i' wr => ∃ i : Nat, i ≤ 6 ∧ n = 6 - i ∧ i' = .int .i64 i ∧ Own w.heap.size w wr ∧ Arr w.heap.size 6 x wr ∧ Arr (w.heap.size + 1) 6 y wr ∧ Arr (w.heap.size + 1 + 1) 6 (fun _ => 0) wr ∧ Arr (w.heap.size + 1 + 1 + 1) 12 (prv x y i) wr)
  case atStart =>
    have a0 := (((Arr.fresh6 w x 90).alloc (.cells #[.int .i64 (y 0), .int .i64 (y 1), .int .i64 (y 2), .int .i64 (y 3), .int .i64 (y 4), .int .i64 (y 5)] 90)).alloc (.cells #[.int .i64 0, .int .i64 0, .int .i64 0, .int .i64 0, .int .i64 0, .int .i64 0] 90)).alloc (.cells #[.int .i64 0, .int .i64 0, .int .i64 0, .int .i64 0, .int .i64 0, .int .i64 0, .int .i64 0, .int .i64 0, .int .i64 0, .int .i64 0, .int .i64 0, .int .i64 0] 116)
    have a1 := ((Arr.fresh6At (b := w.heap.size + 1) (w := (w.alloc (.cells #[.int .i64 (x 0), .int .i64 (x 1), .int .i64 (x 2), .int .i64 (x 3), .int .i64 (x 4), .int .i64 (x 5)] 90))) (by simp) y 90).alloc (.cells #[.int .i64 0, .int .i64 0, .int .i64 0, .int .i64 0, .int .i64 0, .int .i64 0] 90)).alloc (.cells #[.int .i64 0, .int .i64 0, .int .i64 0, .int .i64 0, .int .i64 0, .int .i64 0, .int .i64 0, .int .i64 0, .int .i64 0, .int .i64 0, .int .i64 0, .int .i64 0] 116)
    have a2 := (Arr.fresh6At (b := w.heap.size + 1 + 1) (w := ((w.alloc (.cells #[.int .i64 (x 0), .int .i64 (x 1), .int .i64 (x 2), .int .i64 (x 3), .int .i64 (x 4), .int .i64 (x 5)] 90)).alloc (.cells #[.int .i64 (y 0), .int .i64 (y 1), .int .i64 (y 2), .int .i64 (y 3), .int .i64 (y 4), .int .i64 (y 5)] 90))) (by simp) (fun _ => 0) 90).alloc (.cells #[.int .i64 0, .int .i64 0, .int .i64 0, .int .i64 0, .int .i64 0, .int .i64 0, .int .i64 0, .int .i64 0, .int .i64 0, .int .i64 0, .int .i64 0, .int .i64 0] 116)
    have a3 := Arr.fresh12At (b := w.heap.size + 1 + 1 + 1) (w := (((w.alloc (.cells #[.int .i64 (x 0), .int .i64 (x 1), .int .i64 (x 2), .int .i64 (x 3), .int .i64 (x 4), .int .i64 (x 5)] 90)).alloc (.cells #[.int .i64 (y 0), .int .i64 (y 1), .int .i64 (y 2), .int .i64 (y 3), .int .i64 (y 4), .int .i64 (y 5)] 90)).alloc (.cells #[.int .i64 0, .int .i64 0, .int .i64 0, .int .i64 0, .int .i64 0, .int .i64 0] 90))) (by simp) 116
    exact ⟨0, by omega, by omega, rfl, ((((Own.refl _ _).alloc (Nat.le_refl _) _).alloc (by simp) _).alloc (by simp; omega) _).alloc (by simp; omega) _, a0, a1, a2, a3.congr (fun j hj => rfl)⟩
  case round =>
    obtain ⟨i, hi, rfl, rfl, ho, ax, ay, az, aa⟩ := hrel
    by_cases hlt : i < 6
    · have hi6 : (i : Int) < 6 := by omega
      go_wp2_with fail
      go_loopg [7] 6 (fun n k' wr => ∃ k : Nat, k ≤ 6 ∧ n = 6 - k ∧ k' = .int .i64 k ∧ Own w.heap.size w wr ∧ Arr w.heap.size 6 x wr ∧ Arr (w.heap.size + 1) 6 y wr ∧ Arr (w.heap.size + 1 + 1) 6 (fun _ => 0) wr ∧ Arr (w.heap.size + 1 + 1 + 1) 12 (rowF x y i k) wr)
      case atStart => exact ⟨0, by omega, by omega, rfl, ho, ax, ay, az, aa.congr (fun j hj => rowF_0 x y i j)⟩
      case round =>
        clear ho ax ay az aa
        obtain ⟨k, hk, rfl, rfl, ho, ax, ay, az, aa⟩ := hrel
        by_cases hkt : k < 6
        · have hk6 : (k : Int) < 6 := by omega
          have x0 := HX.out i (by omega)
          have y0 := HY.out k (by omega)
          have b0 := rowF_bd x y HX.out HY.out i k (i+k) (by omega) (by omega)
          have b1 := rowF_bd x y HX.out HY.out i (k+1) (i+k) (by omega) (by omega)
          have e1 := rowF_at x y i k
          have pr := prod_nm x0 y0
          have g0 : wr.cell? ⟨w.heap.size + 1 + 1 + 1, i+k, none⟩ = some (.int .i64 (rowF x y i k (i+k))) := (aa.2 (i+k) (by omega)).1
          have f0 := (aa.2 (i+k) (by omega)).2
          have g1 := (ax.2 i (by omega)).1
          have g2 := (ay.2 k (by omega)).1
          have za := aa.1
          have ik : IntKind.i64.wrap ((i : Int) + (k : Int)) = ((i + k : Nat) : Int) := by rw [show ((i + k : Nat) : Int) = (i : Int) + (k : Int) by omega]; exact IntWalk.i64_in _ (by omega)
          have ik2 : (((i + k : Nat) : Int)) < 12 := by omega
          have w1 : IntKind.i64.wrap (x i * y k) = x i * y k := IntWalk.i64_in _ (by omega)
          have w2 : IntKind.i64.wrap (rowF x y i k (i+k) + x i * y k) = rowF x y i k (i+k) + x i * y k := IntWalk.i64_in _ (by omega)
          go_wp2_with fail
          go_region
          all_goals go_wp2_with fail
          go_roundg (6 - (k + 1))
          case measure => omega
          case rel => exact ⟨k + 1, by omega, rfl, by go_num, (ho.put (by omega) _).drew, ax.other (by omega) _, ay.other (by omega) _, az.other (by omega) _, aa.set (by omega) e1 (fun j hj hn => rowF_other x y i k j hn)⟩
        · obtain rfl : k = 6 := by omega
          go_wp2_with fail
          go_roundg (6 - (i + 1))
          case measure => omega
          case rel => exact ⟨i + 1, by omega, rfl, by go_num, ho, ax, ay, az, aa⟩
    · obtain rfl : i = 6 := by omega
      go_wp2_with fail
      go_loopg [8] 11 (fun n j' wr => ∃ j : Nat, j ≤ 11 ∧ n = j ∧ j' = .int .i64 j ∧ Own w.heap.size w wr ∧ Arr (w.heap.size + 1 + 1) 6 (fun _ => 0) wr ∧ Arr (w.heap.size + 1 + 1 + 1) 12 (fun l => if j < l then t l else if l = j then prv x y 6 l + g l else prv x y 6 l) wr)
      case atStart =>
        refine ⟨11, by omega, rfl, rfl, ho, az, aa.congr (fun j hj => ?_)⟩
        rw [if_neg (by omega)]
        have h5 := T.out.g11
        by_cases e : j = 11
        · subst e; rw [if_pos rfl, h5]; omega
        · rw [if_neg e]
      case round =>
        clear ho ax ay az aa
        obtain ⟨j, hj, hn, rfl, ho, az, aa⟩ := hrel
        cases j with
        | zero =>
          have aa' : Arr (w.heap.size + 1 + 1 + 1) 12 t wr := aa.congr (fun j hj => by
            by_cases e : j = 0
            · subst e; rw [if_neg (by omega), if_pos rfl]; exact T.out.t0
            · rw [if_pos (by omega)])
          have p0 := (aa'.2 0 (by omega)).1
          have p1 := (aa'.2 1 (by omega)).1
          have p2 := (aa'.2 2 (by omega)).1
          have p3 := (aa'.2 3 (by omega)).1
          have p4 := (aa'.2 4 (by omega)).1
          have p5 := (aa'.2 5 (by omega)).1
          obtain ⟨s0, s1, s2, s3, s4, s5⟩ := az.six_f
          obtain ⟨t0, t1, t2, t3, t4, t5⟩ := az.six
          clear aa aa' az
          go_wp2_with fail
          refine bodyPost_ret (v := arr6 t) (by simp [results, Tryd.results96, go_sem, s0, s1, s2, s3, s4, s5, t0, t1, t2, t3, t4, t5]) rfl ⟨rfl, ?_⟩
          exact ho.put6 (by omega) t
        | succ i =>
          have ga := T.out.gb i (by omega)
          have gb := T.out.gb (i+1) (by omega)
          have a1 := T.out.ab (i+1) (by omega)
          have a0 := T.out.ab i (by omega)
          have q0 := T.out.tj (i+1) (by omega) (by omega)
          have q1 := T.out.gj (i+1) (by omega) (by omega)
          rw [Nat.add_sub_cancel] at q1
          have g0 : wr.cell? ⟨w.heap.size + 1 + 1 + 1, i+1, none⟩ = some (.int .i64 (prv x y 6 (i+1) + g (i+1))) := by have h := (aa.2 (i+1) (by omega)).1; dsimp only at h; rw [if_neg (by omega), if_pos rfl] at h; exact h
          have g1 : wr.cell? ⟨w.heap.size + 1 + 1 + 1, i, none⟩ = some (.int .i64 (prv x y 6 i)) := by have h := (aa.2 i (by omega)).1; dsimp only at h; rw [if_neg (by omega), if_neg (by omega)] at h; exact h
          have f0 := (aa.2 (i+1) (by omega)).2
          have f1 := (aa.2 i (by omega)).2
          have hi6 : i + 1 < 12 := by omega
          have hi6' : i < 12 := by omega
          have za := aa.1
          obtain ⟨s, hs⟩ : ∃ s, s = prv x y 6 (i+1) + g (i+1) := ⟨_, rfl⟩
          obtain ⟨a, ha⟩ : ∃ a, a = prv x y 6 i := ⟨_, rfl⟩
          have AA := hidden aa
          clear aa
          rw [← hs] at q0 q1 g0
          rw [← ha] at a0 g1
          have HS := hidden hs
          have HA := hidden ha
          have d1 : s.tdiv 1000000000 = g i := by rw [Int.tdiv_eq_ediv_of_nonneg (by omega), q1]
          have d2 : s.tmod 1000000000 = t (i+1) := by rw [Int.tmod_eq_emod_of_nonneg (by omega), q0]
          have w1 : IntKind.i64.wrap (g i) = g i := IntWalk.i64_in _ (by omega)
          have w2 : IntKind.i64.wrap (a + g i) = a + g i := IntWalk.i64_in _ (by omega)
          have w3 : IntKind.i64.wrap (t (i+1)) = t (i+1) := IntWalk.i64_in _ (by omega)
          have ii : IntKind.i64.wrap (((i + 1 : Nat) : Int) - 1) = (i : Int) := by rw [show ((i + 1 : Nat) : Int) - 1 = i by omega]; exact IntWalk.i64_in _ (by omega)
          clear hs ha q0 q1
          go_wp2_with fail
          go_region
          all_goals go_wp2_with fail
          go_roundg i
          case measure => omega
          case rel =>
            refine ⟨i, by omega, rfl, rfl, ((ho.put (by omega) _).put (by omega) _).drew, (az.other (by omega) _).other (by omega) _, ((AA.out.put hi6' _).put hi6 _).congr (fun l hl => ?_)⟩
            by_cases e1 : l = i
            · subst e1; rw [if_neg (by omega), if_pos rfl, if_neg (by omega), if_pos rfl, ← HA.out]
            · by_cases e2 : l = i + 1
              · subst e2; rw [if_pos (by omega), if_pos rfl]
              · by_cases e3 : i + 1 < l
                · rw [if_pos (by omega), if_neg e2, if_neg e1, if_pos e3]
                · rw [if_neg (by omega), if_neg e1, if_neg e2, if_neg e1, if_neg e3, if_neg e2]
end Go.Proofs.YtdikelijnachjaaDoor
