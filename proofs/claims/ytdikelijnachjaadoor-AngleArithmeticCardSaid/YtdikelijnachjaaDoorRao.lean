/- The reference's quotients. -/
import Derived.Test.YtdikelijnachjaaDoorRal
import Derived.Deep.RegionLaw
import Derived.Deep.DeepCutAuto
namespace Go.Proofs.YtdikelijnachjaaDoor
set_option linter.unusedSimpArgs false
set_option linter.unusedVariables false
open Go.RowKit SineNear
attribute [local go_sem ↓] Go.wp_at_zero Go.wp_at_succ

set_option maxHeartbeats 1000000 in
theorem rover_no (x0 x1 y0 y1 : Int) (h : (valB x0 x1 && valB y0 y1) = false) : Ret1 37 #[encl x0 x1, encl y0 y1] (enclE 0 0 7) := by
  intro w
  have V := Lib.hid (valued_two x0 x1 y0 y1)
  unfold arE at V
  rw [h] at V
  go_enter Tryd.func37, Tryd.ntmps37
  go_wp2_with fail
  refine Calls.mono (V.out _ _ _ ?c1 ?c2 ?c3 ?c4 ?c5) ?c6
  case c1 => simp
  case c2 => simp [go_sem]
  case c3 => simp [go_sem]
  case c4 => simp [go_sem]
  case c5 => simp [go_sem]
  rintro e' w1 ⟨rfl, hb1⟩
  obtain ⟨hc, hf⟩ := bcell hb1
  have hz1 : w.heap.size + 1 + 1 < w1.heap.size := by have := hb1.size; simp at this; omega
  have hbw : Own w.heap.size w w1 := (((((Own.refl _ _).alloc (Nat.le_refl _) _).alloc (by simp) _).alloc (by simp; omega) _).alloc (by simp; omega) _).trans (hb1.mono (by simp; omega))
  have c0 : w1.cell? ⟨w.heap.size + 1 + 1, 0, none⟩ = some (.int .i64 0) := by rw [hc _ _ (by first | (simp; done) | (simp; omega))]; simp [go_sem]
  have c1 : w1.cell? ⟨w.heap.size + 1 + 1, 1, none⟩ = some (.int .i64 0) := by rw [hc _ _ (by first | (simp; done) | (simp; omega))]; simp [go_sem]
  have f0 : w1.frozen? ⟨w.heap.size + 1 + 1, 0, none⟩ = false := by rw [hf _ _ (by simp)]; simp [go_sem]
  have f1 : w1.frozen? ⟨w.heap.size + 1 + 1, 1, none⟩ = false := by rw [hf _ _ (by simp)]; simp [go_sem]
  clear hc hf
  go_wp2_with fail
  refine bodyPost_ret (v := enclE 0 0 7) (by simp [results, Tryd.results37, go_sem, c0, c1]) rfl ⟨rfl, ?_⟩
  exact (hbw.setCell (by simp; omega) _).setCell (by simp; omega) _

set_option maxHeartbeats 2000000 in
theorem rover_zero (x0 x1 y0 y1 : Int) (h : (valB x0 x1 && valB y0 y1) = true) (z0 : y0 ≤ 0) (z1 : 0 ≤ y1) : Ret1 37 #[encl x0 x1, encl y0 y1] (enclE 0 0 8) := by
  intro w
  obtain ⟨hx, hy⟩ := and_yes h
  have bx := valB_bd hx
  have bY := valB_bd hy
  have V := Lib.hid (valued_two x0 x1 y0 y1)
  unfold arE at V
  rw [h] at V
  clear h hx hy
  go_enter Tryd.func37, Tryd.ntmps37
  go_wp2_with fail
  refine Calls.mono (V.out _ _ _ ?c1 ?c2 ?c3 ?c4 ?c5) ?c6
  case c1 => simp
  case c2 => simp [go_sem]
  case c3 => simp [go_sem]
  case c4 => simp [go_sem]
  case c5 => simp [go_sem]
  rintro e' w1 ⟨rfl, hb1⟩
  obtain ⟨hc, hf⟩ := bcell hb1
  have hz1 : w.heap.size + 1 + 1 < w1.heap.size := by have := hb1.size; simp at this; omega
  have zz1 : w.heap.size + 1 < w1.heap.size := by omega
  have zz0 : w.heap.size < w1.heap.size := by omega
  have hbw : Own w.heap.size w w1 := (((((Own.refl _ _).alloc (Nat.le_refl _) _).alloc (by simp) _).alloc (by simp; omega) _).alloc (by simp; omega) _).trans (hb1.mono (by simp; omega))
  have c0 : w1.cell? ⟨w.heap.size + 1 + 1, 0, none⟩ = some (.int .i64 0) := by rw [hc _ _ (by first | (simp; done) | (simp; omega))]; simp [go_sem]
  have c1 : w1.cell? ⟨w.heap.size + 1 + 1, 1, none⟩ = some (.int .i64 0) := by rw [hc _ _ (by first | (simp; done) | (simp; omega))]; simp [go_sem]
  have f0 : w1.frozen? ⟨w.heap.size + 1 + 1, 0, none⟩ = false := by rw [hf _ _ (by simp)]; simp [go_sem]
  have f1 : w1.frozen? ⟨w.heap.size + 1 + 1, 1, none⟩ = false := by rw [hf _ _ (by simp)]; simp [go_sem]
  have g0 : w1.cell? ⟨w.heap.size, 0, none⟩ = some (.int .i64 x0) := by rw [hc _ _ (by first | (simp; done) | (simp; omega))]; simp [go_sem]
  have g1 : w1.cell? ⟨w.heap.size, 1, none⟩ = some (.int .i64 x1) := by rw [hc _ _ (by first | (simp; done) | (simp; omega))]; simp [go_sem]
  have g2 : w1.cell? ⟨w.heap.size + 1, 0, none⟩ = some (.int .i64 y0) := by rw [hc _ _ (by first | (simp; done) | (simp; omega))]; simp [go_sem]
  have g3 : w1.cell? ⟨w.heap.size + 1, 1, none⟩ = some (.int .i64 y1) := by rw [hc _ _ (by first | (simp; done) | (simp; omega))]; simp [go_sem]
  clear hc hf hb1
  go_wp2_with fail
  refine bodyPost_ret (v := enclE 0 0 8) (by simp [results, Tryd.results37, go_sem, c0, c1]) rfl ⟨rfl, ?_⟩
  exact (hbw.setCell (by simp; omega) _).setCell (by simp; omega) _

set_option maxHeartbeats 2000000 in
theorem rover_pos (x0 x1 y0 y1 l k L H E : Int) (h : (valB x0 x1 && valB y0 y1) = true) (z0 : ¬ y0 ≤ 0)
    (K : Ret1 66 #[.agg #[.int .i64 (x0 * 100000000), .int .i64 (x0 * 100000000), .int .i64 (x1 * 100000000), .int .i64 (x1 * 100000000)], .agg #[.int .i64 y0, .int .i64 y1, .int .i64 y0, .int .i64 y1]] (.tuple #[.int .i64 l, .int .i64 k])) (C : Ret1 59 #[.int .i64 l, .int .i64 k] (enclE L H E)) : Ret1 37 #[encl x0 x1, encl y0 y1] (enclE L H E) := by
  intro w
  obtain ⟨hx, hy⟩ := and_yes h
  have bx := valB_bd hx
  have bY := valB_bd hy
  have V := Lib.hid (valued_two x0 x1 y0 y1)
  unfold arE at V
  rw [h] at V
  clear h hx hy
  have C' := Lib.hid C
  have K' := Lib.hid K
  clear C K
  go_enter Tryd.func37, Tryd.ntmps37
  go_wp2_with fail
  refine Calls.mono (V.out _ _ _ ?c1 ?c2 ?c3 ?c4 ?c5) ?c6
  case c1 => simp
  case c2 => simp [go_sem]
  case c3 => simp [go_sem]
  case c4 => simp [go_sem]
  case c5 => simp [go_sem]
  rintro e' w1 ⟨rfl, hb1⟩
  obtain ⟨hc, hf⟩ := bcell hb1
  have hz1 : w.heap.size + 1 + 1 < w1.heap.size := by have := hb1.size; simp at this; omega
  have zz1 : w.heap.size + 1 < w1.heap.size := by omega
  have zz0 : w.heap.size < w1.heap.size := by omega
  have hbw : Own w.heap.size w w1 := (((((Own.refl _ _).alloc (Nat.le_refl _) _).alloc (by simp) _).alloc (by simp; omega) _).alloc (by simp; omega) _).trans (hb1.mono (by simp; omega))
  have c0 : w1.cell? ⟨w.heap.size + 1 + 1, 0, none⟩ = some (.int .i64 0) := by rw [hc _ _ (by first | (simp; done) | (simp; omega))]; simp [go_sem]
  have c1 : w1.cell? ⟨w.heap.size + 1 + 1, 1, none⟩ = some (.int .i64 0) := by rw [hc _ _ (by first | (simp; done) | (simp; omega))]; simp [go_sem]
  have f0 : w1.frozen? ⟨w.heap.size + 1 + 1, 0, none⟩ = false := by rw [hf _ _ (by simp)]; simp [go_sem]
  have f1 : w1.frozen? ⟨w.heap.size + 1 + 1, 1, none⟩ = false := by rw [hf _ _ (by simp)]; simp [go_sem]
  have g0 : w1.cell? ⟨w.heap.size, 0, none⟩ = some (.int .i64 x0) := by rw [hc _ _ (by first | (simp; done) | (simp; omega))]; simp [go_sem]
  have g1 : w1.cell? ⟨w.heap.size, 1, none⟩ = some (.int .i64 x1) := by rw [hc _ _ (by first | (simp; done) | (simp; omega))]; simp [go_sem]
  have g2 : w1.cell? ⟨w.heap.size + 1, 0, none⟩ = some (.int .i64 y0) := by rw [hc _ _ (by first | (simp; done) | (simp; omega))]; simp [go_sem]
  have g3 : w1.cell? ⟨w.heap.size + 1, 1, none⟩ = some (.int .i64 y1) := by rw [hc _ _ (by first | (simp; done) | (simp; omega))]; simp [go_sem]
  clear hc hf hb1
  have nz : ¬ y1 < 0 := by omega
  go_wp2_with fail
  refine (K'.out _).mono ?_
  rintro e' wl ⟨rfl, hbl⟩
  go_wp2_with fail
  refine (C'.out _).mono ?_
  rintro e' w2 ⟨rfl, hbc⟩
  have hb2 : Own w1.heap.size w1 w2 := hbl.trans (hbc.mono hbl.size)
  clear hbl hbc
  have hz2 : w.heap.size + 1 + 1 < w2.heap.size := by have := hb2.size; omega
  have c0' : w2.cell? ⟨w.heap.size + 1 + 1, 0, none⟩ = some (.int .i64 0) := by rw [hb2.cell (p := ⟨w.heap.size + 1 + 1, 0, none⟩) hz1]; exact c0
  have c1' : w2.cell? ⟨w.heap.size + 1 + 1, 1, none⟩ = some (.int .i64 0) := by rw [hb2.cell (p := ⟨w.heap.size + 1 + 1, 1, none⟩) hz1]; exact c1
  have f0' : w2.frozen? ⟨w.heap.size + 1 + 1, 0, none⟩ = false := by rw [hb2.frozen (p := ⟨w.heap.size + 1 + 1, 0, none⟩) hz1]; exact f0
  have f1' : w2.frozen? ⟨w.heap.size + 1 + 1, 1, none⟩ = false := by rw [hb2.frozen (p := ⟨w.heap.size + 1 + 1, 1, none⟩) hz1]; exact f1
  have hbw2 : Own w.heap.size w w2 := hbw.trans (hb2.mono (by omega))
  clear c0 c1 f0 f1 g0 g1 g2 g3 hb2
  go_wp2_with fail
  refine bodyPost_ret (v := enclE L H E) (by simp [results, Tryd.results37, go_sem, c0', c1']) rfl ⟨rfl, ?_⟩
  exact (hbw2.setCell (by simp; omega) _).setCell (by simp; omega) _

/-- both arguments and the result in their boxes -/
def KpN (W : World) (s : Nat) (x0 x1 y0 y1 : Int) (w : World) : Prop :=
  w.cell? ⟨s, 0, none⟩ = some (.int .i64 x0) ∧ w.cell? ⟨s, 1, none⟩ = some (.int .i64 x1) ∧ w.cell? ⟨s + 1, 0, none⟩ = some (.int .i64 y0) ∧ w.cell? ⟨s + 1, 1, none⟩ = some (.int .i64 y1) ∧ w.cell? ⟨s + 1 + 1, 0, none⟩ = some (.int .i64 0) ∧ w.cell? ⟨s + 1 + 1, 1, none⟩ = some (.int .i64 0) ∧
  w.frozen? ⟨s, 0, none⟩ = false ∧ w.frozen? ⟨s, 1, none⟩ = false ∧ w.frozen? ⟨s + 1, 0, none⟩ = false ∧ w.frozen? ⟨s + 1, 1, none⟩ = false ∧ w.frozen? ⟨s + 1 + 1, 0, none⟩ = false ∧ w.frozen? ⟨s + 1 + 1, 1, none⟩ = false ∧ s + 1 + 1 < w.heap.size ∧ Own W.heap.size W w
theorem KpN.call {W w w1 : World} {s : Nat} {x0 x1 y0 y1 : Int} (k : KpN W s x0 x1 y0 y1 w) (o : Own w.heap.size w w1) (hs : W.heap.size ≤ s) : KpN W s x0 x1 y0 y1 w1 := by
  obtain ⟨k0, k1, k2, k3, k4, k5, f0, f1, f2, f3, f4, f5, hz, ow⟩ := k
  have hsz := o.size
  refine ⟨?_, ?_, ?_, ?_, ?_, ?_, ?_, ?_, ?_, ?_, ?_, ?_, by omega, ow.trans (o.mono ow.size)⟩
  · rw [o.cell (p := ⟨s, 0, none⟩) (by show s < _; omega)]; exact k0
  · rw [o.cell (p := ⟨s, 1, none⟩) (by show s < _; omega)]; exact k1
  · rw [o.cell (p := ⟨s + 1, 0, none⟩) (by show s + 1 < _; omega)]; exact k2
  · rw [o.cell (p := ⟨s + 1, 1, none⟩) (by show s + 1 < _; omega)]; exact k3
  · rw [o.cell (p := ⟨s + 1 + 1, 0, none⟩) hz]; exact k4
  · rw [o.cell (p := ⟨s + 1 + 1, 1, none⟩) hz]; exact k5
  · rw [o.frozen (p := ⟨s, 0, none⟩) (by show s < _; omega)]; exact f0
  · rw [o.frozen (p := ⟨s, 1, none⟩) (by show s < _; omega)]; exact f1
  · rw [o.frozen (p := ⟨s + 1, 0, none⟩) (by show s + 1 < _; omega)]; exact f2
  · rw [o.frozen (p := ⟨s + 1, 1, none⟩) (by show s + 1 < _; omega)]; exact f3
  · rw [o.frozen (p := ⟨s + 1 + 1, 0, none⟩) hz]; exact f4
  · rw [o.frozen (p := ⟨s + 1 + 1, 1, none⟩) hz]; exact f5
theorem KpN.drew {W w : World} {s : Nat} {x0 x1 y0 y1 : Int} (k : KpN W s x0 x1 y0 y1 w) : KpN W s x0 x1 y0 y1 w.drew := by
  obtain ⟨k0, k1, k2, k3, k4, k5, f0, f1, f2, f3, f4, f5, hz, ow⟩ := k
  exact ⟨k0, k1, k2, k3, k4, k5, f0, f1, f2, f3, f4, f5, hz, ow.drew⟩

set_option maxRecDepth 100000 in
set_option maxHeartbeats 4000000 in
theorem rover_neg (x0 x1 y0 y1 l k L H E : Int) (h : (valB x0 x1 && valB y0 y1) = true) (z0 : y1 < 0)
    (K : Ret1 66 #[.agg #[.int .i64 (-x1 * 100000000), .int .i64 (-x1 * 100000000), .int .i64 (-x0 * 100000000), .int .i64 (-x0 * 100000000)], .agg #[.int .i64 (-y1), .int .i64 (-y0), .int .i64 (-y1), .int .i64 (-y0)]] (.tuple #[.int .i64 l, .int .i64 k])) (C : Ret1 59 #[.int .i64 l, .int .i64 k] (enclE L H E)) : Ret1 37 #[encl x0 x1, encl y0 y1] (enclE L H E) := by
  intro w
  obtain ⟨hx, hy⟩ := and_yes h
  have bx := valB_bd hx
  have bY := valB_bd hy
  have V := Lib.hid (valued_two x0 x1 y0 y1)
  unfold arE at V
  rw [h] at V
  clear h hx hy
  have C' := Lib.hid C
  have K' := Lib.hid K
  clear C K
  go_enter Tryd.func37, Tryd.ntmps37
  go_wp2_with fail
  refine Calls.mono (V.out _ _ _ ?c1 ?c2 ?c3 ?c4 ?c5) ?c6
  case c1 => simp
  case c2 => simp [go_sem]
  case c3 => simp [go_sem]
  case c4 => simp [go_sem]
  case c5 => simp [go_sem]
  rintro e' w1 ⟨rfl, hb1⟩
  obtain ⟨hc, hf⟩ := bcell hb1
  have hz1 : w.heap.size + 1 + 1 < w1.heap.size := by have := hb1.size; simp at this; omega
  have zz1 : w.heap.size + 1 < w1.heap.size := by omega
  have zz0 : w.heap.size < w1.heap.size := by omega
  have hbw : Own w.heap.size w w1 := (((((Own.refl _ _).alloc (Nat.le_refl _) _).alloc (by simp) _).alloc (by simp; omega) _).alloc (by simp; omega) _).trans (hb1.mono (by simp; omega))
  have c0 : w1.cell? ⟨w.heap.size + 1 + 1, 0, none⟩ = some (.int .i64 0) := by rw [hc _ _ (by first | (simp; done) | (simp; omega))]; simp [go_sem]
  have c1 : w1.cell? ⟨w.heap.size + 1 + 1, 1, none⟩ = some (.int .i64 0) := by rw [hc _ _ (by first | (simp; done) | (simp; omega))]; simp [go_sem]
  have f0 : w1.frozen? ⟨w.heap.size + 1 + 1, 0, none⟩ = false := by rw [hf _ _ (by simp)]; simp [go_sem]
  have f1 : w1.frozen? ⟨w.heap.size + 1 + 1, 1, none⟩ = false := by rw [hf _ _ (by simp)]; simp [go_sem]
  have g0 : w1.cell? ⟨w.heap.size, 0, none⟩ = some (.int .i64 x0) := by rw [hc _ _ (by first | (simp; done) | (simp; omega))]; simp [go_sem]
  have g1 : w1.cell? ⟨w.heap.size, 1, none⟩ = some (.int .i64 x1) := by rw [hc _ _ (by first | (simp; done) | (simp; omega))]; simp [go_sem]
  have g2 : w1.cell? ⟨w.heap.size + 1, 0, none⟩ = some (.int .i64 y0) := by rw [hc _ _ (by first | (simp; done) | (simp; omega))]; simp [go_sem]
  have g3 : w1.cell? ⟨w.heap.size + 1, 1, none⟩ = some (.int .i64 y1) := by rw [hc _ _ (by first | (simp; done) | (simp; omega))]; simp [go_sem]
  have HF := Lib.hid (fun (b o : Nat) hb (hz : _ = false) => (hf b o hb).trans hz)
  clear hc hf hb1
  have nz : ¬ (0 ≤ y1) := by omega
  have ny : y0 ≤ 0 := by omega
  have fx0 : w1.frozen? ⟨w.heap.size, 0, none⟩ = false := HF.out _ _ (by first | (simp; done) | (simp; omega)) (by simp [go_sem])
  have fx1 : w1.frozen? ⟨w.heap.size, 1, none⟩ = false := HF.out _ _ (by first | (simp; done) | (simp; omega)) (by simp [go_sem])
  have fy0 : w1.frozen? ⟨w.heap.size + 1, 0, none⟩ = false := HF.out _ _ (by first | (simp; done) | (simp; omega)) (by simp [go_sem])
  have fy1 : w1.frozen? ⟨w.heap.size + 1, 1, none⟩ = false := HF.out _ _ (by first | (simp; done) | (simp; omega)) (by simp [go_sem])
  clear HF
  have kN : KpN w w.heap.size x0 x1 y0 y1 w1 := ⟨g0, g1, g2, g3, c0, c1, fx0, fx1, fy0, fy1, f0, f1, hz1, hbw⟩
  go_upto_region 7 with (fail)
  go_cut [] (fun wx => KpN w w.heap.size (-x1) (-x0) (-y1) (-y0) wx)
  case first =>
    clear K' C'
    have NX := Lib.hid (negative_any x0 x1 (by omega) (by omega) (by omega) (by omega))
    have NY := Lib.hid (negative_any y0 y1 (by omega) (by omega) (by omega) (by omega))
    go_region_law (first | (go_simp; (with_reducible refine (Ret1.at NX.out _).mono ?_); rintro e wn ⟨rfl, hbn⟩; have kn : KpN w w.heap.size x0 x1 y0 y1 wn := (by (refine KpN.call ?_ hbn (Nat.le_refl _)); first | assumption | exact kN.drew); obtain ⟨n0, n1, n2, n3, n4, n5, m0, m1, m2, m3, m4, m5, nz', no'⟩ := id kn) | (go_simp; (with_reducible refine (Ret1.at NY.out _).mono ?_); rintro e wn ⟨rfl, hbn⟩; have kn : KpN w w.heap.size x0 x1 y0 y1 wn := (by (refine KpN.call ?_ hbn (Nat.le_refl _)); first | assumption | exact kN.drew); obtain ⟨n0, n1, n2, n3, n4, n5, m0, m1, m2, m3, m4, m5, nz', no'⟩ := id kn))
    all_goals go_wp2_with fail
    all_goals go_meet
    all_goals
      case rel =>
        refine ⟨?_, ?_, ?_, ?_, ?_, ?_, ?_, ?_, ?_, ?_, ?_, ?_, by simpa using nz', ?_⟩
        all_goals first | (simp [go_sem, n0, n1, n2, n3, n4, n5, m0, m1, m2, m3, m4, m5]; done) | ((repeat' (first | (with_reducible exact no') | (with_reducible refine Own.setCell ?_ ?_ _))); all_goals (first | exact Nat.le_refl _ | (simp; done) | (simp; omega) | omega))
  case rest =>
    obtain ⟨g0, g1, g2, g3, c0, c1, _, _, _, _, f0, f1, hz1, hbw⟩ := hcut
    go_wp2_with fail
    refine (K'.out _).mono ?_
    rintro e' wl ⟨rfl, hbl⟩
    go_wp2_with fail
    refine (C'.out _).mono ?_
    rintro e' w2 ⟨rfl, hbc⟩
    have hb2 : Own wc.heap.size wc w2 := hbl.trans (hbc.mono hbl.size)
    clear hbl hbc
    have hz2 : w.heap.size + 1 + 1 < w2.heap.size := by have := hb2.size; omega
    have c0' : w2.cell? ⟨w.heap.size + 1 + 1, 0, none⟩ = some (.int .i64 0) := by rw [hb2.cell (p := ⟨w.heap.size + 1 + 1, 0, none⟩) hz1]; exact c0
    have c1' : w2.cell? ⟨w.heap.size + 1 + 1, 1, none⟩ = some (.int .i64 0) := by rw [hb2.cell (p := ⟨w.heap.size + 1 + 1, 1, none⟩) hz1]; exact c1
    have f0' : w2.frozen? ⟨w.heap.size + 1 + 1, 0, none⟩ = false := by rw [hb2.frozen (p := ⟨w.heap.size + 1 + 1, 0, none⟩) hz1]; exact f0
    have f1' : w2.frozen? ⟨w.heap.size + 1 + 1, 1, none⟩ = false := by rw [hb2.frozen (p := ⟨w.heap.size + 1 + 1, 1, none⟩) hz1]; exact f1
    have hbw2 : Own w.heap.size w w2 := hbw.trans (hb2.mono (by omega))
    clear c0 c1 f0 f1 g0 g1 g2 g3 hb2
    go_wp2_with fail
    refine bodyPost_ret (v := enclE L H E) (by simp [results, Tryd.results37, go_sem, c0', c1']) rfl ⟨rfl, ?_⟩
    exact (hbw2.setCell (by simp; omega) _).setCell (by simp; omega) _

theorem over_flip (x0 x1 y0 y1 : Int) (hy : y0 ≤ y1) (h : y1 < 0) : lo4 (-x1 * 100000000 / -y1) (-x1 * 100000000 / -y0) (-x0 * 100000000 / -y1) (-x0 * 100000000 / -y0) = oLo x0 x1 y0 y1 ∧
    hi4 (upD (-x1 * 100000000) (-y1)) (upD (-x1 * 100000000) (-y0)) (upD (-x0 * 100000000) (-y1)) (upD (-x0 * 100000000) (-y0)) = oHi x0 x1 y0 y1 := by
  have h0 : y0 < 0 := by omega
  unfold oLo oHi qLoQ qHiQ
  simp only [if_pos h, if_pos h0, Int.neg_mul]
  constructor
  · unfold lo4
    generalize -(x0 * 100000000) / -y0 = p
    generalize -(x0 * 100000000) / -y1 = q
    generalize -(x1 * 100000000) / -y0 = r
    generalize -(x1 * 100000000) / -y1 = s
    omega
  · unfold hi4
    generalize upD (-(x0 * 100000000)) (-y0) = p
    generalize upD (-(x0 * 100000000)) (-y1) = q
    generalize upD (-(x1 * 100000000)) (-y0) = r
    generalize upD (-(x1 * 100000000)) (-y1) = s
    omega

theorem rover_any (x0 x1 y0 y1 : Int) : Ret1 37 #[encl x0 x1, encl y0 y1] (overV x0 x1 y0 y1) := by
  unfold overV
  cases h : (valB x0 x1 && valB y0 y1)
  · exact rover_no x0 x1 y0 y1 h
  · obtain ⟨hx, hy⟩ := and_yes h
    have bx := valB_bd hx
    have bY := valB_bd hy
    cases hz : zeroIn y0 y1
    · have z : ¬ (y0 ≤ 0 ∧ 0 ≤ y1) := of_decide_eq_false hz
      by_cases hp : y0 ≤ 0
      · have hn : y1 < 0 := by omega
        obtain ⟨e1, e2⟩ := over_flip x0 x1 y0 y1 (by omega) hn
        simp only [if_true, Bool.false_eq_true, if_false]
        rw [← e1, ← e2]
        exact rover_neg x0 x1 y0 y1 _ _ _ _ _ h hn (fun w => least_any _ _ _ _ _ _ _ _ w (by omega) (by omega) (by omega) (by omega) (by omega) (by omega) (by omega) (by omega)) (result_any _ _)
      · have n0 : ¬ y0 < 0 := by omega
        have n1 : ¬ y1 < 0 := by omega
        simp only [if_true, Bool.false_eq_true, if_false]
        unfold oLo oHi qLoQ qHiQ
        simp only [if_neg n0, if_neg n1]
        exact rover_pos x0 x1 y0 y1 _ _ _ _ _ h hp (fun w => least_any _ _ _ _ _ _ _ _ w (by omega) (by omega) (by omega) (by omega) (by omega) (by omega) (by omega) (by omega)) (result_any _ _)
    · have z : y0 ≤ 0 ∧ 0 ≤ y1 := of_decide_eq_true hz
      exact rover_zero x0 x1 y0 y1 h z.1 z.2
end Go.Proofs.YtdikelijnachjaaDoor
