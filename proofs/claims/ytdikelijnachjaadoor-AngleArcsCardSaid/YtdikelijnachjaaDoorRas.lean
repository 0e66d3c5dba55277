/- The reference's sums, products and quotients. -/
import Derived.Test.YtdikelijnachjaaDoorRar
import Derived.Deep.RegionHeld3
import Derived.Deep.DrawnRows
namespace Go.Proofs.YtdikelijnachjaaDoor
set_option linter.unusedSimpArgs false
set_option linter.unusedVariables false
open Go.RowKit SineNear
attribute [local go_sem ↓] Go.wp_at_zero Go.wp_at_succ

set_option maxHeartbeats 1000000 in
theorem rplus_no (x0 x1 y0 y1 : Int) (h : (valB x0 x1 && valB y0 y1) = false) : Ret1 31 #[encl x0 x1, encl y0 y1] (enclE 0 0 7) := by
  intro w
  have V := Lib.hid (valued_two x0 x1 y0 y1)
  unfold arE at V
  rw [h] at V
  go_enter Tryd.func31, Tryd.ntmps31
  go_wp2_with fail
  refine Calls.mono (V.out _ _ _ ?c1 ?c2 ?c3 ?c4 ?c5) ?c6
  case c1 => simp
  case c2 => simp [go_sem]
  case c3 => simp [go_sem]
  case c4 => simp [go_sem]
  case c5 => simp [go_sem]
  rintro e' w1 ⟨rfl, hb1⟩
  obtain ⟨hc, hf⟩ := bcell hb1
  have hz1 : w.heap.size + 1 + 1 < w1.heap.size := by have := hb1.size; simp at this; omega
  have hbw : Own w.heap.size w w1 := (((((Own.refl _ _).alloc (Nat.le_refl _) _).alloc (by simp) _).alloc (by simp; omega) _).alloc (by simp; omega) _).trans (hb1.mono (by simp; omega))
  have c0 : w1.cell? ⟨w.heap.size + 1 + 1, 0, none⟩ = some (.int .i64 0) := by rw [hc _ _ (by first | (simp; done) | (simp; omega))]; simp [go_sem]
  have c1 : w1.cell? ⟨w.heap.size + 1 + 1, 1, none⟩ = some (.int .i64 0) := by rw [hc _ _ (by first | (simp; done) | (simp; omega))]; simp [go_sem]
  have f0 : w1.frozen? ⟨w.heap.size + 1 + 1, 0, none⟩ = false := by rw [hf _ _ (by simp)]; simp [go_sem]
  have f1 : w1.frozen? ⟨w.heap.size + 1 + 1, 1, none⟩ = false := by rw [hf _ _ (by simp)]; simp [go_sem]
  clear hc hf
  go_wp2_with fail
  refine bodyPost_ret (v := enclE 0 0 7) (by simp [results, Tryd.results31, go_sem, c0, c1]) rfl ⟨rfl, ?_⟩
  exact (hbw.setCell (by simp; omega) _).setCell (by simp; omega) _

set_option maxHeartbeats 1000000 in
theorem rplus_yes (x0 x1 y0 y1 L H E : Int) (h : (valB x0 x1 && valB y0 y1) = true) (C : Ret1 59 #[.int .i64 (x0 + y0), .int .i64 (x1 + y1)] (enclE L H E)) : Ret1 31 #[encl x0 x1, encl y0 y1] (enclE L H E) := by
  intro w
  obtain ⟨hx, hy⟩ := and_yes h
  have bx := valB_bd hx
  have bY := valB_bd hy
  have V := Lib.hid (valued_two x0 x1 y0 y1)
  unfold arE at V
  rw [h] at V
  clear h hx hy
  have C' := Lib.hid C
  clear C
  go_enter Tryd.func31, Tryd.ntmps31
  go_wp2_with fail
  refine Calls.mono (V.out _ _ _ ?c1 ?c2 ?c3 ?c4 ?c5) ?c6
  case c1 => simp
  case c2 => simp [go_sem]
  case c3 => simp [go_sem]
  case c4 => simp [go_sem]
  case c5 => simp [go_sem]
  rintro e' w1 ⟨rfl, hb1⟩
  obtain ⟨hc, hf⟩ := bcell hb1
  have hz1 : w.heap.size + 1 + 1 < w1.heap.size := by have := hb1.size; simp at this; omega
  have z1 : w.heap.size + 1 < w1.heap.size := by omega
  have z0 : w.heap.size < w1.heap.size := by omega
  have hbw : Own w.heap.size w w1 := (((((Own.refl _ _).alloc (Nat.le_refl _) _).alloc (by simp) _).alloc (by simp; omega) _).alloc (by simp; omega) _).trans (hb1.mono (by simp; omega))
  have c0 : w1.cell? ⟨w.heap.size + 1 + 1, 0, none⟩ = some (.int .i64 0) := by rw [hc _ _ (by first | (simp; done) | (simp; omega))]; simp [go_sem]
  have c1 : w1.cell? ⟨w.heap.size + 1 + 1, 1, none⟩ = some (.int .i64 0) := by rw [hc _ _ (by first | (simp; done) | (simp; omega))]; simp [go_sem]
  have f0 : w1.frozen? ⟨w.heap.size + 1 + 1, 0, none⟩ = false := by rw [hf _ _ (by simp)]; simp [go_sem]
  have f1 : w1.frozen? ⟨w.heap.size + 1 + 1, 1, none⟩ = false := by rw [hf _ _ (by simp)]; simp [go_sem]
  have g0 : w1.cell? ⟨w.heap.size, 0, none⟩ = some (.int .i64 x0) := by rw [hc _ _ (by first | (simp; done) | (simp; omega))]; simp [go_sem]
  have g1 : w1.cell? ⟨w.heap.size, 1, none⟩ = some (.int .i64 x1) := by rw [hc _ _ (by first | (simp; done) | (simp; omega))]; simp [go_sem]
  have g2 : w1.cell? ⟨w.heap.size + 1, 0, none⟩ = some (.int .i64 y0) := by rw [hc _ _ (by first | (simp; done) | (simp; omega))]; simp [go_sem]
  have g3 : w1.cell? ⟨w.heap.size + 1, 1, none⟩ = some (.int .i64 y1) := by rw [hc _ _ (by first | (simp; done) | (simp; omega))]; simp [go_sem]
  clear hc hf hb1
  go_wp2_with fail
  refine (C'.out _).mono ?_
  rintro e' w2 ⟨rfl, hb2⟩
  have hz2 : w.heap.size + 1 + 1 < w2.heap.size := by have := hb2.size; omega
  have c0' : w2.cell? ⟨w.heap.size + 1 + 1, 0, none⟩ = some (.int .i64 0) := by rw [hb2.cell (p := ⟨w.heap.size + 1 + 1, 0, none⟩) hz1]; exact c0
  have c1' : w2.cell? ⟨w.heap.size + 1 + 1, 1, none⟩ = some (.int .i64 0) := by rw [hb2.cell (p := ⟨w.heap.size + 1 + 1, 1, none⟩) hz1]; exact c1
  have f0' : w2.frozen? ⟨w.heap.size + 1 + 1, 0, none⟩ = false := by rw [hb2.frozen (p := ⟨w.heap.size + 1 + 1, 0, none⟩) hz1]; exact f0
  have f1' : w2.frozen? ⟨w.heap.size + 1 + 1, 1, none⟩ = false := by rw [hb2.frozen (p := ⟨w.heap.size + 1 + 1, 1, none⟩) hz1]; exact f1
  have hbw2 : Own w.heap.size w w2 := hbw.trans (hb2.mono (by omega))
  clear c0 c1 f0 f1 g0 g1 g2 g3 hb2
  go_wp2_with fail
  refine bodyPost_ret (v := enclE L H E) (by simp [results, Tryd.results31, go_sem, c0', c1']) rfl ⟨rfl, ?_⟩
  exact (hbw2.setCell (by simp; omega) _).setCell (by simp; omega) _
set_option maxHeartbeats 1000000 in
theorem rminus_no (x0 x1 y0 y1 : Int) (h : (valB x0 x1 && valB y0 y1) = false) : Ret1 33 #[encl x0 x1, encl y0 y1] (enclE 0 0 7) := by
  intro w
  have V := Lib.hid (valued_two x0 x1 y0 y1)
  unfold arE at V
  rw [h] at V
  go_enter Tryd.func33, Tryd.ntmps33
  go_wp2_with fail
  refine Calls.mono (V.out _ _ _ ?c1 ?c2 ?c3 ?c4 ?c5) ?c6
  case c1 => simp
  case c2 => simp [go_sem]
  case c3 => simp [go_sem]
  case c4 => simp [go_sem]
  case c5 => simp [go_sem]
  rintro e' w1 ⟨rfl, hb1⟩
  obtain ⟨hc, hf⟩ := bcell hb1
  have hz1 : w.heap.size + 1 + 1 < w1.heap.size := by have := hb1.size; simp at this; omega
  have hbw : Own w.heap.size w w1 := (((((Own.refl _ _).alloc (Nat.le_refl _) _).alloc (by simp) _).alloc (by simp; omega) _).alloc (by simp; omega) _).trans (hb1.mono (by simp; omega))
  have c0 : w1.cell? ⟨w.heap.size + 1 + 1, 0, none⟩ = some (.int .i64 0) := by rw [hc _ _ (by first | (simp; done) | (simp; omega))]; simp [go_sem]
  have c1 : w1.cell? ⟨w.heap.size + 1 + 1, 1, none⟩ = some (.int .i64 0) := by rw [hc _ _ (by first | (simp; done) | (simp; omega))]; simp [go_sem]
  have f0 : w1.frozen? ⟨w.heap.size + 1 + 1, 0, none⟩ = false := by rw [hf _ _ (by simp)]; simp [go_sem]
  have f1 : w1.frozen? ⟨w.heap.size + 1 + 1, 1, none⟩ = false := by rw [hf _ _ (by simp)]; simp [go_sem]
  clear hc hf
  go_wp2_with fail
  refine bodyPost_ret (v := enclE 0 0 7) (by simp [results, Tryd.results33, go_sem, c0, c1]) rfl ⟨rfl, ?_⟩
  exact (hbw.setCell (by simp; omega) _).setCell (by simp; omega) _

set_option maxHeartbeats 1000000 in
theorem rminus_yes (x0 x1 y0 y1 L H E : Int) (h : (valB x0 x1 && valB y0 y1) = true) (C : Ret1 59 #[.int .i64 (x0 - y1), .int .i64 (x1 - y0)] (enclE L H E)) : Ret1 33 #[encl x0 x1, encl y0 y1] (enclE L H E) := by
  intro w
  obtain ⟨hx, hy⟩ := and_yes h
  have bx := valB_bd hx
  have bY := valB_bd hy
  have V := Lib.hid (valued_two x0 x1 y0 y1)
  unfold arE at V
  rw [h] at V
  clear h hx hy
  have C' := Lib.hid C
  clear C
  go_enter Tryd.func33, Tryd.ntmps33
  go_wp2_with fail
  refine Calls.mono (V.out _ _ _ ?c1 ?c2 ?c3 ?c4 ?c5) ?c6
  case c1 => simp
  case c2 => simp [go_sem]
  case c3 => simp [go_sem]
  case c4 => simp [go_sem]
  case c5 => simp [go_sem]
  rintro e' w1 ⟨rfl, hb1⟩
  obtain ⟨hc, hf⟩ := bcell hb1
  have hz1 : w.heap.size + 1 + 1 < w1.heap.size := by have := hb1.size; simp at this; omega
  have z1 : w.heap.size + 1 < w1.heap.size := by omega
  have z0 : w.heap.size < w1.heap.size := by omega
  have hbw : Own w.heap.size w w1 := (((((Own.refl _ _).alloc (Nat.le_refl _) _).alloc (by simp) _).alloc (by simp; omega) _).alloc (by simp; omega) _).trans (hb1.mono (by simp; omega))
  have c0 : w1.cell? ⟨w.heap.size + 1 + 1, 0, none⟩ = some (.int .i64 0) := by rw [hc _ _ (by first | (simp; done) | (simp; omega))]; simp [go_sem]
  have c1 : w1.cell? ⟨w.heap.size + 1 + 1, 1, none⟩ = some (.int .i64 0) := by rw [hc _ _ (by first | (simp; done) | (simp; omega))]; simp [go_sem]
  have f0 : w1.frozen? ⟨w.heap.size + 1 + 1, 0, none⟩ = false := by rw [hf _ _ (by simp)]; simp [go_sem]
  have f1 : w1.frozen? ⟨w.heap.size + 1 + 1, 1, none⟩ = false := by rw [hf _ _ (by simp)]; simp [go_sem]
  have g0 : w1.cell? ⟨w.heap.size, 0, none⟩ = some (.int .i64 x0) := by rw [hc _ _ (by first | (simp; done) | (simp; omega))]; simp [go_sem]
  have g1 : w1.cell? ⟨w.heap.size, 1, none⟩ = some (.int .i64 x1) := by rw [hc _ _ (by first | (simp; done) | (simp; omega))]; simp [go_sem]
  have g2 : w1.cell? ⟨w.heap.size + 1, 0, none⟩ = some (.int .i64 y0) := by rw [hc _ _ (by first | (simp; done) | (simp; omega))]; simp [go_sem]
  have g3 : w1.cell? ⟨w.heap.size + 1, 1, none⟩ = some (.int .i64 y1) := by rw [hc _ _ (by first | (simp; done) | (simp; omega))]; simp [go_sem]
  clear hc hf hb1
  go_wp2_with fail
  refine (C'.out _).mono ?_
  rintro e' w2 ⟨rfl, hb2⟩
  have hz2 : w.heap.size + 1 + 1 < w2.heap.size := by have := hb2.size; omega
  have c0' : w2.cell? ⟨w.heap.size + 1 + 1, 0, none⟩ = some (.int .i64 0) := by rw [hb2.cell (p := ⟨w.heap.size + 1 + 1, 0, none⟩) hz1]; exact c0
  have c1' : w2.cell? ⟨w.heap.size + 1 + 1, 1, none⟩ = some (.int .i64 0) := by rw [hb2.cell (p := ⟨w.heap.size + 1 + 1, 1, none⟩) hz1]; exact c1
  have f0' : w2.frozen? ⟨w.heap.size + 1 + 1, 0, none⟩ = false := by rw [hb2.frozen (p := ⟨w.heap.size + 1 + 1, 0, none⟩) hz1]; exact f0
  have f1' : w2.frozen? ⟨w.heap.size + 1 + 1, 1, none⟩ = false := by rw [hb2.frozen (p := ⟨w.heap.size + 1 + 1, 1, none⟩) hz1]; exact f1
  have hbw2 : Own w.heap.size w w2 := hbw.trans (hb2.mono (by omega))
  clear c0 c1 f0 f1 g0 g1 g2 g3 hb2
  go_wp2_with fail
  refine bodyPost_ret (v := enclE L H E) (by simp [results, Tryd.results33, go_sem, c0', c1']) rfl ⟨rfl, ?_⟩
  exact (hbw2.setCell (by simp; omega) _).setCell (by simp; omega) _

theorem rplus_any (x0 x1 y0 y1 : Int) : Ret1 31 #[encl x0 x1, encl y0 y1] (if valB x0 x1 && valB y0 y1 then resE (x0 + y0) (x1 + y1) else enclE 0 0 7) := by
  cases h : (valB x0 x1 && valB y0 y1)
  · exact rplus_no x0 x1 y0 y1 h
  · exact rplus_yes x0 x1 y0 y1 _ _ _ h (result_any _ _)
theorem rminus_any (x0 x1 y0 y1 : Int) : Ret1 33 #[encl x0 x1, encl y0 y1] (if valB x0 x1 && valB y0 y1 then resE (x0 - y1) (x1 - y0) else enclE 0 0 7) := by
  cases h : (valB x0 x1 && valB y0 y1)
  · exact rminus_no x0 x1 y0 y1 h
  · exact rminus_yes x0 x1 y0 y1 _ _ _ h (result_any _ _)
end Go.Proofs.YtdikelijnachjaaDoor
