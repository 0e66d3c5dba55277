/- The walk of LampOvers. -/
import Derived.Test.YthmelkakgbchbaaRvo
import Derived.Test.YthmelkakgbchbaaAwk
namespace Go.Proofs.Ythmelkakgbchbaa
set_option linter.unusedSimpArgs false
set_option linter.unusedVariables false
open Go.RowKit
attribute [local go_sem ↓] Go.wp_at_zero Go.wp_at_succ

/-- the boxes of a catalogue and a field -/
structure Kfd (c : Cat) (x0 x1 y0 y1 h : Int) (s : Nat) (W : World) : Prop where
  t0 : W.cell? ⟨s, 0, none⟩ = some (.slice c.ta c.tabs.length c.tc)
  t1 : W.cell? ⟨s, 1, none⟩ = some (.slice c.la c.lamps.length c.lc)
  b0 : W.cell? ⟨s + 1, 0, none⟩ = some (.int .i64 x0)
  b1 : W.cell? ⟨s + 1, 1, none⟩ = some (.int .i64 x1)
  b2 : W.cell? ⟨s + 1, 2, none⟩ = some (.int .i64 y0)
  b3 : W.cell? ⟨s + 1, 3, none⟩ = some (.int .i64 y1)
  b4 : W.cell? ⟨s + 1, 4, none⟩ = some (.int .i64 h)
theorem Kfd.keep {c : Cat} {x0 x1 y0 y1 h : Int} {s B : Nat} {W W1 : World} (g : Kfd c x0 x1 y0 y1 h s W) (k : Below B W W1) (hs : s + 1 < B) : Kfd c x0 x1 y0 y1 h s W1 := by
  refine ⟨?_, ?_, ?_, ?_, ?_, ?_, ?_⟩
  · rw [k.cell (p := ⟨s, 0, none⟩) (by show s < B; omega)]; exact g.t0
  · rw [k.cell (p := ⟨s, 1, none⟩) (by show s < B; omega)]; exact g.t1
  · rw [k.cell (p := ⟨s + 1, 0, none⟩) (by show s + 1 < B; omega)]; exact g.b0
  · rw [k.cell (p := ⟨s + 1, 1, none⟩) (by show s + 1 < B; omega)]; exact g.b1
  · rw [k.cell (p := ⟨s + 1, 2, none⟩) (by show s + 1 < B; omega)]; exact g.b2
  · rw [k.cell (p := ⟨s + 1, 3, none⟩) (by show s + 1 < B; omega)]; exact g.b3
  · rw [k.cell (p := ⟨s + 1, 4, none⟩) (by show s + 1 < B; omega)]; exact g.b4

set_option maxRecDepth 100000 in
set_option maxHeartbeats 4000000 in
theorem overs_any (c : Cat) (n x0 x1 y0 y1 h : Int) (w : World) (hc : CatIn w.heap.size c w) :
    Calls Try.prog 5 #[.agg #[c.tv, c.lv], .int .i64 n, .agg #[.int .i64 x0, .int .i64 x1, .int .i64 y0, .int .i64 y1, .int .i64 h]] w fun e w' => e = .returned (.bool true) ∧ Below w.heap.size w w' := by
  have HC := Lib.hid hc
  clear hc
  have IC := Lib.hid (fun W (g : CatIn W.heap.size c W) => Over_any c n x0 x1 y0 y1 h W g)
  have IR := Lib.hid (fun W (g : CatIn W.heap.size c W) => rOver_any c n x0 x1 y0 y1 h W g)
  generalize ovLo c n x0 x1 y0 y1 h = f0 at *
  generalize ovHi c n x0 x1 y0 y1 h = f1 at *
  generalize ovE c n x0 x1 y0 y1 h = f2 at *
  unfold Cat.tv Cat.lv at *
  have bw0 : Below w.heap.size w ((w.alloc (.cells #[.slice c.ta c.tabs.length c.tc, .slice c.la c.lamps.length c.lc] 25)).alloc (.cells #[.int .i64 x0, .int .i64 x1, .int .i64 y0, .int .i64 y1, .int .i64 h] 42)) := ((Below.refl _ _).alloc (Nat.le_refl _) _).alloc (by simp) _
  have ka0 : Kfd c x0 x1 y0 y1 h w.heap.size ((w.alloc (.cells #[.slice c.ta c.tabs.length c.tc, .slice c.la c.lamps.length c.lc] 25)).alloc (.cells #[.int .i64 x0, .int .i64 x1, .int .i64 y0, .int .i64 y1, .int .i64 h] 42)) := by constructor <;> simp [go_sem]
  have sz0 : w.heap.size + 1 < ((w.alloc (.cells #[.slice c.ta c.tabs.length c.tc, .slice c.la c.lamps.length c.lc] 25)).alloc (.cells #[.int .i64 x0, .int .i64 x1, .int .i64 y0, .int .i64 y1, .int .i64 h] 42)).heap.size := by simp
  have CI := Lib.hid (fun (W : World) (g : Below w.heap.size w W) => (HC.out.keep g (Nat.le_refl _)).more g.size)
  have BW0 := Lib.hid bw0
  have KA0 := Lib.hid ka0
  have SZ0 := Lib.hid sz0
  clear bw0 ka0 sz0
  go_enter Try.func5, Try.ntmps5
  go_wp2_with fail
  generalize ((w.alloc (.cells #[.slice c.ta c.tabs.length c.tc, .slice c.la c.lamps.length c.lc] 25)).alloc (.cells #[.int .i64 x0, .int .i64 x1, .int .i64 y0, .int .i64 y1, .int .i64 h] 42)) = W0 at *
  refine (IC.out _ (CI.out _ BW0.out)).mono ?_
  rintro e w1 ⟨rfl, o1⟩
  have KA1 := Lib.hid (KA0.out.keep o1 SZ0.out)
  obtain ⟨t0, t1, b0, b1, b2, b3, b4⟩ := KA1.out
  have lt1 : w.heap.size + 1 < w1.heap.size := Nat.lt_of_lt_of_le SZ0.out o1.size
  have lt1a : w.heap.size < w1.heap.size := by omega
  have ne1 : w.heap.size ≠ w1.heap.size := by omega
  have ne2 : w.heap.size + 1 ≠ w1.heap.size := by omega
  have BW1 := Lib.hid ((BW0.out.trans (o1.mono BW0.out.size)).alloc (Nat.le_trans BW0.out.size o1.size) (.cells #[.int .i64 f0, .int .i64 f1] 35))
  have KA2 := Lib.hid (KA1.out.keep (below_new w1 (.cells #[.int .i64 f0, .int .i64 f1] 35)) lt1)
  have BA2 := Lib.hid (Bq.fresh w1 f0 f1 35)
  clear o1
  go_wp2_with fail
  generalize w1.alloc (.cells #[.int .i64 f0, .int .i64 f1] 35) = W2 at *
  clear KA1
  generalize w1.heap.size = A at *
  refine (IR.out _ (CI.out _ BW1.out)).mono ?_
  rintro e w2 ⟨rfl, o2⟩
  clear t0 t1 b0 b1 b2 b3 b4
  have BA3 := Lib.hid (BA2.out.keep o2 BA2.out.lt)
  obtain ⟨u0, u1, u2, u3, _⟩ := BA3.out
  have lt2 : A < w2.heap.size := BA3.out.lt
  have ne5 : A ≠ w2.heap.size := by omega
  have BW2 := Lib.hid ((BW1.out.trans (o2.mono BW1.out.size)).alloc (Nat.le_trans BW1.out.size o2.size) (.cells #[.int .i64 f0, .int .i64 f1] 35))
  clear o2
  go_wp2_with fail
  refine (awake_any _).mono ?_
  rintro e w3 ⟨rfl, b3'⟩
  go_wp2_with fail
  go_ret
  exact ⟨rfl, BW2.out.trans (b3'.mono BW2.out.size)⟩
end Go.Proofs.Ythmelkakgbchbaa
