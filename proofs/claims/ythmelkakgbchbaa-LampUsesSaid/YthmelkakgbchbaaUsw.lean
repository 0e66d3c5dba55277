/- The walk of LampUses. -/
import Derived.Test.YthmelkakgbchbaaRfx
import Derived.Test.YthmelkakgbchbaaAwk
namespace Go.Proofs.Ythmelkakgbchbaa
set_option linter.unusedSimpArgs false
set_option linter.unusedVariables false
open Go.RowKit
attribute [local go_sem ↓] Go.wp_at_zero Go.wp_at_succ

/-- the boxes of a catalogue and of a use -/
structure Ku (c : Cat) (a m v : Int) (s : Nat) (W : World) : Prop where
  t0 : W.cell? ⟨s, 0, none⟩ = some (.slice c.ta c.tabs.length c.tc)
  t1 : W.cell? ⟨s, 1, none⟩ = some (.slice c.la c.lamps.length c.lc)
  p0 : W.cell? ⟨s + 1, 0, none⟩ = some (.int .i64 a)
  p1 : W.cell? ⟨s + 1, 1, none⟩ = some (.int .i64 m)
  p2 : W.cell? ⟨s + 1, 2, none⟩ = some (.int .i64 v)
theorem Ku.keep {c : Cat} {a m v : Int} {s B : Nat} {W W1 : World} (h : Ku c a m v s W) (k : Own B W W1) (hs : s + 1 < B) : Ku c a m v s W1 := by
  refine ⟨?_, ?_, ?_, ?_, ?_⟩
  · rw [k.cell (p := ⟨s, 0, none⟩) (by show s < B; omega)]; exact h.t0
  · rw [k.cell (p := ⟨s, 1, none⟩) (by show s < B; omega)]; exact h.t1
  · rw [k.cell (p := ⟨s + 1, 0, none⟩) hs]; exact h.p0
  · rw [k.cell (p := ⟨s + 1, 1, none⟩) hs]; exact h.p1
  · rw [k.cell (p := ⟨s + 1, 2, none⟩) hs]; exact h.p2

/-- a box of an enclosure that may be written -/
structure Bx (b : Nat) (x y : Int) (W : World) : Prop where
  c0 : W.cell? ⟨b, 0, none⟩ = some (.int .i64 x)
  c1 : W.cell? ⟨b, 1, none⟩ = some (.int .i64 y)
  f0 : W.frozen? ⟨b, 0, none⟩ = false
  f1 : W.frozen? ⟨b, 1, none⟩ = false
  lt : b < W.heap.size
theorem Bx.keep {b B : Nat} {x y : Int} {W W1 : World} (h : Bx b x y W) (k : Own B W W1) (hb : b < B) : Bx b x y W1 :=
  ⟨by rw [k.cell (p := ⟨b, 0, none⟩) hb]; exact h.c0, by rw [k.cell (p := ⟨b, 1, none⟩) hb]; exact h.c1, by rw [k.frozen (p := ⟨b, 0, none⟩) hb]; exact h.f0, by rw [k.frozen (p := ⟨b, 1, none⟩) hb]; exact h.f1, Nat.lt_of_lt_of_le h.lt k.size⟩
theorem Bx.fresh (W : World) (x y : Int) (t : TypeId) : Bx W.heap.size x y (W.alloc (.cells #[.int .i64 x, .int .i64 y] t)) := by
  constructor <;> simp [go_sem]
theorem Bx.set {b : Nat} {x y : Int} {W : World} (h : Bx b x y W) (x' y' : Int) : Bx b x' y' ((W.setCell ⟨b, 0, none⟩ (.int .i64 x')).setCell ⟨b, 1, none⟩ (.int .i64 y')) := by
  obtain ⟨c0, c1, f0, f1, lt⟩ := h
  constructor <;> simp [go_sem, c0, c1, f0, f1, lt]
theorem own_set2 (W : World) (b : Nat) (x y : Value) : Own b W ((W.setCell ⟨b, 0, none⟩ x).setCell ⟨b, 1, none⟩ y) := ((Own.refl _ _).setCell (p := ⟨b, 0, none⟩) (Nat.le_refl _) _).setCell (p := ⟨b, 1, none⟩) (Nat.le_refl _) _
theorem own_new (W : World) (o : Obj) : Own W.heap.size W (W.alloc o) := (Own.refl _ _).alloc (Nat.le_refl _) _
theorem Bx.other {b d : Nat} {x y : Int} {W : World} (h : Bx b x y W) (hd : b ≠ d) (u v : Value) : Bx b x y ((W.setCell ⟨d, 0, none⟩ u).setCell ⟨d, 1, none⟩ v) := by
  obtain ⟨c0, c1, f0, f1, lt⟩ := h
  have hd' : d ≠ b := Ne.symm hd
  constructor <;> simp [go_sem, c0, c1, f0, f1, lt, hd, hd']

set_option maxRecDepth 100000 in
set_option maxHeartbeats 4000000 in
theorem uses_any (c : Cat) (n a m v : Int) (w : World) (hc : CatIn w.heap.size c w) :
    Calls Try.prog 7 #[.agg #[c.tv, c.lv], .int .i64 n, .agg #[.int .i64 a, .int .i64 m, .int .i64 v]] w fun e w' => e = .returned (.bool true) ∧ Below w.heap.size w w' := by
  have HC := Lib.hid hc
  clear hc
  have FL := Lib.hid (fun W (h : CatIn W.heap.size c W) => Flux_any c n a m v W h)
  have RF := Lib.hid (fun W (h : CatIn W.heap.size c W) => rFlux_any c n a m v W h)
  have PW := Lib.hid (fun W (h : CatIn W.heap.size c W) => Power_any c n v W h)
  have RP := Lib.hid (fun W (h : CatIn W.heap.size c W) => rPower_any c n v W h)
  have LV := Lib.hid (fun W (h : CatIn W.heap.size c W) => level_any c n v W h)
  have RL := Lib.hid (fun W (h : CatIn W.heap.size c W) => rlevel_any c n v W h)
  generalize fxLo c n a m v = f0 at *
  generalize fxHi c n a m v = f1 at *
  generalize fxE c n a m v = f2 at *
  generalize pwLoN c n v = g0 at *
  generalize pwHiN c n v = g1 at *
  generalize pwE c n v = g2 at *
  generalize lvlN c n v = l0 at *
  generalize errOf c n c.lamps.length = l1 at *
  unfold Cat.tv Cat.lv at *
  have own0 : Own w.heap.size w ((w.alloc (.cells #[.slice c.ta c.tabs.length c.tc, .slice c.la c.lamps.length c.lc] 25)).alloc (.cells #[.int .i64 a, .int .i64 m, .int .i64 v] 48)) := ((Own.refl _ _).alloc (Nat.le_refl _) _).alloc (by simp) _
  have ku0 : Ku c a m v w.heap.size ((w.alloc (.cells #[.slice c.ta c.tabs.length c.tc, .slice c.la c.lamps.length c.lc] 25)).alloc (.cells #[.int .i64 a, .int .i64 m, .int .i64 v] 48)) := by
    constructor <;> simp [go_sem]
  have sz0 : w.heap.size + 1 < ((w.alloc (.cells #[.slice c.ta c.tabs.length c.tc, .slice c.la c.lamps.length c.lc] 25)).alloc (.cells #[.int .i64 a, .int .i64 m, .int .i64 v] 48)).heap.size := by simp
  have CI := Lib.hid (fun (W : World) (h : Own w.heap.size w W) => (HC.out.keep h.below (Nat.le_refl _)).more h.size)
  have OW0 := Lib.hid own0
  have KU0 := Lib.hid ku0
  have SZ0 := Lib.hid sz0
  clear own0 ku0 sz0
  go_enter Try.func7, Try.ntmps7
  go_wp2_with fail
  generalize ((w.alloc (.cells #[.slice c.ta c.tabs.length c.tc, .slice c.la c.lamps.length c.lc] 25)).alloc (.cells #[.int .i64 a, .int .i64 m, .int .i64 v] 48)) = W0 at *
  refine (FL.out _ (CI.out _ OW0.out)).mono ?_
  rintro e w1 ⟨rfl, o1⟩
  obtain ⟨t0, t1, p0, p1, p2⟩ := KU0.out.keep o1 SZ0.out
  have OW1 := Lib.hid ((OW0.out.trans (o1.mono OW0.out.size)).trans ((own_new w1 (.cells #[.int .i64 f0, .int .i64 f1] 35)).mono (Nat.le_trans OW0.out.size o1.size)))
  have KU1 := Lib.hid ((KU0.out.keep o1 SZ0.out).keep (own_new w1 (.cells #[.int .i64 f0, .int .i64 f1] 35)) (Nat.lt_of_lt_of_le SZ0.out o1.size))
  have BA1 := Lib.hid (Bx.fresh w1 f0 f1 35)
  have lt1 : w.heap.size + 1 < w1.heap.size := Nat.lt_of_lt_of_le SZ0.out o1.size
  have lt1' : w.heap.size < w1.heap.size := by omega
  have ne1 : w.heap.size ≠ w1.heap.size := by omega
  have ne2 : w.heap.size + 1 ≠ w1.heap.size := by omega
  clear o1
  go_wp2_with fail
  have SZ1 : Hid (w1.heap.size < (w1.alloc (.cells #[.int .i64 f0, .int .i64 f1] 35)).heap.size) := by show _ < _; simp
  generalize w1.alloc (.cells #[.int .i64 f0, .int .i64 f1] 35) = W1 at *
  generalize w1.heap.size = A at *
  refine (RF.out _ (CI.out _ OW1.out)).mono ?_
  rintro e w2 ⟨rfl, o2⟩
  clear t0 t1 p0 p1 p2
  obtain ⟨t0, t1, p0, p1, p2⟩ := KU1.out.keep o2 (by have := SZ1.out; omega)
  obtain ⟨x0, x1, y0, y1, _⟩ := BA1.out.keep o2 SZ1.out
  have OW2 := Lib.hid ((OW1.out.trans (o2.mono OW1.out.size)).trans ((own_new w2 (.cells #[.int .i64 f0, .int .i64 f1] 35)).mono (Nat.le_trans OW1.out.size o2.size)))
  have lt2 : A < w2.heap.size := Nat.lt_of_lt_of_le SZ1.out o2.size
  have KU2 := Lib.hid ((KU1.out.keep o2 (by have := SZ1.out; omega)).keep (own_new w2 (.cells #[.int .i64 f0, .int .i64 f1] 35)) (by omega))
  have BA2 := Lib.hid ((BA1.out.keep o2 SZ1.out).keep (own_new w2 (.cells #[.int .i64 f0, .int .i64 f1] 35)) lt2)
  have BB2 := Lib.hid (Bx.fresh w2 f0 f1 35)
  have lt2' : w.heap.size < w2.heap.size := by omega
  have lt2'' : w.heap.size + 1 < w2.heap.size := by omega
  have ne3 : w.heap.size ≠ w2.heap.size := by omega
  have ne4 : w.heap.size + 1 ≠ w2.heap.size := by omega
  have ne5 : A ≠ w2.heap.size := by omega
  clear o2
  go_wp2_with fail
  have SZ2 : Hid (w2.heap.size < (w2.alloc (.cells #[.int .i64 f0, .int .i64 f1] 35)).heap.size) := by show _ < _; simp
  generalize w2.alloc (.cells #[.int .i64 f0, .int .i64 f1] 35) = W2 at *
  generalize w2.heap.size = B at *
  refine (PW.out _ (CI.out _ OW2.out)).mono ?_
  rintro e w3 ⟨rfl, o3⟩
  clear t0 t1 p0 p1 p2 x0 x1 y0 y1
  have lt3 : B < w3.heap.size := Nat.lt_of_lt_of_le SZ2.out o3.size
  have KU3 := Lib.hid (KU2.out.keep o3 (by have := SZ2.out; omega))
  obtain ⟨t0, t1, p0, p1, p2⟩ := KU3.out
  have BA3 := Lib.hid (BA2.out.keep o3 (by have := SZ2.out; omega))
  have BB3 := Lib.hid (BB2.out.keep o3 SZ2.out)
  obtain ⟨x0, x1, y0, y1, _⟩ := BA3.out
  have OW3 := Lib.hid (OW2.out.trans (o3.mono OW2.out.size))
  clear o3
  go_wp2_with fail
  have KU4 := Lib.hid (KU3.out.keep (own_set2 w3 A (.int .i64 g0) (.int .i64 g1)) (by omega))
  have BA4 := Lib.hid (BA3.out.set g0 g1)
  have BB4 := Lib.hid (BB3.out.other (Ne.symm ne5) (.int .i64 g0) (.int .i64 g1))
  have OW4 := Lib.hid (OW3.out.trans ((own_set2 w3 A (.int .i64 g0) (.int .i64 g1)).mono (by omega)))
  generalize (w3.setCell ⟨A, 0, none⟩ (.int .i64 g0)).setCell ⟨A, 1, none⟩ (.int .i64 g1) = W4 at *
  refine (RP.out _ (CI.out _ OW4.out)).mono ?_
  rintro e w5 ⟨rfl, o5⟩
  clear t0 t1 p0 p1 p2 x0 x1 y0 y1
  have lt4 := BB4.out.lt
  have KU5 := Lib.hid (KU4.out.keep o5 (by omega))
  obtain ⟨t0, t1, p0, p1, p2⟩ := KU5.out
  have BA5 := Lib.hid (BA4.out.keep o5 (by omega))
  have BB5 := Lib.hid (BB4.out.keep o5 lt4)
  obtain ⟨x0, x1, y0, y1, _⟩ := BA5.out
  obtain ⟨q0, q1, r0, r1, _⟩ := BB5.out
  have OW5 := Lib.hid (OW4.out.trans (o5.mono OW4.out.size))
  clear o5
  have ne6 := Ne.symm ne5
  go_wp2_with fail
  have KU6 := Lib.hid (KU5.out.keep (own_set2 w5 B (.int .i64 g0) (.int .i64 g1)) (by omega))
  have OW6 := Lib.hid (OW5.out.trans ((own_set2 w5 B (.int .i64 g0) (.int .i64 g1)).mono (by omega)))
  have SZ6 := Lib.hid (show w.heap.size + 1 < ((w5.setCell ⟨B, 0, none⟩ (.int .i64 g0)).setCell ⟨B, 1, none⟩ (.int .i64 g1)).heap.size from Nat.lt_of_lt_of_le (show w.heap.size + 1 < w5.heap.size by have := BB5.out.lt; omega) (own_set2 w5 B (.int .i64 g0) (.int .i64 g1)).size)
  generalize (w5.setCell ⟨B, 0, none⟩ (.int .i64 g0)).setCell ⟨B, 1, none⟩ (.int .i64 g1) = W6 at *
  refine (LV.out _ (CI.out _ OW6.out)).mono ?_
  rintro e w7 ⟨rfl, o7⟩
  clear t0 t1 p0 p1 p2 x0 x1 y0 y1 q0 q1 r0 r1
  have hs6 := OW6.out.size
  have OW7 := Lib.hid (OW6.out.trans (o7.mono OW6.out.size))
  have KU7 : Ku c a m v w.heap.size w7 := KU6.out.keep o7 SZ6.out
  obtain ⟨t0, t1, p0, p1, p2⟩ := KU7
  go_wp2_with fail
  refine (RL.out _ (CI.out _ OW7.out)).mono ?_
  rintro e w8 ⟨rfl, o8⟩
  have OW8 := Lib.hid (OW7.out.trans (o8.mono OW7.out.size))
  clear t0 t1 p0 p1 p2
  go_wp2_with fail
  refine (awake_any _).mono ?_
  rintro e w9 ⟨rfl, b9⟩
  go_wp2_with fail
  go_ret
  exact ⟨rfl, OW8.out.below.trans (b9.mono OW8.out.size)⟩
end Go.Proofs.Ythmelkakgbchbaa
