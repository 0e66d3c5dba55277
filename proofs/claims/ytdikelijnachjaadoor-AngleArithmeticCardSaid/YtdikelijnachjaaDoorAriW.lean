/- The walk of AngleArithmetic. -/
import Derived.Test.YtdikelijnachjaaDoorRam
import Derived.Test.YtdikelijnachjaaDoorRao
namespace Go.Proofs.YtdikelijnachjaaDoor
set_option linter.unusedSimpArgs false
set_option linter.unusedVariables false
open Go.RowKit SineNear

/-- six enclosures in their boxes -/
structure Six (w0 : World) (a b c d e f : Nat) (a0 a1 b0 b1 c0 c1 d0 d1 e0 e1 f0 f1 : Int) (w : World) : Prop where
  a : Box a a0 a1 w
  b : Box b b0 b1 w
  c : Box c c0 c1 w
  d : Box d d0 d1 w
  e : Box e e0 e1 w
  f : Box f f0 f1 w
  own : Below w0.heap.size w0 w
theorem Six.call {w0 w w1 : World} {a b c d e f : Nat} {a0 a1 b0 b1 c0 c1 d0 d1 e0 e1 f0 f1 : Int} (k : Six w0 a b c d e f a0 a1 b0 b1 c0 c1 d0 d1 e0 e1 f0 f1 w) (h : Below w.heap.size w w1) : Six w0 a b c d e f a0 a1 b0 b1 c0 c1 d0 d1 e0 e1 f0 f1 w1 :=
  ⟨k.a.below h, k.b.below h, k.c.below h, k.d.below h, k.e.below h, k.f.below h, k.own.trans (h.mono k.own.size)⟩

set_option maxRecDepth 100000 in
set_option maxHeartbeats 4000000 in
theorem arith_walk (x0 x1 y0 y1 p0 p1 e1 m0 m1 e2 t0 t1 e3 o0 o1 e4 : Int) (w : World) (t : Tabs w)
    (C1 : RetT 30 #[encl x0 x1, encl y0 y1] (enclE p0 p1 e1)) (C2 : Ret1 31 #[encl x0 x1, encl y0 y1] (enclE p0 p1 e1))
    (C3 : RetT 32 #[encl x0 x1, encl y0 y1] (enclE m0 m1 e2)) (C4 : Ret1 33 #[encl x0 x1, encl y0 y1] (enclE m0 m1 e2))
    (C5 : RetT 34 #[encl x0 x1, encl y0 y1] (enclE t0 t1 e3)) (C6 : Ret1 35 #[encl x0 x1, encl y0 y1] (enclE t0 t1 e3))
    (C7 : RetT 36 #[encl x0 x1, encl y0 y1] (enclE o0 o1 e4)) (C8 : Ret1 37 #[encl x0 x1, encl y0 y1] (enclE o0 o1 e4)) :
    Calls Tryd.prog 5 #[encl x0 x1, encl y0 y1] w fun e w' => e = .returned (.bool true) ∧ Below w.heap.size w w' := by
  have D1 := Lib.hid C1
  have D2 := Lib.hid C2
  have D3 := Lib.hid C3
  have D4 := Lib.hid C4
  have D5 := Lib.hid C5
  have D6 := Lib.hid C6
  have D7 := Lib.hid C7
  have D8 := Lib.hid C8
  clear C1 C2 C3 C4 C5 C6 C7 C8
  go_enter Tryd.func5, Tryd.ntmps5
  go_wp2_with fail
  have o0' : Below w.heap.size w ((w.alloc (.cells #[.int .i64 x0, .int .i64 x1] 23)).alloc (.cells #[.int .i64 y0, .int .i64 y1] 23)) := ((Below.refl _ _).alloc (Nat.le_refl _) _).alloc (by simp) _
  have ba := (Box.fresh w x0 x1 23).alloc (.cells #[.int .i64 y0, .int .i64 y1] 23)
  have bb := Box.fresh (w.alloc (.cells #[.int .i64 x0, .int .i64 x1] 23)) y0 y1 23
  rw [show (w.alloc (.cells #[.int .i64 x0, .int .i64 x1] 23)).heap.size = w.heap.size + 1 by simp] at bb
  refine (D1.out _).mono ?_
  rintro e w1 ⟨rfl, hb1⟩
  have ba := ba.below hb1
  have bb := bb.below hb1
  have o1' := o0'.trans (hb1.mono o0'.size)
  have z1 := hb1.size
  simp at z1
  clear hb1
  obtain ⟨ia0, ia1, ia2, ia3, ia4⟩ := id ba
  obtain ⟨ib0, ib1, ib2, ib3, ib4⟩ := id bb
  go_wp2_with fail
  have ba := ba.alloc (.cells #[.int .i64 p0, .int .i64 p1] 23)
  have bb := bb.alloc (.cells #[.int .i64 p0, .int .i64 p1] 23)
  have bc := Box.fresh w1 p0 p1 23
  have q2' := o1'.alloc (Below.size o1') (.cells #[.int .i64 p0, .int .i64 p1] 23)
  refine (D2.out _).mono ?_
  rintro e w2 ⟨rfl, hb2⟩
  have ba := ba.below hb2.below
  have bb := bb.below hb2.below
  have bc := bc.below hb2.below
  have o2' := q2'.trans (hb2.below.mono q2'.size)
  have z2 := hb2.below.size
  simp at z2
  clear hb2 q2' ia0 ia1 ia2 ia3 ia4 ib0 ib1 ib2 ib3 ib4
  obtain ⟨ia0, ia1, ia2, ia3, ia4⟩ := id ba
  obtain ⟨ib0, ib1, ib2, ib3, ib4⟩ := id bb
  go_wp2_with fail
  have ba := ba.alloc (.cells #[.int .i64 p0, .int .i64 p1] 23)
  have bb := bb.alloc (.cells #[.int .i64 p0, .int .i64 p1] 23)
  have bc := bc.alloc (.cells #[.int .i64 p0, .int .i64 p1] 23)
  have bd := Box.fresh w2 p0 p1 23
  have q3' := o2'.alloc (Below.size o2') (.cells #[.int .i64 p0, .int .i64 p1] 23)
  refine (D3.out _).mono ?_
  rintro e w3 ⟨rfl, hb3⟩
  have ba := ba.below hb3
  have bb := bb.below hb3
  have bc := bc.below hb3
  have bd := bd.below hb3
  have o3' := q3'.trans (hb3.mono q3'.size)
  have z3 := hb3.size
  simp at z3
  clear hb3 q3' ia0 ia1 ia2 ia3 ia4 ib0 ib1 ib2 ib3 ib4
  obtain ⟨ia0, ia1, ia2, ia3, ia4⟩ := id ba
  obtain ⟨ib0, ib1, ib2, ib3, ib4⟩ := id bb
  go_wp2_with fail
  have ba := ba.alloc (.cells #[.int .i64 m0, .int .i64 m1] 23)
  have bb := bb.alloc (.cells #[.int .i64 m0, .int .i64 m1] 23)
  have bc := bc.alloc (.cells #[.int .i64 m0, .int .i64 m1] 23)
  have bd := bd.alloc (.cells #[.int .i64 m0, .int .i64 m1] 23)
  have be := Box.fresh w3 m0 m1 23
  have q4' := o3'.alloc (Below.size o3') (.cells #[.int .i64 m0, .int .i64 m1] 23)
  refine (D4.out _).mono ?_
  rintro e w4 ⟨rfl, hb4⟩
  have ba := ba.below hb4.below
  have bb := bb.below hb4.below
  have bc := bc.below hb4.below
  have bd := bd.below hb4.below
  have be := be.below hb4.below
  have o4' := q4'.trans (hb4.below.mono q4'.size)
  have z4 := hb4.below.size
  simp at z4
  clear hb4 q4' ia0 ia1 ia2 ia3 ia4 ib0 ib1 ib2 ib3 ib4
  obtain ⟨ia0, ia1, ia2, ia3, ia4⟩ := id ba
  obtain ⟨ib0, ib1, ib2, ib3, ib4⟩ := id bb
  obtain ⟨ic0, ic1, ic2, ic3, ic4⟩ := id bc
  obtain ⟨id0, id1, id2, id3, id4⟩ := id bd
  obtain ⟨ie0, ie1, ie2, ie3, ie4⟩ := id be
  go_wp2_with fail
  have S5 : Six w w.heap.size (w.heap.size + 1) w1.heap.size w2.heap.size w3.heap.size w4.heap.size x0 x1 y0 y1 p0 p1 p0 p1 m0 m1 m0 m1 (w4.alloc (.cells #[.int .i64 m0, .int .i64 m1] 23)) := ⟨ba.alloc _, bb.alloc _, bc.alloc _, bd.alloc _, be.alloc _, Box.fresh w4 m0 m1 _, o4'.alloc (Below.size o4') _⟩
  clear ba bb bc bd be ia0 ia1 ia2 ia3 ia4 ib0 ib1 ib2 ib3 ib4 ic0 ic1 ic2 ic3 ic4 id0 id1 id2 id3 id4 ie0 ie1 ie2 ie3 ie4
  refine (D5.out _).mono ?_
  rintro e w5 ⟨rfl, hb5⟩
  have T5 := S5.call hb5
  clear S5 hb5
  obtain ⟨aa0, aa1, aa2, aa3, aa4⟩ := T5.a
  obtain ⟨bb0, bb1, bb2, bb3, bb4⟩ := T5.b
  obtain ⟨cc0, cc1, cc2, cc3, cc4⟩ := T5.c
  obtain ⟨dd0, dd1, dd2, dd3, dd4⟩ := T5.d
  obtain ⟨ee0, ee1, ee2, ee3, ee4⟩ := T5.e
  obtain ⟨ff0, ff1, ff2, ff3, ff4⟩ := T5.f
  go_wp2_with fail
  have S6 : Six w w.heap.size (w.heap.size + 1) w1.heap.size w2.heap.size w3.heap.size w4.heap.size x0 x1 y0 y1 t0 t1 p0 p1 m0 m1 m0 m1 ((w5.setCell ⟨w1.heap.size, 0, none⟩ (.int .i64 t0)).setCell ⟨w1.heap.size, 1, none⟩ (.int .i64 t1)) := ⟨T5.a.other (by omega) _ _, T5.b.other (by omega) _ _, T5.c.set t0 t1, T5.d.other (by omega) _ _, T5.e.other (by omega) _ _, T5.f.other (by omega) _ _, (T5.own.setCell (by simp; omega) _).setCell (by simp; omega) _⟩
  clear aa0 aa1 aa2 aa3 aa4 bb0 bb1 bb2 bb3 bb4 cc0 cc1 cc2 cc3 cc4 dd0 dd1 dd2 dd3 dd4 ee0 ee1 ee2 ee3 ee4 ff0 ff1 ff2 ff3 ff4 T5
  refine (D6.out _).mono ?_
  rintro e w6 ⟨rfl, hb6⟩
  have T6 := S6.call hb6.below
  clear S6 hb6
  obtain ⟨aa0, aa1, aa2, aa3, aa4⟩ := T6.a
  obtain ⟨bb0, bb1, bb2, bb3, bb4⟩ := T6.b
  obtain ⟨cc0, cc1, cc2, cc3, cc4⟩ := T6.c
  obtain ⟨dd0, dd1, dd2, dd3, dd4⟩ := T6.d
  obtain ⟨ee0, ee1, ee2, ee3, ee4⟩ := T6.e
  obtain ⟨ff0, ff1, ff2, ff3, ff4⟩ := T6.f
  go_wp2_with fail
  have S7 : Six w w.heap.size (w.heap.size + 1) w1.heap.size w2.heap.size w3.heap.size w4.heap.size x0 x1 y0 y1 t0 t1 t0 t1 m0 m1 m0 m1 ((w6.setCell ⟨w2.heap.size, 0, none⟩ (.int .i64 t0)).setCell ⟨w2.heap.size, 1, none⟩ (.int .i64 t1)) := ⟨T6.a.other (by omega) _ _, T6.b.other (by omega) _ _, T6.c.other (by omega) _ _, T6.d.set t0 t1, T6.e.other (by omega) _ _, T6.f.other (by omega) _ _, (T6.own.setCell (by simp; omega) _).setCell (by simp; omega) _⟩
  clear aa0 aa1 aa2 aa3 aa4 bb0 bb1 bb2 bb3 bb4 cc0 cc1 cc2 cc3 cc4 dd0 dd1 dd2 dd3 dd4 ee0 ee1 ee2 ee3 ee4 ff0 ff1 ff2 ff3 ff4 T6
  refine (D7.out _).mono ?_
  rintro e w7 ⟨rfl, hb7⟩
  have T7 := S7.call hb7
  clear S7 hb7
  obtain ⟨aa0, aa1, aa2, aa3, aa4⟩ := T7.a
  obtain ⟨bb0, bb1, bb2, bb3, bb4⟩ := T7.b
  obtain ⟨cc0, cc1, cc2, cc3, cc4⟩ := T7.c
  obtain ⟨dd0, dd1, dd2, dd3, dd4⟩ := T7.d
  obtain ⟨ee0, ee1, ee2, ee3, ee4⟩ := T7.e
  obtain ⟨ff0, ff1, ff2, ff3, ff4⟩ := T7.f
  go_wp2_with fail
  have S8 : Six w w.heap.size (w.heap.size + 1) w1.heap.size w2.heap.size w3.heap.size w4.heap.size x0 x1 y0 y1 t0 t1 t0 t1 o0 o1 m0 m1 ((w7.setCell ⟨w3.heap.size, 0, none⟩ (.int .i64 o0)).setCell ⟨w3.heap.size, 1, none⟩ (.int .i64 o1)) := ⟨T7.a.other (by omega) _ _, T7.b.other (by omega) _ _, T7.c.other (by omega) _ _, T7.d.other (by omega) _ _, T7.e.set o0 o1, T7.f.other (by omega) _ _, (T7.own.setCell (by simp; omega) _).setCell (by simp; omega) _⟩
  clear aa0 aa1 aa2 aa3 aa4 bb0 bb1 bb2 bb3 bb4 cc0 cc1 cc2 cc3 cc4 dd0 dd1 dd2 dd3 dd4 ee0 ee1 ee2 ee3 ee4 ff0 ff1 ff2 ff3 ff4 T7
  refine (D8.out _).mono ?_
  rintro e w8 ⟨rfl, hb8⟩
  have T8 := S8.call hb8.below
  clear S8 hb8
  obtain ⟨aa0, aa1, aa2, aa3, aa4⟩ := T8.a
  obtain ⟨bb0, bb1, bb2, bb3, bb4⟩ := T8.b
  obtain ⟨cc0, cc1, cc2, cc3, cc4⟩ := T8.c
  obtain ⟨dd0, dd1, dd2, dd3, dd4⟩ := T8.d
  obtain ⟨ee0, ee1, ee2, ee3, ee4⟩ := T8.e
  obtain ⟨ff0, ff1, ff2, ff3, ff4⟩ := T8.f
  go_wp2_with fail
  have S9 : Six w w.heap.size (w.heap.size + 1) w1.heap.size w2.heap.size w3.heap.size w4.heap.size x0 x1 y0 y1 t0 t1 t0 t1 o0 o1 o0 o1 ((w8.setCell ⟨w4.heap.size, 0, none⟩ (.int .i64 o0)).setCell ⟨w4.heap.size, 1, none⟩ (.int .i64 o1)) := ⟨T8.a.other (by omega) _ _, T8.b.other (by omega) _ _, T8.c.other (by omega) _ _, T8.d.other (by omega) _ _, T8.e.other (by omega) _ _, T8.f.set o0 o1, (T8.own.setCell (by simp; omega) _).setCell (by simp; omega) _⟩
  clear aa0 aa1 aa2 aa3 aa4 bb0 bb1 bb2 bb3 bb4 cc0 cc1 cc2 cc3 cc4 dd0 dd1 dd2 dd3 dd4 ee0 ee1 ee2 ee3 ee4 ff0 ff1 ff2 ff3 ff4 T8
  refine (awake_any _ (t.below S9.own)).mono ?_
  rintro e w9 ⟨rfl, hb9⟩
  go_wp2_with fail
  go_ret
  exact ⟨rfl, S9.own.trans (hb9.mono S9.own.size)⟩

theorem plus_same (x0 x1 y0 y1 : Int) : plusV x0 x1 y0 y1 = if valB x0 x1 && valB y0 y1 then resE (x0 + y0) (x1 + y1) else enclE 0 0 7 := by
  unfold plusV
  cases h : (valB x0 x1 && valB y0 y1)
  · rfl
  · obtain ⟨hx, hy⟩ := and_yes h
    have bx := valB_bd hx
    have bY := valB_bd hy
    have e1 : lo4 (x0 + y0) (x0 + y1) (x1 + y0) (x1 + y1) = x0 + y0 := by unfold lo4; omega
    have e2 : hi4 (x0 + y0) (x0 + y1) (x1 + y0) (x1 + y1) = x1 + y1 := by unfold hi4; omega
    rw [e1, e2]
theorem minus_same (x0 x1 y0 y1 : Int) : minusV x0 x1 y0 y1 = if valB x0 x1 && valB y0 y1 then resE (x0 - y1) (x1 - y0) else enclE 0 0 7 := by
  unfold minusV
  cases h : (valB x0 x1 && valB y0 y1)
  · rfl
  · obtain ⟨hx, hy⟩ := and_yes h
    have bx := valB_bd hx
    have bY := valB_bd hy
    have e1 : lo4 (x0 - y0) (x0 - y1) (x1 - y0) (x1 - y1) = x0 - y1 := by unfold lo4; omega
    have e2 : hi4 (x0 - y0) (x0 - y1) (x1 - y0) (x1 - y1) = x1 - y0 := by unfold hi4; omega
    rw [e1, e2]
/-- each of the values is an enclosure and an error -/
theorem isE_if (b : Bool) (v : Value) (h : ∃ l h e, v = enclE l h e) : ∃ l h e, (if b then v else enclE 0 0 7) = enclE l h e := by
  cases b
  · exact ⟨0, 0, 7, rfl⟩
  · exact h

theorem arith_any (x0 x1 y0 y1 : Int) (w : World) (t : Tabs w) :
    Calls Tryd.prog 5 #[encl x0 x1, encl y0 y1] w fun e w' => e = .returned (.bool true) ∧ Below w.heap.size w w' := by
  have C1 := plus_any x0 x1 y0 y1
  have C2 := rplus_any x0 x1 y0 y1
  have C3 := minus_any x0 x1 y0 y1
  have C4 := rminus_any x0 x1 y0 y1
  have C5 := times_any x0 x1 y0 y1
  have C6 := rtimes_any x0 x1 y0 y1
  have C7 := over_any x0 x1 y0 y1
  have C8 := rover_any x0 x1 y0 y1
  rw [plus_same] at C1
  rw [minus_same] at C3
  obtain ⟨p0, p1, e1, h1⟩ := isE_if (valB x0 x1 && valB y0 y1) (resE (x0 + y0) (x1 + y1)) ⟨_, _, _, rfl⟩
  obtain ⟨m0, m1, e2, h2⟩ := isE_if (valB x0 x1 && valB y0 y1) (resE (x0 - y1) (x1 - y0)) ⟨_, _, _, rfl⟩
  obtain ⟨t0, t1, e3, h3⟩ : ∃ l h e, timesV x0 x1 y0 y1 = enclE l h e := isE_if _ _ ⟨_, _, _, rfl⟩
  obtain ⟨o0, o1, e4, h4⟩ : ∃ l h e, overV x0 x1 y0 y1 = enclE l h e := isE_if _ _ (by cases zeroIn y0 y1; exact ⟨_, _, _, rfl⟩; exact ⟨_, _, _, rfl⟩)
  rw [h1] at C1 C2
  rw [h2] at C3 C4
  rw [h3] at C5 C6
  rw [h4] at C7 C8
  exact arith_walk x0 x1 y0 y1 p0 p1 e1 m0 m1 e2 t0 t1 e3 o0 o1 e4 w t C1 C2 C3 C4 C5 C6 C7 C8
end Go.Proofs.YtdikelijnachjaaDoor
