/- The walk of AngleSines. -/
import Derived.Test.YtdikelijnachjaaDoorRsp
import Derived.Test.YtdikelijnachjaaDoorRar
import Derived.Test.YtdikelijnachjaaDoorWawk
import Derived.IntWalk
import Derived.BigRegion
import Derived.Deep.LoopGhost
import Derived.Deep.DrawnRows
namespace Go.Proofs.YtdikelijnachjaaDoor
set_option linter.unusedSimpArgs false
set_option linter.unusedVariables false
open Go.RowKit SineNear
attribute [local go_sem ↓] Go.wp_at_zero Go.wp_at_succ


/-- five enclosures in their boxes -/
structure Fv (w0 : World) (y p q r s : Nat) (y0 y1 p0 p1 q0 q1 r0 r1 s0 s1 : Int) (w : World) : Prop where
  y : Box y y0 y1 w
  p : Box p p0 p1 w
  q : Box q q0 q1 w
  r : Box r r0 r1 w
  s : Box s s0 s1 w
  own : Own w0.heap.size w0 w
theorem Fv.call {w0 w w1 : World} {y p q r s : Nat} {y0 y1 p0 p1 q0 q1 r0 r1 s0 s1 : Int} (k : Fv w0 y p q r s y0 y1 p0 p1 q0 q1 r0 r1 s0 s1 w) (h : Own w.heap.size w w1) : Fv w0 y p q r s y0 y1 p0 p1 q0 q1 r0 r1 s0 s1 w1 :=
  ⟨k.y.below h.below, k.p.below h.below, k.q.below h.below, k.r.below h.below, k.s.below h.below, k.own.trans (h.mono k.own.size)⟩

set_option maxRecDepth 100000 in
set_option maxHeartbeats 4000000 in
theorem sines_walk (a y0 y1 s0 s1 e1 c0 c1 e2 u0 u1 e3 k0 k1 e4 : Int) (w : World) (t : Tabs w)
    (C1 : RetL 15 #[.int .i64 a] (enclE s0 s1 e1)) (C2 : RetL 16 #[.int .i64 a] (enclE s0 s1 e1))
    (C3 : RetL 17 #[.int .i64 a] (enclE c0 c1 e2)) (C4 : RetL 18 #[.int .i64 a] (enclE c0 c1 e2))
    (C5 : RetL 19 #[encl y0 y1] (enclE u0 u1 e3)) (C6 : RetL 20 #[encl y0 y1] (enclE u0 u1 e3))
    (C7 : RetL 21 #[encl y0 y1] (enclE k0 k1 e4)) (C8 : RetL 22 #[encl y0 y1] (enclE k0 k1 e4)) :
    Calls Tryd.prog 3 #[.int .i64 a, encl y0 y1] w fun e w' => e = .returned (.bool true) ∧ Below w.heap.size w w' := by
  have D1 := hidden C1
  have D2 := hidden C2
  have D3 := hidden C3
  have D4 := hidden C4
  have D5 := hidden C5
  have D6 := hidden C6
  have D7 := hidden C7
  have D8 := hidden C8
  clear C1 C2 C3 C4 C5 C6 C7 C8
  go_enter Tryd.func3, Tryd.ntmps3
  go_wp2_with fail
  have o0' : Own w.heap.size w (w.alloc (.cells #[.int .i64 y0, .int .i64 y1] 23)) := (Own.refl _ _).alloc (Nat.le_refl _) _
  have by' := Box.fresh w y0 y1 23
  refine (D1.out.at _).mono ?_
  rintro e w1 ⟨rfl, hb1⟩
  have by' := by'.below hb1.below
  have o1 := o0'.trans (hb1.mono o0'.size)
  have zz1 := hb1.size
  simp at zz1
  clear hb1
  obtain ⟨ya, yb, yc, yd, yz⟩ := id by'
  go_wp2_with fail
  have by' := by'.alloc (.cells #[.int .i64 s0, .int .i64 s1] 23)
  have bp := Box.fresh w1 s0 s1 23
  have o1 := o1.alloc (Own.size o1) (.cells #[.int .i64 s0, .int .i64 s1] 23)
  clear ya yb yc yd yz
  refine (D2.out.at _).mono ?_
  rintro e w2 ⟨rfl, hb2⟩
  have by' := by'.below hb2.below
  have bp := bp.below hb2.below
  have o2 := o1.trans (hb2.mono o1.size)
  have zz2 := hb2.size
  simp at zz2
  clear hb2
  obtain ⟨ya, yb, yc, yd, yz⟩ := id by'
  obtain ⟨pa, pb, pc, pd, pz⟩ := id bp
  go_wp2_with fail
  have by' := by'.alloc (.cells #[.int .i64 s0, .int .i64 s1] 23)
  have bp := bp.alloc (.cells #[.int .i64 s0, .int .i64 s1] 23)
  have bq := Box.fresh w2 s0 s1 23
  have o2 := o2.alloc (Own.size o2) (.cells #[.int .i64 s0, .int .i64 s1] 23)
  clear ya yb yc yd yz pa pb pc pd pz
  refine (D3.out.at _).mono ?_
  rintro e w3 ⟨rfl, hb3⟩
  have by' := by'.below hb3.below
  have bp := bp.below hb3.below
  have bq := bq.below hb3.below
  have o3 := o2.trans (hb3.mono o2.size)
  have zz3 := hb3.size
  simp at zz3
  clear hb3
  obtain ⟨ya, yb, yc, yd, yz⟩ := id by'
  obtain ⟨pa, pb, pc, pd, pz⟩ := id bp
  obtain ⟨qa, qb, qc, qd, qz⟩ := id bq
  go_wp2_with fail
  have by' := by'.alloc (.cells #[.int .i64 c0, .int .i64 c1] 23)
  have bp := bp.alloc (.cells #[.int .i64 c0, .int .i64 c1] 23)
  have bq := bq.alloc (.cells #[.int .i64 c0, .int .i64 c1] 23)
  have br := Box.fresh w3 c0 c1 23
  have o3 := o3.alloc (Own.size o3) (.cells #[.int .i64 c0, .int .i64 c1] 23)
  clear ya yb yc yd yz pa pb pc pd pz qa qb qc qd qz
  refine (D4.out.at _).mono ?_
  rintro e w4 ⟨rfl, hb4⟩
  have by' := by'.below hb4.below
  have bp := bp.below hb4.below
  have bq := bq.below hb4.below
  have br := br.below hb4.below
  have o4 := o3.trans (hb4.mono o3.size)
  have zz4 := hb4.size
  simp at zz4
  clear hb4
  obtain ⟨ya, yb, yc, yd, yz⟩ := id by'
  obtain ⟨pa, pb, pc, pd, pz⟩ := id bp
  obtain ⟨qa, qb, qc, qd, qz⟩ := id bq
  obtain ⟨ra, rb, rc, rd, rz⟩ := id br
  go_wp2_with fail
  clear ya yb yc yd yz pa pb pc pd pz qa qb qc qd qz ra rb rc rd rz
  have S5 : Fv w w.heap.size w1.heap.size w2.heap.size w3.heap.size w4.heap.size y0 y1 s0 s1 s0 s1 c0 c1 c0 c1 (w4.alloc (.cells #[.int .i64 c0, .int .i64 c1] 23)) := ⟨by'.alloc _, bp.alloc _, bq.alloc _, br.alloc _, Box.fresh w4 c0 c1 _, o4.alloc (Own.size o4) _⟩
  clear by' bp bq br o0' o1 o2 o3 o4
  refine (D5.out.at _).mono ?_
  rintro e w5 ⟨rfl, hb5⟩
  have T5 := S5.call hb5
  clear S5 hb5
  obtain ⟨ya, yb, yc, yd, yz⟩ := T5.y
  obtain ⟨pa, pb, pc, pd, pz⟩ := T5.p
  obtain ⟨qa, qb, qc, qd, qz⟩ := T5.q
  obtain ⟨ra, rb, rc, rd, rz⟩ := T5.r
  obtain ⟨sa, sb, sc, sd, sz⟩ := T5.s
  go_wp2_with fail
  have S6 : Fv w w.heap.size w1.heap.size w2.heap.size w3.heap.size w4.heap.size y0 y1 u0 u1 s0 s1 c0 c1 c0 c1 ((w5.setCell ⟨w1.heap.size, 0, none⟩ (.int .i64 u0)).setCell ⟨w1.heap.size, 1, none⟩ (.int .i64 u1)) := ⟨T5.y.other (by omega) _ _, T5.p.set u0 u1, T5.q.other (by omega) _ _, T5.r.other (by omega) _ _, T5.s.other (by omega) _ _, (T5.own.put (by omega) _).put (by omega) _⟩
  clear ya yb yc yd yz pa pb pc pd pz qa qb qc qd qz ra rb rc rd rz sa sb sc sd sz T5
  refine (D6.out.at _).mono ?_
  rintro e w6 ⟨rfl, hb6⟩
  have T6 := S6.call hb6
  clear S6 hb6
  obtain ⟨ya, yb, yc, yd, yz⟩ := T6.y
  obtain ⟨pa, pb, pc, pd, pz⟩ := T6.p
  obtain ⟨qa, qb, qc, qd, qz⟩ := T6.q
  obtain ⟨ra, rb, rc, rd, rz⟩ := T6.r
  obtain ⟨sa, sb, sc, sd, sz⟩ := T6.s
  go_wp2_with fail
  have S7 : Fv w w.heap.size w1.heap.size w2.heap.size w3.heap.size w4.heap.size y0 y1 u0 u1 u0 u1 c0 c1 c0 c1 ((w6.setCell ⟨w2.heap.size, 0, none⟩ (.int .i64 u0)).setCell ⟨w2.heap.size, 1, none⟩ (.int .i64 u1)) := ⟨T6.y.other (by omega) _ _, T6.p.other (by omega) _ _, T6.q.set u0 u1, T6.r.other (by omega) _ _, T6.s.other (by omega) _ _, (T6.own.put (by omega) _).put (by omega) _⟩
  clear ya yb yc yd yz pa pb pc pd pz qa qb qc qd qz ra rb rc rd rz sa sb sc sd sz T6
  refine (D7.out.at _).mono ?_
  rintro e w7 ⟨rfl, hb7⟩
  have T7 := S7.call hb7
  clear S7 hb7
  obtain ⟨ya, yb, yc, yd, yz⟩ := T7.y
  obtain ⟨pa, pb, pc, pd, pz⟩ := T7.p
  obtain ⟨qa, qb, qc, qd, qz⟩ := T7.q
  obtain ⟨ra, rb, rc, rd, rz⟩ := T7.r
  obtain ⟨sa, sb, sc, sd, sz⟩ := T7.s
  go_wp2_with fail
  have S8 : Fv w w.heap.size w1.heap.size w2.heap.size w3.heap.size w4.heap.size y0 y1 u0 u1 u0 u1 k0 k1 c0 c1 ((w7.setCell ⟨w3.heap.size, 0, none⟩ (.int .i64 k0)).setCell ⟨w3.heap.size, 1, none⟩ (.int .i64 k1)) := ⟨T7.y.other (by omega) _ _, T7.p.other (by omega) _ _, T7.q.other (by omega) _ _, T7.r.set k0 k1, T7.s.other (by omega) _ _, (T7.own.put (by omega) _).put (by omega) _⟩
  clear ya yb yc yd yz pa pb pc pd pz qa qb qc qd qz ra rb rc rd rz sa sb sc sd sz T7
  refine (D8.out.at _).mono ?_
  rintro e w8 ⟨rfl, hb8⟩
  have T8 := S8.call hb8
  clear S8 hb8
  obtain ⟨ya, yb, yc, yd, yz⟩ := T8.y
  obtain ⟨pa, pb, pc, pd, pz⟩ := T8.p
  obtain ⟨qa, qb, qc, qd, qz⟩ := T8.q
  obtain ⟨ra, rb, rc, rd, rz⟩ := T8.r
  obtain ⟨sa, sb, sc, sd, sz⟩ := T8.s
  go_wp2_with fail
  have S9 : Fv w w.heap.size w1.heap.size w2.heap.size w3.heap.size w4.heap.size y0 y1 u0 u1 u0 u1 k0 k1 k0 k1 ((w8.setCell ⟨w4.heap.size, 0, none⟩ (.int .i64 k0)).setCell ⟨w4.heap.size, 1, none⟩ (.int .i64 k1)) := ⟨T8.y.other (by omega) _ _, T8.p.other (by omega) _ _, T8.q.other (by omega) _ _, T8.r.other (by omega) _ _, T8.s.set k0 k1, (T8.own.put (by omega) _).put (by omega) _⟩
  clear ya yb yc yd yz pa pb pc pd pz qa qb qc qd qz ra rb rc rd rz sa sb sc sd sz T8
  refine (awake_any _ (t.below S9.own.below)).mono ?_
  rintro e wl ⟨rfl, hbl⟩
  go_wp2_with fail
  go_ret
  exact ⟨rfl, S9.own.below.trans (hbl.mono S9.own.size)⟩

theorem sinesLaw_any (a y0 y1 : Int) (w : World) (t : Tabs w) :
    Calls Tryd.prog 3 #[.int .i64 a, encl y0 y1] w fun e w' => e = .returned (.bool true) ∧ Below w.heap.size w w' :=
  sines_walk a y0 y1 _ _ _ _ _ _ _ _ _ _ _ _ w t (fun w => sin_any a w) (rsin_any a) (fun w => cos_any a w) (rcos_any a) (fun w => sinOf_any y0 y1 w) (rsinOf_any y0 y1) (fun w => cosOf_any y0 y1 w) (rcosOf_any y0 y1)
end Go.Proofs.YtdikelijnachjaaDoor
