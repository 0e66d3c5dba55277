/- The walk of AngleArcs. -/
import Derived.Test.YtdikelijnachjaaDoorRac
import Derived.Test.YtdikelijnachjaaDoorWawk
import Derived.IntWalk
import Derived.BigRegion
import Derived.Deep.LoopGhost
import Derived.Deep.DrawnRows
namespace Go.Proofs.YtdikelijnachjaaDoor
set_option linter.unusedSimpArgs false
set_option linter.unusedVariables false
open Go.RowKit SineNear
attribute [local go_sem ↓] Go.wp_at_zero Go.wp_at_succ


/-- five enclosures in their boxes -/
structure Fw (w0 : World) (y p q r s : Nat) (y0 y1 p0 p1 q0 q1 r0 r1 s0 s1 : Int) (w : World) : Prop where
  y : Box y y0 y1 w
  p : Box p p0 p1 w
  q : Box q q0 q1 w
  r : Box r r0 r1 w
  s : Box s s0 s1 w
  own : Own w0.heap.size w0 w
theorem Fw.call {w0 w w1 : World} {y p q r s : Nat} {y0 y1 p0 p1 q0 q1 r0 r1 s0 s1 : Int} (k : Fw w0 y p q r s y0 y1 p0 p1 q0 q1 r0 r1 s0 s1 w) (h : Own w.heap.size w w1) : Fw w0 y p q r s y0 y1 p0 p1 q0 q1 r0 r1 s0 s1 w1 :=
  ⟨k.y.below h.below, k.p.below h.below, k.q.below h.below, k.r.below h.below, k.s.below h.below, k.own.trans (h.mono k.own.size)⟩

set_option maxRecDepth 100000 in
set_option maxHeartbeats 4000000 in
theorem arcs_walk (y0 y1 s0 s1 e1 c0 c1 e2 u0 u1 e3 : Int) (w : World) (t : Tabs w)
    (C1 : RetL 24 #[encl y0 y1] (enclE s0 s1 e1)) (C2 : RetL 25 #[encl y0 y1] (enclE s0 s1 e1))
    (C3 : RetL 26 #[encl y0 y1] (enclE c0 c1 e2)) (C4 : RetL 27 #[encl y0 y1] (enclE c0 c1 e2))
    (C5 : RetL 28 #[encl y0 y1] (enclE u0 u1 e3)) (C6 : RetL 29 #[encl y0 y1] (enclE u0 u1 e3)) :
    Calls Tryd.prog 4 #[encl y0 y1] w fun e w' => e = .returned (.bool true) ∧ Below w.heap.size w w' := by
  have D1 := hidden C1
  have D2 := hidden C2
  have D3 := hidden C3
  have D4 := hidden C4
  have D5 := hidden C5
  have D6 := hidden C6
  clear C1 C2 C3 C4 C5 C6
  go_enter Tryd.func4, Tryd.ntmps4
  go_wp2_with fail
  have o0' : Own w.heap.size w (w.alloc (.cells #[.int .i64 y0, .int .i64 y1] 23)) := (Own.refl _ _).alloc (Nat.le_refl _) _
  have by' := Box.fresh w y0 y1 23
  refine (D1.out.at _).mono ?_
  rintro e w1 ⟨rfl, hb1⟩
  have by' := by'.below hb1.below
  have o1 := o0'.trans (hb1.mono o0'.size)
  have zz1 := hb1.size
  simp at zz1
  clear hb1
  obtain ⟨ya, yb, yc, yd, yz⟩ := id by'
  go_wp2_with fail
  have by' := by'.alloc (.cells #[.int .i64 s0, .int .i64 s1] 23)
  have bp := Box.fresh w1 s0 s1 23
  have o1 := o1.alloc (Own.size o1) (.cells #[.int .i64 s0, .int .i64 s1] 23)
  clear ya yb yc yd yz
  refine (D2.out.at _).mono ?_
  rintro e w2 ⟨rfl, hb2⟩
  have by' := by'.below hb2.below
  have bp := bp.below hb2.below
  have o2 := o1.trans (hb2.mono o1.size)
  have zz2 := hb2.size
  simp at zz2
  clear hb2
  obtain ⟨ya, yb, yc, yd, yz⟩ := id by'
  obtain ⟨pa, pb, pc, pd, pz⟩ := id bp
  go_wp2_with fail
  have by' := by'.alloc (.cells #[.int .i64 s0, .int .i64 s1] 23)
  have bp := bp.alloc (.cells #[.int .i64 s0, .int .i64 s1] 23)
  have bq := Box.fresh w2 s0 s1 23
  have o2 := o2.alloc (Own.size o2) (.cells #[.int .i64 s0, .int .i64 s1] 23)
  clear ya yb yc yd yz pa pb pc pd pz
  refine (D3.out.at _).mono ?_
  rintro e w3 ⟨rfl, hb3⟩
  have by' := by'.below hb3.below
  have bp := bp.below hb3.below
  have bq := bq.below hb3.below
  have o3 := o2.trans (hb3.mono o2.size)
  have zz3 := hb3.size
  simp at zz3
  clear hb3
  obtain ⟨ya, yb, yc, yd, yz⟩ := id by'
  obtain ⟨pa, pb, pc, pd, pz⟩ := id bp
  obtain ⟨qa, qb, qc, qd, qz⟩ := id bq
  go_wp2_with fail
  have by' := by'.alloc (.cells #[.int .i64 c0, .int .i64 c1] 23)
  have bp := bp.alloc (.cells #[.int .i64 c0, .int .i64 c1] 23)
  have bq := bq.alloc (.cells #[.int .i64 c0, .int .i64 c1] 23)
  have br := Box.fresh w3 c0 c1 23
  have o3 := o3.alloc (Own.size o3) (.cells #[.int .i64 c0, .int .i64 c1] 23)
  clear ya yb yc yd yz pa pb pc pd pz qa qb qc qd qz
  refine (D4.out.at _).mono ?_
  rintro e w4 ⟨rfl, hb4⟩
  have by' := by'.below hb4.below
  have bp := bp.below hb4.below
  have bq := bq.below hb4.below
  have br := br.below hb4.below
  have o4 := o3.trans (hb4.mono o3.size)
  have zz4 := hb4.size
  simp at zz4
  clear hb4
  obtain ⟨ya, yb, yc, yd, yz⟩ := id by'
  obtain ⟨pa, pb, pc, pd, pz⟩ := id bp
  obtain ⟨qa, qb, qc, qd, qz⟩ := id bq
  obtain ⟨ra, rb, rc, rd, rz⟩ := id br
  go_wp2_with fail
  clear ya yb yc yd yz pa pb pc pd pz qa qb qc qd qz ra rb rc rd rz
  have S5 : Fw w w.heap.size w1.heap.size w2.heap.size w3.heap.size w4.heap.size y0 y1 s0 s1 s0 s1 c0 c1 c0 c1 (w4.alloc (.cells #[.int .i64 c0, .int .i64 c1] 23)) := ⟨by'.alloc _, bp.alloc _, bq.alloc _, br.alloc _, Box.fresh w4 c0 c1 _, o4.alloc (Own.size o4) _⟩
  clear by' bp bq br o0' o1 o2 o3 o4
  refine (D5.out.at _).mono ?_
  rintro e w5 ⟨rfl, hb5⟩
  have T5 := S5.call hb5
  clear S5 hb5
  obtain ⟨ya, yb, yc, yd, yz⟩ := T5.y
  obtain ⟨pa, pb, pc, pd, pz⟩ := T5.p
  obtain ⟨qa, qb, qc, qd, qz⟩ := T5.q
  obtain ⟨ra, rb, rc, rd, rz⟩ := T5.r
  obtain ⟨sa, sb, sc, sd, sz⟩ := T5.s
  go_wp2_with fail
  have S6 : Fw w w.heap.size w1.heap.size w2.heap.size w3.heap.size w4.heap.size y0 y1 u0 u1 s0 s1 c0 c1 c0 c1 ((w5.setCell ⟨w1.heap.size, 0, none⟩ (.int .i64 u0)).setCell ⟨w1.heap.size, 1, none⟩ (.int .i64 u1)) := ⟨T5.y.other (by omega) _ _, T5.p.set u0 u1, T5.q.other (by omega) _ _, T5.r.other (by omega) _ _, T5.s.other (by omega) _ _, (T5.own.put (by omega) _).put (by omega) _⟩
  clear ya yb yc yd yz pa pb pc pd pz qa qb qc qd qz ra rb rc rd rz sa sb sc sd sz T5
  refine (D6.out.at _).mono ?_
  rintro e w6 ⟨rfl, hb6⟩
  have T6 := S6.call hb6
  clear S6 hb6
  obtain ⟨ya, yb, yc, yd, yz⟩ := T6.y
  obtain ⟨pa, pb, pc, pd, pz⟩ := T6.p
  obtain ⟨qa, qb, qc, qd, qz⟩ := T6.q
  obtain ⟨ra, rb, rc, rd, rz⟩ := T6.r
  obtain ⟨sa, sb, sc, sd, sz⟩ := T6.s
  go_wp2_with fail
  have S7 : Fw w w.heap.size w1.heap.size w2.heap.size w3.heap.size w4.heap.size y0 y1 u0 u1 u0 u1 c0 c1 c0 c1 ((w6.setCell ⟨w2.heap.size, 0, none⟩ (.int .i64 u0)).setCell ⟨w2.heap.size, 1, none⟩ (.int .i64 u1)) := ⟨T6.y.other (by omega) _ _, T6.p.other (by omega) _ _, T6.q.set u0 u1, T6.r.other (by omega) _ _, T6.s.other (by omega) _ _, (T6.own.put (by omega) _).put (by omega) _⟩
  clear ya yb yc yd yz pa pb pc pd pz qa qb qc qd qz ra rb rc rd rz sa sb sc sd sz T6
  refine (awake_any _ (t.below S7.own.below)).mono ?_
  rintro e wl ⟨rfl, hbl⟩
  go_wp2_with fail
  go_ret
  exact ⟨rfl, S7.own.below.trans (hbl.mono S7.own.size)⟩

theorem arcsLaw_any (y0 y1 : Int) (w : World) (t : Tabs w) :
    Calls Tryd.prog 4 #[encl y0 y1] w fun e w' => e = .returned (.bool true) ∧ Below w.heap.size w w' :=
  arcs_walk y0 y1 _ _ _ _ _ _ _ _ _ w t (fun w => arccos_any y0 y1 w) (rArccos_any y0 y1) (fun w => arcsin_any y0 y1 w) (rArcsin_any y0 y1) (fun w => rootA_any y0 y1 w) (rRoot_any y0 y1)
end Go.Proofs.YtdikelijnachjaaDoor
