/- The walk of AngleKnown. -/
import Derived.Test.YtdikelijnachjaaDoorKnm
import Derived.Deep.RegionHeld3
import Derived.Deep.DrawnRows
namespace Go.Proofs.YtdikelijnachjaaDoor
set_option linter.unusedSimpArgs false
set_option linter.unusedVariables false
open Go.RowKit SineNear
attribute [local go_sem ↓] Go.wp_at_zero Go.wp_at_succ

/-- four enclosures in their boxes -/
structure Fr (w0 : World) (p q r s : Nat) (p0 p1 q0 q1 r0 r1 s0 s1 : Int) (w : World) : Prop where
  p : Box p p0 p1 w
  q : Box q q0 q1 w
  r : Box r r0 r1 w
  s : Box s s0 s1 w
  own : Below w0.heap.size w0 w
theorem Fr.call {w0 w w1 : World} {p q r s : Nat} {p0 p1 q0 q1 r0 r1 s0 s1 : Int} (k : Fr w0 p q r s p0 p1 q0 q1 r0 r1 s0 s1 w) (h : Below w.heap.size w w1) : Fr w0 p q r s p0 p1 q0 q1 r0 r1 s0 s1 w1 :=
  ⟨k.p.below h, k.q.below h, k.r.below h, k.s.below h, k.own.trans (h.mono k.own.size)⟩
/-- their cells, and all that a region leaves as it was -/
def KpR (W : World) (p q r s : Nat) (p0 p1 q0 q1 r0 r1 s0 s1 : Int) (w : World) : Prop := w.cell? ⟨p, 0, none⟩ = some (.int .i64 p0) ∧ w.cell? ⟨p, 1, none⟩ = some (.int .i64 p1) ∧ w.cell? ⟨q, 0, none⟩ = some (.int .i64 q0) ∧ w.cell? ⟨q, 1, none⟩ = some (.int .i64 q1) ∧ w.cell? ⟨r, 0, none⟩ = some (.int .i64 r0) ∧ w.cell? ⟨r, 1, none⟩ = some (.int .i64 r1) ∧ w.cell? ⟨s, 0, none⟩ = some (.int .i64 s0) ∧ w.cell? ⟨s, 1, none⟩ = some (.int .i64 s1) ∧ (p < w.heap.size ∧ q < w.heap.size ∧ r < w.heap.size ∧ s < w.heap.size) ∧ Below W.heap.size W w
theorem KpR.call {W w w1 : World} {p q r s : Nat} {p0 p1 q0 q1 r0 r1 s0 s1 : Int} (k : KpR W p q r s p0 p1 q0 q1 r0 r1 s0 s1 w) (o : Below w.heap.size w w1) : KpR W p q r s p0 p1 q0 q1 r0 r1 s0 s1 w1 := by
  obtain ⟨k0, k1, k2, k3, k4, k5, k6, k7, ⟨z1, z2, z3, z4⟩, k8⟩ := k
  have hz := o.size
  refine ⟨?_, ?_, ?_, ?_, ?_, ?_, ?_, ?_, ⟨by omega, by omega, by omega, by omega⟩, k8.trans (o.mono k8.size)⟩
  · rw [o.cell (p := ⟨p, 0, none⟩) z1]; exact k0
  · rw [o.cell (p := ⟨p, 1, none⟩) z1]; exact k1
  · rw [o.cell (p := ⟨q, 0, none⟩) z2]; exact k2
  · rw [o.cell (p := ⟨q, 1, none⟩) z2]; exact k3
  · rw [o.cell (p := ⟨r, 0, none⟩) z3]; exact k4
  · rw [o.cell (p := ⟨r, 1, none⟩) z3]; exact k5
  · rw [o.cell (p := ⟨s, 0, none⟩) z4]; exact k6
  · rw [o.cell (p := ⟨s, 1, none⟩) z4]; exact k7

set_option maxRecDepth 100000 in
set_option maxHeartbeats 40000000 in
theorem known_any (w : World) (t : Tabs w) : Calls Tryd.prog 14 #[] w fun e w' => e = .returned (.bool true) ∧ Below w.heap.size w w' := by
  have c1 := Lib.hid k1
  have c2 := Lib.hid k2
  have c3 := Lib.hid k3
  have c4 := Lib.hid k4
  have c5 := Lib.hid k5
  have c6 := Lib.hid k6
  have c7 := Lib.hid k7
  have c8 := Lib.hid k8
  have c9 := Lib.hid k9
  have c10 := Lib.hid k10
  have c11 := Lib.hid k11
  have c12 := Lib.hid k12
  have c13 := Lib.hid k13
  have c14 := Lib.hid k14
  have c15 := Lib.hid k15
  have c16 := Lib.hid k16
  have c17 := Lib.hid k17
  have c18 := Lib.hid k18
  have c19 := Lib.hid k19
  have T0 := Lib.hid t
  clear t
  go_enter Tryd.func14, Tryd.ntmps14
  go_wp2_with fail
  refine (c1.out.at _).mono ?_
  rintro e w1 ⟨rfl, hb1⟩
  have o1 := hb1
  have zz1 := hb1.size
  try simp at zz1
  clear hb1
  go_wp2_with fail
  have yp := Box.fresh w1 50000000 50000000 23
  have o1 := o1.alloc (Below.size o1) (.cells #[.int .i64 50000000, .int .i64 50000000] 23)
  refine (c2.out.at _).mono ?_
  rintro e w2 ⟨rfl, hb2⟩
  have yp := yp.below hb2
  have o2 := o1.trans (hb2.mono (Below.size o1))
  have zz2 := hb2.size
  try simp at zz2
  clear hb2
  obtain ⟨pa, pb, pc, pd, pz⟩ := id yp
  go_wp2_with fail
  have yp := yp.alloc (.cells #[.int .i64 (-100000000), .int .i64 (-100000000)] 23)
  have yq := Box.fresh w2 (-100000000) (-100000000) 23
  have o2 := o2.alloc (Below.size o2) (.cells #[.int .i64 (-100000000), .int .i64 (-100000000)] 23)
  clear pa pb pc pd pz
  refine (c3.out.at _).mono ?_
  rintro e w3 ⟨rfl, hb3⟩
  have yp := yp.below hb3
  have yq := yq.below hb3
  have o3 := o2.trans (hb3.mono (Below.size o2))
  have zz3 := hb3.size
  try simp at zz3
  clear hb3
  obtain ⟨pa, pb, pc, pd, pz⟩ := id yp
  obtain ⟨qa, qb, qc, qd, qz⟩ := id yq
  go_wp2_with fail
  have yp := yp.alloc (.cells #[.int .i64 50000000, .int .i64 50000000] 23)
  have yq := yq.alloc (.cells #[.int .i64 50000000, .int .i64 50000000] 23)
  have yr := Box.fresh w3 50000000 50000000 23
  have o3 := o3.alloc (Below.size o3) (.cells #[.int .i64 50000000, .int .i64 50000000] 23)
  clear pa pb pc pd pz qa qb qc qd qz
  refine (c4.out.at _).mono ?_
  rintro e w4 ⟨rfl, hb4⟩
  have yp := yp.below hb4
  have yq := yq.below hb4
  have yr := yr.below hb4
  have o4 := o3.trans (hb4.mono (Below.size o3))
  have zz4 := hb4.size
  try simp at zz4
  clear hb4
  obtain ⟨pa, pb, pc, pd, pz⟩ := id yp
  obtain ⟨qa, qb, qc, qd, qz⟩ := id yq
  obtain ⟨ra, rb, rc, rd, rz⟩ := id yr
  go_wp2_with fail
  have yp := yp.alloc (.cells #[.int .i64 99984769, .int .i64 99984770] 23)
  have yq := yq.alloc (.cells #[.int .i64 99984769, .int .i64 99984770] 23)
  have yr := yr.alloc (.cells #[.int .i64 99984769, .int .i64 99984770] 23)
  have ys := Box.fresh w4 99984769 99984770 23
  have o4 := o4.alloc (Below.size o4) (.cells #[.int .i64 99984769, .int .i64 99984770] 23)
  clear pa pb pc pd pz qa qb qc qd qz ra rb rc rd rz
  have hw := Below.size o1
  have S : Fr w w1.heap.size w2.heap.size w3.heap.size w4.heap.size 50000000 50000000 (-100000000) (-100000000) 50000000 50000000 99984769 99984770 (w4.alloc (.cells #[.int .i64 99984769, .int .i64 99984770] 23)) := ⟨yp, yq, yr, ys, o4⟩
  obtain ⟨V, hV⟩ : ∃ V, V = w4.alloc (.cells #[.int .i64 99984769, .int .i64 99984770] 23) := ⟨_, rfl⟩
  rw [← hV] at S ⊢
  have hlt : w.heap.size ≤ w1.heap.size ∧ w1.heap.size < w2.heap.size ∧ w2.heap.size < w3.heap.size ∧ w3.heap.size < w4.heap.size := by
    have := Below.size o4
    refine ⟨?_, ?_, ?_, ?_⟩ <;> omega
  clear hV yp yq yr ys o1 o2 o3 o4 hw zz1 zz2 zz3 zz4
  generalize w1.heap.size = bp at *
  generalize w2.heap.size = bq at *
  generalize w3.heap.size = br at *
  generalize w4.heap.size = bs at *
  obtain ⟨hl0, hl1, hl2, hl3⟩ := hlt
  have t := T0.out
  have hS : KpR V bp bq br bs 50000000 50000000 (-100000000) (-100000000) 50000000 50000000 99984769 99984770 V := ⟨S.p.1, S.p.2.1, S.q.1, S.q.2.1, S.r.1, S.r.2.1, S.s.1, S.s.2.1, ⟨S.p.2.2.2.2, S.q.2.2.2.2, S.r.2.2.2.2, S.s.2.2.2.2⟩, Below.refl _ _⟩
  go_region_held3 (fun w' => w'.cell? ⟨bp, 0, none⟩ = some (.int .i64 50000000) ∧ w'.cell? ⟨bp, 1, none⟩ = some (.int .i64 50000000) ∧ w'.cell? ⟨bq, 0, none⟩ = some (.int .i64 (-100000000)) ∧ w'.cell? ⟨bq, 1, none⟩ = some (.int .i64 (-100000000)) ∧ w'.cell? ⟨br, 0, none⟩ = some (.int .i64 50000000) ∧ w'.cell? ⟨br, 1, none⟩ = some (.int .i64 50000000) ∧ w'.cell? ⟨bs, 0, none⟩ = some (.int .i64 99984769) ∧ w'.cell? ⟨bs, 1, none⟩ = some (.int .i64 99984770) ∧ (bp < w'.heap.size ∧ bq < w'.heap.size ∧ br < w'.heap.size ∧ bs < w'.heap.size) ∧ Below V.heap.size V w')
    (first | exact KpR.call hS (Below.refl _ _).drew | exact KpR.call (by assumption) hbx.below)
    (first | (go_at_call 47; with_reducible refine (x_any _ _ _).mono ?_; rintro e wx ⟨rfl, hbx⟩) | fail)
  have S : Fr w bp bq br bs 50000000 50000000 (-100000000) (-100000000) 50000000 50000000 99984769 99984770 wx := S.call (show KpR V bp bq br bs 50000000 50000000 (-100000000) (-100000000) 50000000 50000000 99984769 99984770 wx by assumption).2.2.2.2.2.2.2.2.2
  clear hS
  obtain ⟨pa, pb, pc, pd, pz⟩ := S.p
  obtain ⟨qa, qb, qc, qd, qz⟩ := S.q
  obtain ⟨ra, rb, rc, rd, rz⟩ := S.r
  obtain ⟨sa, sb, sc, sd, sz⟩ := S.s
  go_wp2_with fail
  clear pa pb pc pd pz qa qb qc qd qz ra rb rc rd rz sa sb sc sd sz
  refine (c5.out.at _).mono ?_
  rintro e v1 ⟨rfl, hh⟩
  have S := S.call hh
  clear hh
  obtain ⟨pa, pb, pc, pd, pz⟩ := S.p
  obtain ⟨qa, qb, qc, qd, qz⟩ := S.q
  obtain ⟨ra, rb, rc, rd, rz⟩ := S.r
  obtain ⟨sa, sb, sc, sd, sz⟩ := S.s
  go_wp2_with fail
  have S : Fr w bp bq br bs 0 0 (-100000000) (-100000000) 50000000 50000000 99984769 99984770 ((v1.setCell ⟨bp, 0, none⟩ (.int .i64 0)).setCell ⟨bp, 1, none⟩ (.int .i64 0)) := ⟨S.p.set 0 0, S.q.other (by omega) _ _, S.r.other (by omega) _ _, S.s.other (by omega) _ _, (S.own.setCell (by show w.heap.size ≤ bp; omega) _).setCell (by show w.heap.size ≤ bp; omega) _⟩
  clear pa pb pc pd pz qa qb qc qd qz ra rb rc rd rz sa sb sc sd sz
  refine (x_any _ _ _).mono ?_
  rintro e v2 ⟨rfl, hh⟩
  have S := S.call hh.below
  clear hh
  obtain ⟨pa, pb, pc, pd, pz⟩ := S.p
  obtain ⟨qa, qb, qc, qd, qz⟩ := S.q
  obtain ⟨ra, rb, rc, rd, rz⟩ := S.r
  obtain ⟨sa, sb, sc, sd, sz⟩ := S.s
  go_wp2_with fail
  clear pa pb pc pd pz qa qb qc qd qz ra rb rc rd rz sa sb sc sd sz
  refine (c6.out.at _).mono ?_
  rintro e v3 ⟨rfl, hh⟩
  have S := S.call hh
  clear hh
  obtain ⟨pa, pb, pc, pd, pz⟩ := S.p
  obtain ⟨qa, qb, qc, qd, qz⟩ := S.q
  obtain ⟨ra, rb, rc, rd, rz⟩ := S.r
  obtain ⟨sa, sb, sc, sd, sz⟩ := S.s
  go_wp2_with fail
  have S : Fr w bp bq br bs 0 0 70710678 100000000 50000000 50000000 99984769 99984770 ((v3.setCell ⟨bq, 0, none⟩ (.int .i64 70710678)).setCell ⟨bq, 1, none⟩ (.int .i64 100000000)) := ⟨S.p.other (by omega) _ _, S.q.set 70710678 100000000, S.r.other (by omega) _ _, S.s.other (by omega) _ _, (S.own.setCell (by show w.heap.size ≤ bq; omega) _).setCell (by show w.heap.size ≤ bq; omega) _⟩
  clear pa pb pc pd pz qa qb qc qd qz ra rb rc rd rz sa sb sc sd sz
  refine (x_any _ _ _).mono ?_
  rintro e v4 ⟨rfl, hh⟩
  have S := S.call hh.below
  clear hh
  obtain ⟨pa, pb, pc, pd, pz⟩ := S.p
  obtain ⟨qa, qb, qc, qd, qz⟩ := S.q
  obtain ⟨ra, rb, rc, rd, rz⟩ := S.r
  obtain ⟨sa, sb, sc, sd, sz⟩ := S.s
  go_wp2_with fail
  clear pa pb pc pd pz qa qb qc qd qz ra rb rc rd rz sa sb sc sd sz
  refine (c7.out.at _).mono ?_
  rintro e v5 ⟨rfl, hh⟩
  have S := S.call hh
  clear hh
  obtain ⟨pa, pb, pc, pd, pz⟩ := S.p
  obtain ⟨qa, qb, qc, qd, qz⟩ := S.q
  obtain ⟨ra, rb, rc, rd, rz⟩ := S.r
  obtain ⟨sa, sb, sc, sd, sz⟩ := S.s
  go_wp2_with fail
  have S : Fr w bp bq br bs 0 0 70710678 100000000 0 50000000 99984769 99984770 ((v5.setCell ⟨br, 0, none⟩ (.int .i64 0)).setCell ⟨br, 1, none⟩ (.int .i64 50000000)) := ⟨S.p.other (by omega) _ _, S.q.other (by omega) _ _, S.r.set 0 50000000, S.s.other (by omega) _ _, (S.own.setCell (by show w.heap.size ≤ br; omega) _).setCell (by show w.heap.size ≤ br; omega) _⟩
  clear pa pb pc pd pz qa qb qc qd qz ra rb rc rd rz sa sb sc sd sz
  refine (x_any _ _ _).mono ?_
  rintro e v6 ⟨rfl, hh⟩
  have S := S.call hh.below
  clear hh
  obtain ⟨pa, pb, pc, pd, pz⟩ := S.p
  obtain ⟨qa, qb, qc, qd, qz⟩ := S.q
  obtain ⟨ra, rb, rc, rd, rz⟩ := S.r
  obtain ⟨sa, sb, sc, sd, sz⟩ := S.s
  go_wp2_with fail
  clear pa pb pc pd pz qa qb qc qd qz ra rb rc rd rz sa sb sc sd sz
  refine (c8.out.at _).mono ?_
  rintro e v7 ⟨rfl, hh⟩
  have S := S.call hh
  clear hh
  obtain ⟨pa, pb, pc, pd, pz⟩ := S.p
  obtain ⟨qa, qb, qc, qd, qz⟩ := S.q
  obtain ⟨ra, rb, rc, rd, rz⟩ := S.r
  obtain ⟨sa, sb, sc, sd, sz⟩ := S.s
  go_wp2_with fail
  have S : Fr w bp bq br bs 0 0 70710678 100000000 0 50000000 44999999 45000000 ((v7.setCell ⟨bs, 0, none⟩ (.int .i64 44999999)).setCell ⟨bs, 1, none⟩ (.int .i64 45000000)) := ⟨S.p.other (by omega) _ _, S.q.other (by omega) _ _, S.r.other (by omega) _ _, S.s.set 44999999 45000000, (S.own.setCell (by show w.heap.size ≤ bs; omega) _).setCell (by show w.heap.size ≤ bs; omega) _⟩
  clear pa pb pc pd pz qa qb qc qd qz ra rb rc rd rz sa sb sc sd sz
  obtain ⟨V, hV⟩ : ∃ V, V = ((v7.setCell ⟨bs, 0, none⟩ (.int .i64 44999999)).setCell ⟨bs, 1, none⟩ (.int .i64 45000000)) := ⟨_, rfl⟩
  rw [← hV] at S ⊢
  clear hV
  have hS : KpR V bp bq br bs 0 0 70710678 100000000 0 50000000 44999999 45000000 V := ⟨S.p.1, S.p.2.1, S.q.1, S.q.2.1, S.r.1, S.r.2.1, S.s.1, S.s.2.1, ⟨S.p.2.2.2.2, S.q.2.2.2.2, S.r.2.2.2.2, S.s.2.2.2.2⟩, Below.refl _ _⟩
  go_region_held3 (fun w' => w'.cell? ⟨bp, 0, none⟩ = some (.int .i64 0) ∧ w'.cell? ⟨bp, 1, none⟩ = some (.int .i64 0) ∧ w'.cell? ⟨bq, 0, none⟩ = some (.int .i64 70710678) ∧ w'.cell? ⟨bq, 1, none⟩ = some (.int .i64 100000000) ∧ w'.cell? ⟨br, 0, none⟩ = some (.int .i64 0) ∧ w'.cell? ⟨br, 1, none⟩ = some (.int .i64 50000000) ∧ w'.cell? ⟨bs, 0, none⟩ = some (.int .i64 44999999) ∧ w'.cell? ⟨bs, 1, none⟩ = some (.int .i64 45000000) ∧ (bp < w'.heap.size ∧ bq < w'.heap.size ∧ br < w'.heap.size ∧ bs < w'.heap.size) ∧ Below V.heap.size V w')
    (first | exact KpR.call hS (Below.refl _ _).drew | exact KpR.call (by assumption) hbx.below)
    (first | (go_at_call 47; with_reducible refine (x_any _ _ _).mono ?_; rintro e wx ⟨rfl, hbx⟩) | fail)
  have S : Fr w bp bq br bs 0 0 70710678 100000000 0 50000000 44999999 45000000 wx := S.call (show KpR V bp bq br bs 0 0 70710678 100000000 0 50000000 44999999 45000000 wx by assumption).2.2.2.2.2.2.2.2.2
  clear hS
  obtain ⟨pa, pb, pc, pd, pz⟩ := S.p
  obtain ⟨qa, qb, qc, qd, qz⟩ := S.q
  obtain ⟨ra, rb, rc, rd, rz⟩ := S.r
  obtain ⟨sa, sb, sc, sd, sz⟩ := S.s
  go_wp2_with fail
  clear pa pb pc pd pz qa qb qc qd qz ra rb rc rd rz sa sb sc sd sz
  refine (x_any _ _ _).mono ?_
  rintro e v8 ⟨rfl, hh⟩
  have S := S.call hh.below
  clear hh
  obtain ⟨pa, pb, pc, pd, pz⟩ := S.p
  obtain ⟨qa, qb, qc, qd, qz⟩ := S.q
  obtain ⟨ra, rb, rc, rd, rz⟩ := S.r
  obtain ⟨sa, sb, sc, sd, sz⟩ := S.s
  go_wp2_with fail
  clear pa pb pc pd pz qa qb qc qd qz ra rb rc rd rz sa sb sc sd sz
  refine (c9.out.at _).mono ?_
  rintro e v9 ⟨rfl, hh⟩
  have S := S.call hh
  clear hh
  obtain ⟨pa, pb, pc, pd, pz⟩ := S.p
  obtain ⟨qa, qb, qc, qd, qz⟩ := S.q
  obtain ⟨ra, rb, rc, rd, rz⟩ := S.r
  obtain ⟨sa, sb, sc, sd, sz⟩ := S.s
  go_wp2_with fail
  have S : Fr w bp bq br bs 141421356 141421357 70710678 100000000 0 50000000 44999999 45000000 ((v9.setCell ⟨bp, 0, none⟩ (.int .i64 141421356)).setCell ⟨bp, 1, none⟩ (.int .i64 141421357)) := ⟨S.p.set 141421356 141421357, S.q.other (by omega) _ _, S.r.other (by omega) _ _, S.s.other (by omega) _ _, (S.own.setCell (by show w.heap.size ≤ bp; omega) _).setCell (by show w.heap.size ≤ bp; omega) _⟩
  clear pa pb pc pd pz qa qb qc qd qz ra rb rc rd rz sa sb sc sd sz
  refine (x_any _ _ _).mono ?_
  rintro e v10 ⟨rfl, hh⟩
  have S := S.call hh.below
  clear hh
  obtain ⟨pa, pb, pc, pd, pz⟩ := S.p
  obtain ⟨qa, qb, qc, qd, qz⟩ := S.q
  obtain ⟨ra, rb, rc, rd, rz⟩ := S.r
  obtain ⟨sa, sb, sc, sd, sz⟩ := S.s
  go_wp2_with fail
  clear pa pb pc pd pz qa qb qc qd qz ra rb rc rd rz sa sb sc sd sz
  refine (c10.out.at _).mono ?_
  rintro e v11 ⟨rfl, hh⟩
  have S := S.call hh
  clear hh
  obtain ⟨pa, pb, pc, pd, pz⟩ := S.p
  obtain ⟨qa, qb, qc, qd, qz⟩ := S.q
  obtain ⟨ra, rb, rc, rd, rz⟩ := S.r
  obtain ⟨sa, sb, sc, sd, sz⟩ := S.s
  go_wp2_with fail
  have S : Fr w bp bq br bs 141421356 141421357 0 150000000 0 50000000 44999999 45000000 ((v11.setCell ⟨bq, 0, none⟩ (.int .i64 0)).setCell ⟨bq, 1, none⟩ (.int .i64 150000000)) := ⟨S.p.other (by omega) _ _, S.q.set 0 150000000, S.r.other (by omega) _ _, S.s.other (by omega) _ _, (S.own.setCell (by show w.heap.size ≤ bq; omega) _).setCell (by show w.heap.size ≤ bq; omega) _⟩
  clear pa pb pc pd pz qa qb qc qd qz ra rb rc rd rz sa sb sc sd sz
  refine (x_any _ _ _).mono ?_
  rintro e v12 ⟨rfl, hh⟩
  have S := S.call hh.below
  clear hh
  obtain ⟨pa, pb, pc, pd, pz⟩ := S.p
  obtain ⟨qa, qb, qc, qd, qz⟩ := S.q
  obtain ⟨ra, rb, rc, rd, rz⟩ := S.r
  obtain ⟨sa, sb, sc, sd, sz⟩ := S.s
  go_wp2_with fail
  clear pa pb pc pd pz qa qb qc qd qz ra rb rc rd rz sa sb sc sd sz
  refine (x_any _ _ _).mono ?_
  rintro e v13 ⟨rfl, hh⟩
  have S := S.call hh.below
  clear hh
  obtain ⟨pa, pb, pc, pd, pz⟩ := S.p
  obtain ⟨qa, qb, qc, qd, qz⟩ := S.q
  obtain ⟨ra, rb, rc, rd, rz⟩ := S.r
  obtain ⟨sa, sb, sc, sd, sz⟩ := S.s
  go_wp2_with fail
  clear pa pb pc pd pz qa qb qc qd qz ra rb rc rd rz sa sb sc sd sz
  refine (c11.out.at _).mono ?_
  rintro e v14 ⟨rfl, hh⟩
  have S := S.call hh
  clear hh
  obtain ⟨pa, pb, pc, pd, pz⟩ := S.p
  obtain ⟨qa, qb, qc, qd, qz⟩ := S.q
  obtain ⟨ra, rb, rc, rd, rz⟩ := S.r
  obtain ⟨sa, sb, sc, sd, sz⟩ := S.s
  go_wp2_with fail
  have S : Fr w bp bq br bs 141421356 141421357 0 150000000 1 2 44999999 45000000 ((v14.setCell ⟨br, 0, none⟩ (.int .i64 1)).setCell ⟨br, 1, none⟩ (.int .i64 2)) := ⟨S.p.other (by omega) _ _, S.q.other (by omega) _ _, S.r.set 1 2, S.s.other (by omega) _ _, (S.own.setCell (by show w.heap.size ≤ br; omega) _).setCell (by show w.heap.size ≤ br; omega) _⟩
  clear pa pb pc pd pz qa qb qc qd qz ra rb rc rd rz sa sb sc sd sz
  refine (x_any _ _ _).mono ?_
  rintro e v15 ⟨rfl, hh⟩
  have S := S.call hh.below
  clear hh
  obtain ⟨pa, pb, pc, pd, pz⟩ := S.p
  obtain ⟨qa, qb, qc, qd, qz⟩ := S.q
  obtain ⟨ra, rb, rc, rd, rz⟩ := S.r
  obtain ⟨sa, sb, sc, sd, sz⟩ := S.s
  go_wp2_with fail
  clear pa pb pc pd pz qa qb qc qd qz ra rb rc rd rz sa sb sc sd sz
  refine (x_any _ _ _).mono ?_
  rintro e v16 ⟨rfl, hh⟩
  have S := S.call hh.below
  clear hh
  obtain ⟨pa, pb, pc, pd, pz⟩ := S.p
  obtain ⟨qa, qb, qc, qd, qz⟩ := S.q
  obtain ⟨ra, rb, rc, rd, rz⟩ := S.r
  obtain ⟨sa, sb, sc, sd, sz⟩ := S.s
  go_wp2_with fail
  clear pa pb pc pd pz qa qb qc qd qz ra rb rc rd rz sa sb sc sd sz
  refine (c12.out.at _).mono ?_
  rintro e v17 ⟨rfl, hh⟩
  have S := S.call hh
  clear hh
  obtain ⟨pa, pb, pc, pd, pz⟩ := S.p
  obtain ⟨qa, qb, qc, qd, qz⟩ := S.q
  obtain ⟨ra, rb, rc, rd, rz⟩ := S.r
  obtain ⟨sa, sb, sc, sd, sz⟩ := S.s
  go_wp2_with fail
  have S : Fr w bp bq br bs 141421356 141421357 0 150000000 1 2 (-400000000) 800000000 ((v17.setCell ⟨bs, 0, none⟩ (.int .i64 (-400000000))).setCell ⟨bs, 1, none⟩ (.int .i64 800000000)) := ⟨S.p.other (by omega) _ _, S.q.other (by omega) _ _, S.r.other (by omega) _ _, S.s.set (-400000000) 800000000, (S.own.setCell (by show w.heap.size ≤ bs; omega) _).setCell (by show w.heap.size ≤ bs; omega) _⟩
  clear pa pb pc pd pz qa qb qc qd qz ra rb rc rd rz sa sb sc sd sz
  obtain ⟨V, hV⟩ : ∃ V, V = ((v17.setCell ⟨bs, 0, none⟩ (.int .i64 (-400000000))).setCell ⟨bs, 1, none⟩ (.int .i64 800000000)) := ⟨_, rfl⟩
  rw [← hV] at S ⊢
  clear hV
  have hS : KpR V bp bq br bs 141421356 141421357 0 150000000 1 2 (-400000000) 800000000 V := ⟨S.p.1, S.p.2.1, S.q.1, S.q.2.1, S.r.1, S.r.2.1, S.s.1, S.s.2.1, ⟨S.p.2.2.2.2, S.q.2.2.2.2, S.r.2.2.2.2, S.s.2.2.2.2⟩, Below.refl _ _⟩
  go_region_held3 (fun w' => w'.cell? ⟨bp, 0, none⟩ = some (.int .i64 141421356) ∧ w'.cell? ⟨bp, 1, none⟩ = some (.int .i64 141421357) ∧ w'.cell? ⟨bq, 0, none⟩ = some (.int .i64 0) ∧ w'.cell? ⟨bq, 1, none⟩ = some (.int .i64 150000000) ∧ w'.cell? ⟨br, 0, none⟩ = some (.int .i64 1) ∧ w'.cell? ⟨br, 1, none⟩ = some (.int .i64 2) ∧ w'.cell? ⟨bs, 0, none⟩ = some (.int .i64 (-400000000)) ∧ w'.cell? ⟨bs, 1, none⟩ = some (.int .i64 800000000) ∧ (bp < w'.heap.size ∧ bq < w'.heap.size ∧ br < w'.heap.size ∧ bs < w'.heap.size) ∧ Below V.heap.size V w')
    (first | exact KpR.call hS (Below.refl _ _).drew | exact KpR.call (by assumption) hbx.below)
    (first | (go_at_call 47; with_reducible refine (x_any _ _ _).mono ?_; rintro e wx ⟨rfl, hbx⟩) | fail)
  have S : Fr w bp bq br bs 141421356 141421357 0 150000000 1 2 (-400000000) 800000000 wx := S.call (show KpR V bp bq br bs 141421356 141421357 0 150000000 1 2 (-400000000) 800000000 wx by assumption).2.2.2.2.2.2.2.2.2
  clear hS
  obtain ⟨pa, pb, pc, pd, pz⟩ := S.p
  obtain ⟨qa, qb, qc, qd, qz⟩ := S.q
  obtain ⟨ra, rb, rc, rd, rz⟩ := S.r
  obtain ⟨sa, sb, sc, sd, sz⟩ := S.s
  go_wp2_with fail
  clear pa pb pc pd pz qa qb qc qd qz ra rb rc rd rz sa sb sc sd sz
  refine (x_any _ _ _).mono ?_
  rintro e v18 ⟨rfl, hh⟩
  have S := S.call hh.below
  clear hh
  obtain ⟨pa, pb, pc, pd, pz⟩ := S.p
  obtain ⟨qa, qb, qc, qd, qz⟩ := S.q
  obtain ⟨ra, rb, rc, rd, rz⟩ := S.r
  obtain ⟨sa, sb, sc, sd, sz⟩ := S.s
  go_wp2_with fail
  clear pa pb pc pd pz qa qb qc qd qz ra rb rc rd rz sa sb sc sd sz
  refine (x_any _ _ _).mono ?_
  rintro e v19 ⟨rfl, hh⟩
  have S := S.call hh.below
  clear hh
  obtain ⟨pa, pb, pc, pd, pz⟩ := S.p
  obtain ⟨qa, qb, qc, qd, qz⟩ := S.q
  obtain ⟨ra, rb, rc, rd, rz⟩ := S.r
  obtain ⟨sa, sb, sc, sd, sz⟩ := S.s
  go_wp2_with fail
  clear pa pb pc pd pz qa qb qc qd qz ra rb rc rd rz sa sb sc sd sz
  refine (c13.out.at _).mono ?_
  rintro e v20 ⟨rfl, hh⟩
  have S := S.call hh
  clear hh
  obtain ⟨pa, pb, pc, pd, pz⟩ := S.p
  obtain ⟨qa, qb, qc, qd, qz⟩ := S.q
  obtain ⟨ra, rb, rc, rd, rz⟩ := S.r
  obtain ⟨sa, sb, sc, sd, sz⟩ := S.s
  go_wp2_with fail
  have S : Fr w bp bq br bs 33333333 33333334 0 150000000 1 2 (-400000000) 800000000 ((v20.setCell ⟨bp, 0, none⟩ (.int .i64 33333333)).setCell ⟨bp, 1, none⟩ (.int .i64 33333334)) := ⟨S.p.set 33333333 33333334, S.q.other (by omega) _ _, S.r.other (by omega) _ _, S.s.other (by omega) _ _, (S.own.setCell (by show w.heap.size ≤ bp; omega) _).setCell (by show w.heap.size ≤ bp; omega) _⟩
  clear pa pb pc pd pz qa qb qc qd qz ra rb rc rd rz sa sb sc sd sz
  refine (x_any _ _ _).mono ?_
  rintro e v21 ⟨rfl, hh⟩
  have S := S.call hh.below
  clear hh
  obtain ⟨pa, pb, pc, pd, pz⟩ := S.p
  obtain ⟨qa, qb, qc, qd, qz⟩ := S.q
  obtain ⟨ra, rb, rc, rd, rz⟩ := S.r
  obtain ⟨sa, sb, sc, sd, sz⟩ := S.s
  go_wp2_with fail
  clear pa pb pc pd pz qa qb qc qd qz ra rb rc rd rz sa sb sc sd sz
  refine (x_any _ _ _).mono ?_
  rintro e v22 ⟨rfl, hh⟩
  have S := S.call hh.below
  clear hh
  obtain ⟨pa, pb, pc, pd, pz⟩ := S.p
  obtain ⟨qa, qb, qc, qd, qz⟩ := S.q
  obtain ⟨ra, rb, rc, rd, rz⟩ := S.r
  obtain ⟨sa, sb, sc, sd, sz⟩ := S.s
  go_wp2_with fail
  clear pa pb pc pd pz qa qb qc qd qz ra rb rc rd rz sa sb sc sd sz
  refine (c14.out.at _).mono ?_
  rintro e v23 ⟨rfl, hh⟩
  have S := S.call hh
  clear hh
  obtain ⟨pa, pb, pc, pd, pz⟩ := S.p
  obtain ⟨qa, qb, qc, qd, qz⟩ := S.q
  obtain ⟨ra, rb, rc, rd, rz⟩ := S.r
  obtain ⟨sa, sb, sc, sd, sz⟩ := S.s
  go_wp2_with fail
  clear pa pb pc pd pz qa qb qc qd qz ra rb rc rd rz sa sb sc sd sz
  refine (x_any _ _ _).mono ?_
  rintro e v24 ⟨rfl, hh⟩
  have S := S.call hh.below
  clear hh
  obtain ⟨pa, pb, pc, pd, pz⟩ := S.p
  obtain ⟨qa, qb, qc, qd, qz⟩ := S.q
  obtain ⟨ra, rb, rc, rd, rz⟩ := S.r
  obtain ⟨sa, sb, sc, sd, sz⟩ := S.s
  go_wp2_with fail
  clear pa pb pc pd pz qa qb qc qd qz ra rb rc rd rz sa sb sc sd sz
  refine (x_any _ _ _).mono ?_
  rintro e v25 ⟨rfl, hh⟩
  have S := S.call hh.below
  clear hh
  obtain ⟨pa, pb, pc, pd, pz⟩ := S.p
  obtain ⟨qa, qb, qc, qd, qz⟩ := S.q
  obtain ⟨ra, rb, rc, rd, rz⟩ := S.r
  obtain ⟨sa, sb, sc, sd, sz⟩ := S.s
  go_wp2_with fail
  clear pa pb pc pd pz qa qb qc qd qz ra rb rc rd rz sa sb sc sd sz
  refine (c15.out.at _).mono ?_
  rintro e v26 ⟨rfl, hh⟩
  have S := S.call hh
  clear hh
  obtain ⟨pa, pb, pc, pd, pz⟩ := S.p
  obtain ⟨qa, qb, qc, qd, qz⟩ := S.q
  obtain ⟨ra, rb, rc, rd, rz⟩ := S.r
  obtain ⟨sa, sb, sc, sd, sz⟩ := S.s
  go_wp2_with fail
  clear pa pb pc pd pz qa qb qc qd qz ra rb rc rd rz sa sb sc sd sz
  refine (c16.out.at _ (t.below S.own)).mono ?_
  rintro e v27 ⟨rfl, hh⟩
  have S := S.call hh
  clear hh
  obtain ⟨pa, pb, pc, pd, pz⟩ := S.p
  obtain ⟨qa, qb, qc, qd, qz⟩ := S.q
  obtain ⟨ra, rb, rc, rd, rz⟩ := S.r
  obtain ⟨sa, sb, sc, sd, sz⟩ := S.s
  go_wp2_with fail
  clear pa pb pc pd pz qa qb qc qd qz ra rb rc rd rz sa sb sc sd sz
  refine (c17.out.at _ (t.below S.own)).mono ?_
  rintro e v28 ⟨rfl, hh⟩
  have S := S.call hh
  clear hh
  obtain ⟨pa, pb, pc, pd, pz⟩ := S.p
  obtain ⟨qa, qb, qc, qd, qz⟩ := S.q
  obtain ⟨ra, rb, rc, rd, rz⟩ := S.r
  obtain ⟨sa, sb, sc, sd, sz⟩ := S.s
  go_wp2_with fail
  clear pa pb pc pd pz qa qb qc qd qz ra rb rc rd rz sa sb sc sd sz
  refine (c18.out.at _ (t.below S.own)).mono ?_
  rintro e v29 ⟨rfl, hh⟩
  have S := S.call hh
  clear hh
  obtain ⟨pa, pb, pc, pd, pz⟩ := S.p
  obtain ⟨qa, qb, qc, qd, qz⟩ := S.q
  obtain ⟨ra, rb, rc, rd, rz⟩ := S.r
  obtain ⟨sa, sb, sc, sd, sz⟩ := S.s
  go_wp2_with fail
  clear pa pb pc pd pz qa qb qc qd qz ra rb rc rd rz sa sb sc sd sz
  refine (c19.out.at _ (t.below S.own)).mono ?_
  rintro e v30 ⟨rfl, hh⟩
  have S := S.call hh
  clear hh
  obtain ⟨pa, pb, pc, pd, pz⟩ := S.p
  obtain ⟨qa, qb, qc, qd, qz⟩ := S.q
  obtain ⟨ra, rb, rc, rd, rz⟩ := S.r
  obtain ⟨sa, sb, sc, sd, sz⟩ := S.s
  go_wp2_with fail
  clear pa pb pc pd pz qa qb qc qd qz ra rb rc rd rz sa sb sc sd sz
  obtain ⟨V, hV⟩ : ∃ V, V = v30 := ⟨_, rfl⟩
  rw [← hV] at S ⊢
  clear hV
  have hS : KpR V bp bq br bs 33333333 33333334 0 150000000 1 2 (-400000000) 800000000 V := ⟨S.p.1, S.p.2.1, S.q.1, S.q.2.1, S.r.1, S.r.2.1, S.s.1, S.s.2.1, ⟨S.p.2.2.2.2, S.q.2.2.2.2, S.r.2.2.2.2, S.s.2.2.2.2⟩, Below.refl _ _⟩
  go_region_held3 (fun w' => w'.cell? ⟨bp, 0, none⟩ = some (.int .i64 33333333) ∧ w'.cell? ⟨bp, 1, none⟩ = some (.int .i64 33333334) ∧ w'.cell? ⟨bq, 0, none⟩ = some (.int .i64 0) ∧ w'.cell? ⟨bq, 1, none⟩ = some (.int .i64 150000000) ∧ w'.cell? ⟨br, 0, none⟩ = some (.int .i64 1) ∧ w'.cell? ⟨br, 1, none⟩ = some (.int .i64 2) ∧ w'.cell? ⟨bs, 0, none⟩ = some (.int .i64 (-400000000)) ∧ w'.cell? ⟨bs, 1, none⟩ = some (.int .i64 800000000) ∧ (bp < w'.heap.size ∧ bq < w'.heap.size ∧ br < w'.heap.size ∧ bs < w'.heap.size) ∧ Below V.heap.size V w')
    (first | exact KpR.call hS (Below.refl _ _).drew | exact KpR.call (by assumption) hbx.below | exact KpR.call (by assumption) hbx')
    (first | (go_at_call 47; with_reducible refine (x_any _ _ _).mono ?_; rintro e wx ⟨rfl, hbx⟩) | (go_at_call 23; refine (awake_any _ ?_).mono ?_; exact t.below (S.own.trans ((show KpR V bp bq br bs 33333333 33333334 0 150000000 1 2 (-400000000) 800000000 _ by assumption).2.2.2.2.2.2.2.2.2.mono S.own.size)); rintro e wx ⟨rfl, hbx'⟩))
  go_wp2_with fail
  go_ret
  exact ⟨rfl, S.own.trans ((show KpR V bp bq br bs 33333333 33333334 0 150000000 1 2 (-400000000) 800000000 wx by assumption).2.2.2.2.2.2.2.2.2.mono S.own.size)⟩
end Go.Proofs.YtdikelijnachjaaDoor
