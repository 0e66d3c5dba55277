/- The walk of AngleCircle. -/
import Derived.Test.YtdikelijnachjaaDoorCirA
import Derived.Test.YtdikelijnachjaaDoorQuo
import Derived.Deep.DeepCutAuto
import Derived.Deep.DrawnRows
import Derived.Test.YtdikelijnachjaaDoorQuo
namespace Go.Proofs.YtdikelijnachjaaDoor
set_option linter.unusedSimpArgs false
set_option linter.unusedVariables false
open Go.RowKit SineNear


/-- four enclosures in their boxes, the tables, and all that a region leaves as it was -/
def KpC (w0 : World) (b c d g : Nat) (l0 l1 m0 m1 n0 n1 p0 p1 : Int) (w : World) : Prop :=
  w.cell? ⟨b, 0, none⟩ = some (.int .i64 l0) ∧ w.cell? ⟨b, 1, none⟩ = some (.int .i64 l1) ∧ w.cell? ⟨c, 0, none⟩ = some (.int .i64 m0) ∧ w.cell? ⟨c, 1, none⟩ = some (.int .i64 m1) ∧
  w.cell? ⟨d, 0, none⟩ = some (.int .i64 n0) ∧ w.cell? ⟨d, 1, none⟩ = some (.int .i64 n1) ∧ w.cell? ⟨g, 0, none⟩ = some (.int .i64 p0) ∧ w.cell? ⟨g, 1, none⟩ = some (.int .i64 p1) ∧
  (b < w.heap.size ∧ c < w.heap.size ∧ d < w.heap.size ∧ g < w.heap.size) ∧ Tabs w ∧ Below w0.heap.size w0 w
theorem KpC.call {w0 w w1 : World} {b c d g : Nat} {l0 l1 m0 m1 n0 n1 p0 p1 : Int} (k : KpC w0 b c d g l0 l1 m0 m1 n0 n1 p0 p1 w) (o : Below w.heap.size w w1) : KpC w0 b c d g l0 l1 m0 m1 n0 n1 p0 p1 w1 := by
  obtain ⟨k0, k1, k2, k3, k4, k5, k6, k7, ⟨hb, hc, hd, hg⟩, t, k9⟩ := k
  have hsz := o.size
  refine ⟨?_, ?_, ?_, ?_, ?_, ?_, ?_, ?_, ⟨by omega, by omega, by omega, by omega⟩, t.below o, k9.trans (o.mono k9.size)⟩
  · rw [o.cell (p := ⟨b, 0, none⟩) hb]; exact k0
  · rw [o.cell (p := ⟨b, 1, none⟩) hb]; exact k1
  · rw [o.cell (p := ⟨c, 0, none⟩) hc]; exact k2
  · rw [o.cell (p := ⟨c, 1, none⟩) hc]; exact k3
  · rw [o.cell (p := ⟨d, 0, none⟩) hd]; exact k4
  · rw [o.cell (p := ⟨d, 1, none⟩) hd]; exact k5
  · rw [o.cell (p := ⟨g, 0, none⟩) hg]; exact k6
  · rw [o.cell (p := ⟨g, 1, none⟩) hg]; exact k7
theorem KpC.tabs {w0 w : World} {b c d g : Nat} {l0 l1 m0 m1 n0 n1 p0 p1 : Int} (k : KpC w0 b c d g l0 l1 m0 m1 n0 n1 p0 p1 w) : Tabs w := k.2.2.2.2.2.2.2.2.2.1
theorem KpC.own {w0 w : World} {b c d g : Nat} {l0 l1 m0 m1 n0 n1 p0 p1 : Int} (k : KpC w0 b c d g l0 l1 m0 m1 n0 n1 p0 p1 w) : Below w0.heap.size w0 w := k.2.2.2.2.2.2.2.2.2.2

/-- two more -/
def KpD (w0 : World) (b c d g x y : Nat) (l0 l1 m0 m1 n0 n1 p0 p1 u0 u1 v0 v1 : Int) (w : World) : Prop :=
  w.cell? ⟨x, 0, none⟩ = some (.int .i64 u0) ∧ w.cell? ⟨x, 1, none⟩ = some (.int .i64 u1) ∧ w.cell? ⟨y, 0, none⟩ = some (.int .i64 v0) ∧ w.cell? ⟨y, 1, none⟩ = some (.int .i64 v1) ∧ (x < w.heap.size ∧ y < w.heap.size) ∧ (w.frozen? ⟨x, 0, none⟩ = false ∧ w.frozen? ⟨x, 1, none⟩ = false ∧ w.frozen? ⟨y, 0, none⟩ = false ∧ w.frozen? ⟨y, 1, none⟩ = false) ∧
  KpC w0 b c d g l0 l1 m0 m1 n0 n1 p0 p1 w
theorem KpD.call {w0 w w1 : World} {b c d g x y : Nat} {l0 l1 m0 m1 n0 n1 p0 p1 u0 u1 v0 v1 : Int} (k : KpD w0 b c d g x y l0 l1 m0 m1 n0 n1 p0 p1 u0 u1 v0 v1 w) (o : Below w.heap.size w w1) : KpD w0 b c d g x y l0 l1 m0 m1 n0 n1 p0 p1 u0 u1 v0 v1 w1 := by
  obtain ⟨k0, k1, k2, k3, ⟨hx, hy⟩, ⟨f0, f1, f2, f3⟩, k⟩ := k
  have hsz := o.size
  refine ⟨?_, ?_, ?_, ?_, ⟨by omega, by omega⟩, ⟨?_, ?_, ?_, ?_⟩, k.call o⟩
  · rw [o.cell (p := ⟨x, 0, none⟩) hx]; exact k0
  · rw [o.cell (p := ⟨x, 1, none⟩) hx]; exact k1
  · rw [o.cell (p := ⟨y, 0, none⟩) hy]; exact k2
  · rw [o.cell (p := ⟨y, 1, none⟩) hy]; exact k3
  · rw [o.frozen (p := ⟨x, 0, none⟩) hx]; exact f0
  · rw [o.frozen (p := ⟨x, 1, none⟩) hx]; exact f1
  · rw [o.frozen (p := ⟨y, 0, none⟩) hy]; exact f2
  · rw [o.frozen (p := ⟨y, 1, none⟩) hy]; exact f3

theorem KpD.setX {w0 w : World} {b c d g x y : Nat} {l0 l1 m0 m1 n0 n1 p0 p1 u0 u1 v0 v1 : Int} (k : KpD w0 b c d g x y l0 l1 m0 m1 n0 n1 p0 p1 u0 u1 v0 v1 w) (t : Tabs w0) (nb : b < x) (nc : c < x) (nd : d < x) (ng : g < x) (ny : x < y) (nw : w0.heap.size ≤ x) (s0 s1 : Int) :
    KpD w0 b c d g x y l0 l1 m0 m1 n0 n1 p0 p1 s0 s1 v0 v1 ((w.setCell ⟨x, 0, none⟩ (.int .i64 s0)).setCell ⟨x, 1, none⟩ (.int .i64 s1)) := by
  obtain ⟨k0, k1, k2, k3, ⟨hx, hy⟩, ⟨f0, f1, f2, f3⟩, c0, c1, c2, c3, c4, c5, c6, c7, ⟨hb, hc, hd, hg⟩, _, o⟩ := k
  have o' : Below w0.heap.size w0 ((w.setCell ⟨x, 0, none⟩ (.int .i64 s0)).setCell ⟨x, 1, none⟩ (.int .i64 s1)) := (o.setCell nw _).setCell nw _
  have e1 : b ≠ x := by omega
  have e2 : c ≠ x := by omega
  have e3 : d ≠ x := by omega
  have e4 : g ≠ x := by omega
  have e5 : y ≠ x := by omega
  refine ⟨?_, ?_, ?_, ?_, ⟨by simpa using hx, by simpa using hy⟩, ⟨?_, ?_, ?_, ?_⟩, ?_, ?_, ?_, ?_, ?_, ?_, ?_, ?_, ⟨by simpa using hb, by simpa using hc, by simpa using hd, by simpa using hg⟩, t.below o', o'⟩
  all_goals simp [go_sem, k0, k1, k2, k3, f0, f1, f2, f3, c0, c1, c2, c3, c4, c5, c6, c7, e1, e2, e3, e4, e5, Ne.symm e1, Ne.symm e2, Ne.symm e3, Ne.symm e4, Ne.symm e5]
theorem KpD.setY {w0 w : World} {b c d g x y : Nat} {l0 l1 m0 m1 n0 n1 p0 p1 u0 u1 v0 v1 : Int} (k : KpD w0 b c d g x y l0 l1 m0 m1 n0 n1 p0 p1 u0 u1 v0 v1 w) (t : Tabs w0) (nb : b < y) (nc : c < y) (nd : d < y) (ng : g < y) (nx : x < y) (nw : w0.heap.size ≤ y) (s0 s1 : Int) :
    KpD w0 b c d g x y l0 l1 m0 m1 n0 n1 p0 p1 u0 u1 s0 s1 ((w.setCell ⟨y, 0, none⟩ (.int .i64 s0)).setCell ⟨y, 1, none⟩ (.int .i64 s1)) := by
  obtain ⟨k0, k1, k2, k3, ⟨hx, hy⟩, ⟨f0, f1, f2, f3⟩, c0, c1, c2, c3, c4, c5, c6, c7, ⟨hb, hc, hd, hg⟩, _, o⟩ := k
  have o' : Below w0.heap.size w0 ((w.setCell ⟨y, 0, none⟩ (.int .i64 s0)).setCell ⟨y, 1, none⟩ (.int .i64 s1)) := (o.setCell nw _).setCell nw _
  have e1 : b ≠ y := by omega
  have e2 : c ≠ y := by omega
  have e3 : d ≠ y := by omega
  have e4 : g ≠ y := by omega
  have e5 : x ≠ y := by omega
  refine ⟨?_, ?_, ?_, ?_, ⟨by simpa using hx, by simpa using hy⟩, ⟨?_, ?_, ?_, ?_⟩, ?_, ?_, ?_, ?_, ?_, ?_, ?_, ?_, ⟨by simpa using hb, by simpa using hc, by simpa using hd, by simpa using hg⟩, t.below o', o'⟩
  all_goals simp [go_sem, k0, k1, k2, k3, f0, f1, f2, f3, c0, c1, c2, c3, c4, c5, c6, c7, e1, e2, e3, e4, e5, Ne.symm e1, Ne.symm e2, Ne.symm e3, Ne.symm e4, Ne.symm e5]

theorem Box.freshAt {b : Nat} {w : World} (hb : b = w.heap.size) (l h : Int) (t : TypeId) : Box b l h (w.alloc (.cells #[.int .i64 l, .int .i64 h] t)) := by rw [hb]; exact Box.fresh w l h t

/-- what two products read, and leave -/
def KpV (W : World) (b c d g : Nat) (l0 l1 m0 m1 n0 n1 p0 p1 : Int) (w : World) : Prop :=
  w.cell? ⟨b, 0, none⟩ = some (.int .i64 l0) ∧ w.cell? ⟨b, 1, none⟩ = some (.int .i64 l1) ∧ w.cell? ⟨c, 0, none⟩ = some (.int .i64 m0) ∧ w.cell? ⟨c, 1, none⟩ = some (.int .i64 m1) ∧
  w.cell? ⟨d, 0, none⟩ = some (.int .i64 n0) ∧ w.cell? ⟨d, 1, none⟩ = some (.int .i64 n1) ∧ w.cell? ⟨g, 0, none⟩ = some (.int .i64 p0) ∧ w.cell? ⟨g, 1, none⟩ = some (.int .i64 p1) ∧
  (b < W.heap.size ∧ c < W.heap.size ∧ d < W.heap.size ∧ g < W.heap.size) ∧ Below W.heap.size W w
theorem KpV.call {W w w1 : World} {b c d g : Nat} {l0 l1 m0 m1 n0 n1 p0 p1 : Int} (k : KpV W b c d g l0 l1 m0 m1 n0 n1 p0 p1 w) (o : Below w.heap.size w w1) : KpV W b c d g l0 l1 m0 m1 n0 n1 p0 p1 w1 := by
  obtain ⟨k0, k1, k2, k3, k4, k5, k6, k7, ⟨hb, hc, hd, hg⟩, k9⟩ := k
  have hsz := k9.size
  refine ⟨?_, ?_, ?_, ?_, ?_, ?_, ?_, ?_, ⟨hb, hc, hd, hg⟩, k9.trans (o.mono k9.size)⟩
  · rw [o.cell (p := ⟨b, 0, none⟩) (by show b < _; omega)]; exact k0
  · rw [o.cell (p := ⟨b, 1, none⟩) (by show b < _; omega)]; exact k1
  · rw [o.cell (p := ⟨c, 0, none⟩) (by show c < _; omega)]; exact k2
  · rw [o.cell (p := ⟨c, 1, none⟩) (by show c < _; omega)]; exact k3
  · rw [o.cell (p := ⟨d, 0, none⟩) (by show d < _; omega)]; exact k4
  · rw [o.cell (p := ⟨d, 1, none⟩) (by show d < _; omega)]; exact k5
  · rw [o.cell (p := ⟨g, 0, none⟩) (by show g < _; omega)]; exact k6
  · rw [o.cell (p := ⟨g, 1, none⟩) (by show g < _; omega)]; exact k7
theorem KpV.set {W w : World} {b c d g e : Nat} {l0 l1 m0 m1 n0 n1 p0 p1 : Int} (k : KpV W b c d g l0 l1 m0 m1 n0 n1 p0 p1 w) (he : W.heap.size ≤ e) (x y : Value) : KpV W b c d g l0 l1 m0 m1 n0 n1 p0 p1 ((w.setCell ⟨e, 0, none⟩ x).setCell ⟨e, 1, none⟩ y) := by
  obtain ⟨k0, k1, k2, k3, k4, k5, k6, k7, ⟨hb, hc, hd, hg⟩, k9⟩ := k
  have e1 : b ≠ e := by omega
  have e2 : c ≠ e := by omega
  have e3 : d ≠ e := by omega
  have e4 : g ≠ e := by omega
  refine ⟨?_, ?_, ?_, ?_, ?_, ?_, ?_, ?_, ⟨hb, hc, hd, hg⟩, (k9.setCell he _).setCell he _⟩
  all_goals simp [go_sem, k0, k1, k2, k3, k4, k5, k6, k7, e1, e2, e3, e4, Ne.symm e1, Ne.symm e2, Ne.symm e3, Ne.symm e4]
theorem KpV.below {W w : World} {b c d g : Nat} {l0 l1 m0 m1 n0 n1 p0 p1 : Int} (k : KpV W b c d g l0 l1 m0 m1 n0 n1 p0 p1 w) : Below W.heap.size W w := k.2.2.2.2.2.2.2.2.2
attribute [local go_sem ↓] Go.wp_at_zero Go.wp_at_succ

set_option maxRecDepth 100000 in
set_option maxHeartbeats 8000000 in
theorem circ_walk (a b s0 s1 c0 c1 t0 t1 d0 d1 u0 u1 v0 v1 q0 q1 r0 r1 e0 e1 f0 f1 pa pb pc pd : Int) (w : World) (t : Tabs w) (a0 : -1800000000 ≤ a) (a1 : a ≤ 1800000000) (b0 : -1800000000 ≤ b) (b1 : b ≤ 1800000000)
    (C1 : RetE 15 #[.int .i64 a] s0 s1) (C2 : RetE 17 #[.int .i64 a] c0 c1) (C3 : RetE 15 #[.int .i64 b] t0 t1) (C4 : RetE 17 #[.int .i64 b] d0 d1)
    (C5 : RetE 15 #[.int .i64 (a + b)] u0 u1) (C6 : RetE 17 #[.int .i64 (a + b)] v0 v1)
    (Q1 : Ret1 44 #[.agg #[.int .i64 s0, .int .i64 s1]] (encl q0 q1)) (Q2 : Ret1 44 #[.agg #[.int .i64 c0, .int .i64 c1]] (encl r0 r1))
    (Q3 : Ret1 43 #[encl q0 q1, encl r0 r1] (encl (q0 + r0) (q1 + r1))) (M1 : Ret1 42 #[encl (q0 + r0) (q1 + r1), .agg #[.int .i64 10000000000000000, .int .i64 10000000000000000]] (.bool true))
    (P1 : Ret1 45 #[.agg #[.int .i64 s0, .int .i64 s1], .agg #[.int .i64 d0, .int .i64 d1]] (encl e0 e1)) (P2 : Ret1 45 #[.agg #[.int .i64 c0, .int .i64 c1], .agg #[.int .i64 t0, .int .i64 t1]] (encl f0 f1)) (Q4 : Ret1 43 #[encl e0 e1, encl f0 f1] (encl (e0 + f0) (e1 + f1))) (M2 : Ret1 42 #[.agg #[.int .i64 (u0 * 100000000), .int .i64 (u1 * 100000000)], encl (e0 + f0) (e1 + f1)] (.bool true))
    (P3 : Ret1 45 #[.agg #[.int .i64 c0, .int .i64 c1], .agg #[.int .i64 d0, .int .i64 d1]] (encl pa pb)) (P4 : Ret1 45 #[.agg #[.int .i64 s0, .int .i64 s1], .agg #[.int .i64 t0, .int .i64 t1]] (encl pc pd)) (M3 : Ret1 42 #[encl (v0 * 100000000) (v1 * 100000000), encl (pa - pd) (pb - pc)] (.bool true))
    (C7 : RetE 15 #[.int .i64 (a + 360000000)] s0 s1) (C8 : RetE 15 #[.int .i64 (a + 90000000)] c0 c1)
    (ga : -40000000000000000 ≤ pa ∧ pa ≤ 40000000000000000) (gb : -40000000000000000 ≤ pb ∧ pb ≤ 40000000000000000) (gc : -40000000000000000 ≤ pc ∧ pc ≤ 40000000000000000) (gd : -40000000000000000 ≤ pd ∧ pd ≤ 40000000000000000)
    (z5 : -100000000 ≤ u0) (z6 : u0 ≤ u1) (z7 : u1 ≤ 100000000) (z8 : -100000000 ≤ v0) (z9 : v0 ≤ v1) (z10 : v1 ≤ 100000000)
    (i1 : s0 ≤ s1) (i2 : s1 ≤ s0 + 1) (i3 : c0 ≤ c1) (i4 : c1 ≤ c0 + 1) (z1 : -100000000 ≤ s0) (z2 : s1 ≤ 100000000) (z3 : -100000000 ≤ c0) (z4 : c1 ≤ 100000000) :
    Calls Tryd.prog 7 #[.int .i64 a, .int .i64 b] w fun e w' => e = .returned (.bool true) ∧ Below w.heap.size w w' := by
  have x1 := IntWalk.i64_in (s1 - s0) (by omega)
  have x2 := IntWalk.i64_in (c1 - c0) (by omega)
  go_enter Tryd.func7, Tryd.ntmps7
  go_wp2_with fail
  refine (C1 _).mono ?_
  rintro e w1 ⟨rfl, hb1⟩
  have o1 : Own w.heap.size w w1 := hb1
  go_wp2_with fail
  refine (C2 _).mono ?_
  rintro e w2 ⟨rfl, hb2⟩
  have n0 := o1.below.size
  have n1 := hb2.size
  simp at n1
  have ks := (Box.fresh w1 s0 s1 23).below hb2.below
  have o2 : Own w.heap.size w w2 := (o1.alloc o1.below.size _).trans (hb2.mono (by have := o1.below.size; simp; omega))
  clear hb1 hb2
  go_wp2_with fail
  refine (C3 _).mono ?_
  rintro e w3 ⟨rfl, hb3⟩
  have n2 := hb3.size
  simp at n2
  have ks := (ks.alloc (.cells #[.int .i64 c0, .int .i64 c1] 23)).below hb3.below
  have kc := (Box.fresh w2 c0 c1 23).below hb3.below
  have o3 : Own w.heap.size w w3 := (o2.alloc o2.below.size _).trans (hb3.mono (by have := o2.below.size; simp; omega))
  clear hb3
  go_wp2_with fail
  refine (C4 _).mono ?_
  rintro e w4 ⟨rfl, hb4⟩
  have n3 := hb4.size
  simp at n3
  have ks := (ks.alloc (.cells #[.int .i64 t0, .int .i64 t1] 23)).below hb4.below
  have kc := (kc.alloc (.cells #[.int .i64 t0, .int .i64 t1] 23)).below hb4.below
  have kt := (Box.fresh w3 t0 t1 23).below hb4.below
  have o4 : Own w.heap.size w w4 := (o3.alloc o3.below.size _).trans (hb4.mono (by have := o3.below.size; simp; omega))
  clear hb4
  have hS : KpC w w1.heap.size w2.heap.size w3.heap.size w4.heap.size s0 s1 c0 c1 t0 t1 d0 d1 (w4.alloc (.cells #[.int .i64 d0, .int .i64 d1] 23)) := by
    have m1 := ks.alloc (.cells #[.int .i64 d0, .int .i64 d1] 23)
    have m2 := kc.alloc (.cells #[.int .i64 d0, .int .i64 d1] 23)
    have m3 := kt.alloc (.cells #[.int .i64 d0, .int .i64 d1] 23)
    have m4 := Box.fresh w4 d0 d1 23
    have oo : Below w.heap.size w (w4.alloc (.cells #[.int .i64 d0, .int .i64 d1] 23)) := o4.below.alloc o4.below.size _
    exact ⟨m1.1, m1.2.1, m2.1, m2.2.1, m3.1, m3.2.1, m4.1, m4.2.1, ⟨m1.2.2.2.2, m2.2.2.2.2, m3.2.2.2.2, m4.2.2.2.2⟩, t.below oo, oo⟩
  obtain ⟨ks0, ks1, ks2, ks3, ks4⟩ := ks
  obtain ⟨kc0, kc1, kc2, kc3, kc4⟩ := kc
  clear kt
  go_wp2_with fail
  obtain ⟨W, hW⟩ : ∃ W, W = w4.alloc (.cells #[.int .i64 d0, .int .i64 d1] 23) := ⟨_, rfl⟩
  rw [← hW] at hS ⊢
  clear hW ks0 ks1 ks2 ks3 ks4 kc0 kc1 kc2 kc3 kc4 o1 o2 o3 o4
  go_region_held3 (fun w' => w'.cell? ⟨w1.heap.size, 0, none⟩ = some (.int .i64 s0) ∧ w'.cell? ⟨w1.heap.size, 1, none⟩ = some (.int .i64 s1) ∧ w'.cell? ⟨w2.heap.size, 0, none⟩ = some (.int .i64 c0) ∧ w'.cell? ⟨w2.heap.size, 1, none⟩ = some (.int .i64 c1) ∧ w'.cell? ⟨w3.heap.size, 0, none⟩ = some (.int .i64 t0) ∧ w'.cell? ⟨w3.heap.size, 1, none⟩ = some (.int .i64 t1) ∧ w'.cell? ⟨w4.heap.size, 0, none⟩ = some (.int .i64 d0) ∧ w'.cell? ⟨w4.heap.size, 1, none⟩ = some (.int .i64 d1) ∧ (w1.heap.size < w'.heap.size ∧ w2.heap.size < w'.heap.size ∧ w3.heap.size < w'.heap.size ∧ w4.heap.size < w'.heap.size) ∧ Tabs w' ∧ Below w.heap.size w w')
    (first | exact KpC.call hS (Below.refl _ _).drew | exact KpC.call (by assumption) hbq.below)
    (first | (go_at_call 44; with_reducible refine (Ret1.at Q1 _).mono ?_; rintro e wq ⟨rfl, hbq⟩) | (go_at_call 44; with_reducible refine (Ret1.at Q2 _).mono ?_; rintro e wq ⟨rfl, hbq⟩) | (go_at_call 43; with_reducible refine (Ret1.at Q3 _).mono ?_; rintro e wq ⟨rfl, hbq⟩) | (go_at_call 42; with_reducible refine (Ret1.at M1 _).mono ?_; rintro e wq ⟨rfl, hbq⟩))
  have kq : KpC w w1.heap.size w2.heap.size w3.heap.size w4.heap.size s0 s1 c0 c1 t0 t1 d0 d1 wq := by assumption
  have n5 : wq.heap.size = wq.heap.size := rfl
  clear hS
  go_wp2_with fail
  refine (C5 _).mono ?_
  rintro e w5 ⟨rfl, hb5⟩
  have n4 : w4.heap.size < w5.heap.size := Nat.lt_of_lt_of_le kq.2.2.2.2.2.2.2.2.1.2.2.2 hb5.size
  have kq := kq.call hb5.below
  go_wp2_with fail
  refine (C6 _).mono ?_
  rintro e w6 ⟨rfl, hb6⟩
  have n6 := hb6.size
  simp at n6
  have ku := (Box.fresh w5 u0 u1 23).below hb6.below
  have kq := (kq.call ((Below.refl _ _).alloc (Nat.le_refl _) (.cells #[.int .i64 u0, .int .i64 u1] 23))).call hb6.below
  have x3 := IntWalk.i64_in (u0 * 100000000) (by omega)
  have x4 := IntWalk.i64_in (u1 * 100000000) (by omega)
  have hS : KpD w w1.heap.size w2.heap.size w3.heap.size w4.heap.size w5.heap.size w6.heap.size s0 s1 c0 c1 t0 t1 d0 d1 u0 u1 v0 v1 (w6.alloc (.cells #[.int .i64 v0, .int .i64 v1] 23)) := by
    have m1 := ku.alloc (.cells #[.int .i64 v0, .int .i64 v1] 23)
    have m2 := Box.fresh w6 v0 v1 23
    exact ⟨m1.1, m1.2.1, m2.1, m2.2.1, ⟨m1.2.2.2.2, m2.2.2.2.2⟩, ⟨m1.2.2.1, m1.2.2.2.1, m2.2.2.1, m2.2.2.2.1⟩, kq.call ((Below.refl _ _).alloc (Nat.le_refl _) _)⟩
  clear kq ku
  go_wp2_with fail
  obtain ⟨V, hV⟩ : ∃ V, V = w6.alloc (.cells #[.int .i64 v0, .int .i64 v1] 23) := ⟨_, rfl⟩
  rw [← hV] at hS ⊢
  clear hV hb5 hb6
  go_region_held3 (fun w' => w'.cell? ⟨w5.heap.size, 0, none⟩ = some (.int .i64 u0) ∧ w'.cell? ⟨w5.heap.size, 1, none⟩ = some (.int .i64 u1) ∧ w'.cell? ⟨w6.heap.size, 0, none⟩ = some (.int .i64 v0) ∧ w'.cell? ⟨w6.heap.size, 1, none⟩ = some (.int .i64 v1) ∧ (w5.heap.size < w'.heap.size ∧ w6.heap.size < w'.heap.size) ∧ (w'.frozen? ⟨w5.heap.size, 0, none⟩ = false ∧ w'.frozen? ⟨w5.heap.size, 1, none⟩ = false ∧ w'.frozen? ⟨w6.heap.size, 0, none⟩ = false ∧ w'.frozen? ⟨w6.heap.size, 1, none⟩ = false) ∧ w'.cell? ⟨w1.heap.size, 0, none⟩ = some (.int .i64 s0) ∧ w'.cell? ⟨w1.heap.size, 1, none⟩ = some (.int .i64 s1) ∧ w'.cell? ⟨w2.heap.size, 0, none⟩ = some (.int .i64 c0) ∧ w'.cell? ⟨w2.heap.size, 1, none⟩ = some (.int .i64 c1) ∧ w'.cell? ⟨w3.heap.size, 0, none⟩ = some (.int .i64 t0) ∧ w'.cell? ⟨w3.heap.size, 1, none⟩ = some (.int .i64 t1) ∧ w'.cell? ⟨w4.heap.size, 0, none⟩ = some (.int .i64 d0) ∧ w'.cell? ⟨w4.heap.size, 1, none⟩ = some (.int .i64 d1) ∧ (w1.heap.size < w'.heap.size ∧ w2.heap.size < w'.heap.size ∧ w3.heap.size < w'.heap.size ∧ w4.heap.size < w'.heap.size) ∧ Tabs w' ∧ Below w.heap.size w w')
    (first | exact KpD.call hS (Below.refl _ _).drew | exact KpD.call (by assumption) hbr.below)
    (first | (go_at_call 45; with_reducible refine (Ret1.at P1 _).mono ?_; rintro e wr ⟨rfl, hbr⟩) | (go_at_call 45; with_reducible refine (Ret1.at P2 _).mono ?_; rintro e wr ⟨rfl, hbr⟩) | (go_at_call 43; with_reducible refine (Ret1.at Q4 _).mono ?_; rintro e wr ⟨rfl, hbr⟩) | (go_at_call 42; with_reducible refine (Ret1.at M2 _).mono ?_; rintro e wr ⟨rfl, hbr⟩))
  have kr : KpD w w1.heap.size w2.heap.size w3.heap.size w4.heap.size w5.heap.size w6.heap.size s0 s1 c0 c1 t0 t1 d0 d1 u0 u1 v0 v1 wr := by assumption
  clear hS
  go_wp2_with fail
  clear x1 x2 x3 x4
  go_cut [15, 16] (fun s15 s16 wx => ∃ g1 g2 : Nat, s15 = .pointer (some ⟨g1, 0, none⟩) ∧ s16 = .pointer (some ⟨g2, 0, none⟩) ∧ Box g1 pa pb wx ∧ Box g2 pc pd wx ∧ KpD w w1.heap.size w2.heap.size w3.heap.size w4.heap.size w5.heap.size w6.heap.size s0 s1 c0 c1 t0 t1 d0 d1 u0 u1 v0 v1 wx)
  case first =>
    have hV : KpV wr w1.heap.size w2.heap.size w3.heap.size w4.heap.size s0 s1 c0 c1 t0 t1 d0 d1 wr := by
      obtain ⟨_, _, _, _, _, _, ca0, ca1, ca2, ca3, ca4, ca5, ca6, ca7, cz, _, _⟩ := kr
      exact ⟨ca0, ca1, ca2, ca3, ca4, ca5, ca6, ca7, cz, Below.refl _ _⟩
    clear Q1 Q2 Q3 Q4 M1 M2 M3 P1 P2 C1 C2 C3 C4 C5 C6 C7 C8
    go_region_held3 (fun w' => w'.cell? ⟨w1.heap.size, 0, none⟩ = some (.int .i64 s0) ∧ w'.cell? ⟨w1.heap.size, 1, none⟩ = some (.int .i64 s1) ∧ w'.cell? ⟨w2.heap.size, 0, none⟩ = some (.int .i64 c0) ∧ w'.cell? ⟨w2.heap.size, 1, none⟩ = some (.int .i64 c1) ∧ w'.cell? ⟨w3.heap.size, 0, none⟩ = some (.int .i64 t0) ∧ w'.cell? ⟨w3.heap.size, 1, none⟩ = some (.int .i64 t1) ∧ w'.cell? ⟨w4.heap.size, 0, none⟩ = some (.int .i64 d0) ∧ w'.cell? ⟨w4.heap.size, 1, none⟩ = some (.int .i64 d1) ∧ (w1.heap.size < wr.heap.size ∧ w2.heap.size < wr.heap.size ∧ w3.heap.size < wr.heap.size ∧ w4.heap.size < wr.heap.size) ∧ Below wr.heap.size wr w')
      ((refine KpV.call hV ?_; (repeat' (first | (with_reducible exact Below.refl _ _) | (with_reducible refine Below.drew ?_) | (with_reducible refine Below.alloc ?_ ?_ _) | (with_reducible refine Below.setCell ?_ ?_ _) | (with_reducible refine Below.trans ?_ (hbp.below.mono ?_)) | (with_reducible refine Below.trans ?_ (hbr2.below.mono ?_)))); all_goals (first | (simp; done) | (simp; omega) | omega)))
      (first | (go_at_call 45; with_reducible refine (Ret1.at P3 _).mono ?_; rintro e wp ⟨rfl, hbp⟩; have hcp := (bcell hbp).1; have hfp := (bcell hbp).2; have hzp := hbp.size; (try simp at hzp); (try (have hzp2 : wr.heap.size < wp.heap.size := by omega)); (try (have hzp3 : wr.heap.size + 1 < wp.heap.size := by omega)); (try (have hzp4 : wq2.heap.size < wp.heap.size := by omega)); (try (have hzp5 : wq2.heap.size + 1 < wp.heap.size := by omega))) | (go_at_call 45; with_reducible refine (Ret1.at P4 _).mono ?_; rintro e wq2 ⟨rfl, hbr2⟩; have hcr := (bcell hbr2).1; have hfr := (bcell hbr2).2; have hzr := hbr2.size; (try simp at hzr); (try (have hzr2 : wr.heap.size < wq2.heap.size := by omega)); (try (have hzr3 : wr.heap.size + 1 < wq2.heap.size := by omega)); (try (have hzr4 : wp.heap.size < wq2.heap.size := by omega)); (try (have hzr5 : wp.heap.size + 1 < wq2.heap.size := by omega))))
    all_goals go_wp2_with fail
    all_goals go_meet
    all_goals
      case rel =>
        refine ⟨_, _, rfl, rfl, ?_, ?_, kr.call ?_⟩
        · (repeat' (first | ((with_reducible refine Box.freshAt ?_ _ _ _); focus (simp; done)) | (with_reducible refine Box.alloc ?_ _) | (with_reducible refine Box.drew ?_) | (with_reducible refine Box.below ?_ hbp.below) | (with_reducible refine Box.below ?_ hbr2.below) | (with_reducible refine Box.set (l := 0) (h := 0) ?_ _ _) | ((with_reducible refine Box.other ?_ ?_ _ _); rotate_left; focus (first | omega | (simp; omega)))))
        · (repeat' (first | ((with_reducible refine Box.freshAt ?_ _ _ _); focus (simp; done)) | (with_reducible refine Box.alloc ?_ _) | (with_reducible refine Box.drew ?_) | (with_reducible refine Box.below ?_ hbp.below) | (with_reducible refine Box.below ?_ hbr2.below) | (with_reducible refine Box.set (l := 0) (h := 0) ?_ _ _) | ((with_reducible refine Box.other ?_ ?_ _ _); rotate_left; focus (first | omega | (simp; omega)))))
        · ((repeat' (first | (with_reducible exact Below.refl _ _) | (with_reducible refine Below.drew ?_) | (with_reducible refine Below.alloc ?_ ?_ _) | (with_reducible refine Below.setCell ?_ ?_ _) | (with_reducible refine Below.trans ?_ (hbp.below.mono ?_)) | (with_reducible refine Below.trans ?_ (hbr2.below.mono ?_)))); all_goals (first | (simp; done) | (simp; omega) | omega))
  case rest =>
    obtain ⟨g1, g2, rfl, rfl, bp, bq, kk⟩ := hcut
    have KK := Lib.hid kk
    obtain ⟨u00, u01, v00, v01, ⟨uz, vz⟩, ⟨fu0, fu1, fv0, fv1⟩, _⟩ := kk
    obtain ⟨p00, p01, _, _, pz⟩ := bp
    obtain ⟨q00, q01, _, _, qz⟩ := bq
    have M3' := Lib.hid M3
    have C7' := Lib.hid C7
    have C8' := Lib.hid C8
    clear M3 C7 C8
    go_wp2_with fail
    refine (M3'.out _).mono ?_
    rintro e w7 ⟨rfl, hb7⟩
    have K7 := Lib.hid (KK.out.call hb7.below)
    clear KK u00 u01 v00 v01 uz vz fu0 fu1 fv0 fv1 p00 p01 q00 q01 pz qz
    go_wp2_with fail
    refine (C7'.out _).mono ?_
    rintro e w8 ⟨rfl, hb8⟩
    have K8 := Lib.hid (K7.out.call hb8.below)
    clear K7
    obtain ⟨u00, u01, v00, v01, ⟨uz, vz⟩, ⟨fu0, fu1, fv0, fv1⟩, _⟩ := K8.out
    go_wp2_with fail
    have K9 := Lib.hid (K8.out.setX t (by omega) (by omega) (by omega) (by omega) (by omega) (by omega) s0 s1)
    clear K8 u00 u01 v00 v01 uz vz fu0 fu1 fv0 fv1
    refine (C8'.out _).mono ?_
    rintro e w9 ⟨rfl, hb9⟩
    have K10 := Lib.hid (K9.out.call hb9.below)
    clear K9
    obtain ⟨u00, u01, v00, v01, ⟨uz, vz⟩, ⟨fu0, fu1, fv0, fv1⟩, ca0, ca1, ca2, ca3, ca4, ca5, ca6, ca7, ⟨cz0, cz1, cz2, cz3⟩, _, _⟩ := K10.out
    have K11 := K10.out.setY t (by omega) (by omega) (by omega) (by omega) (by omega) (by omega) c0 c1
    have d1 : w1.heap.size ≠ w6.heap.size := by omega
    have d2 : w2.heap.size ≠ w6.heap.size := by omega
    have d5 : w5.heap.size ≠ w6.heap.size := by omega
    have tt := K11.2.2.2.2.2.2.2.2.2.2.2.2.2.2.2.1
    have ow := K11.2.2.2.2.2.2.2.2.2.2.2.2.2.2.2.2
    have OW := Lib.hid ow
    clear K11 ow
    go_wp2_with fail
    refine (awake_any _ tt).mono ?_
    rintro e w10 ⟨rfl, hb10⟩
    go_wp2_with fail
    go_ret
    exact ⟨rfl, OW.out.trans (hb10.mono OW.out.size)⟩
end Go.Proofs.YtdikelijnachjaaDoor
