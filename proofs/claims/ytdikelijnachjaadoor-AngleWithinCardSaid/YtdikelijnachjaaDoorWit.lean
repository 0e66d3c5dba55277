/- The walk of AngleWithin. -/
import Derived.Test.YtdikelijnachjaaDoorMon
import Derived.Test.YtdikelijnachjaaDoorEncl
import Derived.Test.YtdikelijnachjaaDoorCirB
import Derived.Deep.DeepCutAuto
import Derived.Deep.DrawnRows
import Derived.Deep.RegionHeld3
namespace Go.Proofs.YtdikelijnachjaaDoor
set_option linter.unusedSimpArgs false
set_option linter.unusedVariables false
open Go.RowKit SineNear
attribute [local go_sem ↓] Go.wp_at_zero Go.wp_at_succ

/-- what both loops keep: two enclosures, a part of the first one, and n functions, all below B0 -/
structure Kw (w : World) (B0 b c d g n : Nat) (y0 y1 z0 z1 s0 s1 : Int) (fo : Nat → FuncId) (wr : World) : Prop where
  y : Box b y0 y1 wr
  z : Box c z0 z1 wr
  s : Box d s0 s1 wr
  f : ∀ i, i < n → wr.cell? ⟨g, i, none⟩ = some (.func (.func (fo i)) #[] #[])
  own : Below w.heap.size w wr
  lt : b < B0 ∧ c < B0 ∧ d < B0 ∧ g < B0 ∧ w.heap.size ≤ B0
  bz : B0 ≤ wr.heap.size
theorem Kw.call {w w1 w2 : World} {B0 b c d g n : Nat} {y0 y1 z0 z1 s0 s1 : Int} {fo : Nat → FuncId} (k : Kw w B0 b c d g n y0 y1 z0 z1 s0 s1 fo w1) (h : Below w1.heap.size w1 w2) : Kw w B0 b c d g n y0 y1 z0 z1 s0 s1 fo w2 :=
  ⟨k.y.below h, k.z.below h, k.s.below h, fun i hi => by rw [h.cell (p := ⟨g, i, none⟩) (Nat.lt_of_lt_of_le k.lt.2.2.2.1 k.bz)]; exact k.f i hi, k.own.trans (h.mono k.own.size), k.lt, Nat.le_trans k.bz h.size⟩
theorem Kw.put {w w1 : World} {B0 b c d g n : Nat} {y0 y1 z0 z1 s0 s1 : Int} {fo : Nat → FuncId} (k : Kw w B0 b c d g n y0 y1 z0 z1 s0 s1 fo w1) {h : Nat} (hh : B0 ≤ h) (u v : Value) : Kw w B0 b c d g n y0 y1 z0 z1 s0 s1 fo ((w1.setCell ⟨h, 0, none⟩ u).setCell ⟨h, 1, none⟩ v) := by
  obtain ⟨l1, l2, l3, l4, l5⟩ := k.lt
  refine ⟨k.y.other (by omega) _ _, k.z.other (by omega) _ _, k.s.other (by omega) _ _, fun i hi => ?_, (k.own.setCell (by show w.heap.size ≤ h; omega) _).setCell (by show w.heap.size ≤ h; omega) _, k.lt, by simpa using k.bz⟩
  have hn : ¬ (g = h) := by omega
  have hm : ¬ (h = g) := by omega
  simp [go_sem, k.f i hi, hn, hm]

/-- two arguments and a function in memory, and all that a region leaves as it was -/
def KpW (W : World) (d : Nat) (l h : Int) (c : Nat) (l2 h2 : Int) (g i : Nat) (f : Value) (w : World) : Prop := w.cell? ⟨d, 0, none⟩ = some (.int .i64 l) ∧ w.cell? ⟨d, 1, none⟩ = some (.int .i64 h) ∧ w.cell? ⟨c, 0, none⟩ = some (.int .i64 l2) ∧ w.cell? ⟨c, 1, none⟩ = some (.int .i64 h2) ∧ w.cell? ⟨g, i, none⟩ = some f ∧ (d < W.heap.size ∧ c < W.heap.size ∧ g < W.heap.size) ∧ Below W.heap.size W w
theorem KpW.call {W w w1 : World} {d c : Nat} {l h l2 h2 : Int} {g i : Nat} {f : Value} (k : KpW W d l h c l2 h2 g i f w) (o : Below W.heap.size w w1) : KpW W d l h c l2 h2 g i f w1 := by
  obtain ⟨k0, k1, k2, k3, k4, ⟨k5, k6, k7⟩, k8⟩ := k
  refine ⟨?_, ?_, ?_, ?_, ?_, ⟨k5, k6, k7⟩, k8.trans o⟩
  · rw [o.cell (p := ⟨d, 0, none⟩) k5]; exact k0
  · rw [o.cell (p := ⟨d, 1, none⟩) k5]; exact k1
  · rw [o.cell (p := ⟨c, 0, none⟩) k6]; exact k2
  · rw [o.cell (p := ⟨c, 1, none⟩) k6]; exact k3
  · rw [o.cell (p := ⟨g, i, none⟩) k7]; exact k4
/-- the same beside a box that a result goes into -/
def KpY (d : Nat) (l h : Int) (c : Nat) (l2 h2 : Int) (g i : Nat) (f : Value) (e : Nat) (w : World) : Prop := w.cell? ⟨d, 0, none⟩ = some (.int .i64 l) ∧ w.cell? ⟨d, 1, none⟩ = some (.int .i64 h) ∧ w.cell? ⟨c, 0, none⟩ = some (.int .i64 l2) ∧ w.cell? ⟨c, 1, none⟩ = some (.int .i64 h2) ∧ w.cell? ⟨g, i, none⟩ = some f ∧ w.cell? ⟨e, 0, none⟩ = some (.int .i64 (rd w e 0)) ∧ w.cell? ⟨e, 1, none⟩ = some (.int .i64 (rd w e 1)) ∧ w.frozen? ⟨e, 0, none⟩ = false ∧ w.frozen? ⟨e, 1, none⟩ = false ∧ (d < w.heap.size ∧ c < w.heap.size ∧ g < w.heap.size ∧ e < w.heap.size)
theorem KpY.call {w w1 : World} {d c : Nat} {l h l2 h2 : Int} {g i e : Nat} {f : Value} (k : KpY d l h c l2 h2 g i f e w) (o : Below w.heap.size w w1) : KpY d l h c l2 h2 g i f e w1 := by
  obtain ⟨k0, k1, k2, k3, k4, k5, k6, k7, k8, ⟨z1, z2, z3, z4⟩⟩ := k
  have hz := o.size
  refine ⟨?_, ?_, ?_, ?_, ?_, ?_, ?_, ?_, ?_, ⟨by omega, by omega, by omega, by omega⟩⟩
  · rw [o.cell (p := ⟨d, 0, none⟩) z1]; exact k0
  · rw [o.cell (p := ⟨d, 1, none⟩) z1]; exact k1
  · rw [o.cell (p := ⟨c, 0, none⟩) z2]; exact k2
  · rw [o.cell (p := ⟨c, 1, none⟩) z2]; exact k3
  · rw [o.cell (p := ⟨g, i, none⟩) z3]; exact k4
  · exact rd_of (by rw [o.cell (p := ⟨e, 0, none⟩) z4]; exact k5)
  · exact rd_of (by rw [o.cell (p := ⟨e, 1, none⟩) z4]; exact k6)
  · rw [o.frozen (p := ⟨e, 0, none⟩) z4]; exact k7
  · rw [o.frozen (p := ⟨e, 1, none⟩) z4]; exact k8
theorem KpY.store {w : World} {d c : Nat} {l h l2 h2 : Int} {g i e : Nat} {f : Value} (k : KpY d l h c l2 h2 g i f e w) (n1 : d ≠ e) (n2 : c ≠ e) (n3 : g ≠ e) (u v : Int) : KpY d l h c l2 h2 g i f e ((w.setCell ⟨e, 0, none⟩ (.int .i64 u)).setCell ⟨e, 1, none⟩ (.int .i64 v)) := by
  obtain ⟨k0, k1, k2, k3, k4, k5, k6, k7, k8, ⟨z1, z2, z3, z4⟩⟩ := k
  refine ⟨?_, ?_, ?_, ?_, ?_, rd_of (n := u) ?_, rd_of (n := v) ?_, ?_, ?_, ⟨by simpa using z1, by simpa using z2, by simpa using z3, by simpa using z4⟩⟩
  all_goals simp [go_sem, k0, k1, k2, k3, k4, k5, k6, k7, k8, n1, n2, n3, Ne.symm n1, Ne.symm n2, Ne.symm n3]

def fo1 : Nat → FuncId
  | 0 => 19
  | 1 => 21
  | 2 => 24
  | 3 => 26
  | _ => 28
def fo2 : Nat → FuncId
  | 0 => 30
  | 1 => 32
  | 2 => 34
  | _ => 36
/-- a function value is called so -/
def Enters (op : FuncId) : Prop := ∀ args w, (callFunc op args).run Tryd.prog w = .ok (.enter op args) w
theorem enters1 (i : Nat) (hi : i < 5) : Enters (fo1 i) := by
  rcases (by omega : i = 0 ∨ i = 1 ∨ i = 2 ∨ i = 3 ∨ i = 4) with rfl | rfl | rfl | rfl | rfl
  · exact enters_of Tryd.func19 (by kernel_rfl) rfl
  · exact enters_of Tryd.func21 (by kernel_rfl) rfl
  · exact enters_of Tryd.func24 (by kernel_rfl) rfl
  · exact enters_of Tryd.func26 (by kernel_rfl) rfl
  · exact enters_of Tryd.func28 (by kernel_rfl) rfl
theorem enters2 (i : Nat) (hi : i < 4) : Enters (fo2 i) := by
  rcases (by omega : i = 0 ∨ i = 1 ∨ i = 2 ∨ i = 3) with rfl | rfl | rfl | rfl
  · exact enters_of Tryd.func30 (by kernel_rfl) rfl
  · exact enters_of Tryd.func32 (by kernel_rfl) rfl
  · exact enters_of Tryd.func34 (by kernel_rfl) rfl
  · exact enters_of Tryd.func36 (by kernel_rfl) rfl

/-- two calls of one function, the first one's argument within the second one's -/
def Pair1 (op : FuncId) (a b : Array Value) : Prop := ∃ p0 p1 pe q0 q1 qe, RetT op a (enclE p0 p1 pe) ∧ RetT op b (enclE q0 q1 qe) ∧ Sub p0 p1 pe q0 q1 qe

theorem Box.drewN {b : Nat} {l h : Int} {w : World} (k : Box b l h w) (q : Nat) : Box b l h (w.drewN q) := k
theorem box_at {b : Nat} {l h : Int} {w : World} (k : Box b l h w) : w.cell? ⟨b, 0, none⟩ = some (.int .i64 l) ∧ w.cell? ⟨b, 1, none⟩ = some (.int .i64 h) ∧ b < w.heap.size := ⟨k.1, k.2.1, k.2.2.2.2⟩

set_option maxRecDepth 100000 in
set_option maxHeartbeats 40000000 in
theorem wit_walk (y0 y1 z0 z1 u v m M s0 s1 : Int) (w : World) (t : Tabs w) (hy : y0 ≤ y1) (hl : -3600000000 ≤ y0) (hh : y1 ≤ 3600000000)
    (em : min u v = m) (eM : max u v = M) (m0 : 0 ≤ m) (m1 : m ≤ 255) (M0 : 0 ≤ M) (M1 : M ≤ 255)
    (e0 : y0 + (y1 - y0) * m / 255 = s0) (e1 : y0 + (y1 - y0) * M / 255 = s1)
    (b0 : 0 ≤ (y1 - y0) * m ∧ (y1 - y0) * m ≤ 1836000000000) (b1 : 0 ≤ (y1 - y0) * M ∧ (y1 - y0) * M ≤ 1836000000000)
    (i0 : y0 ≤ s0) (i1 : s0 ≤ s1) (i2 : s1 ≤ y1)
    (C1 : ∀ i, i < 5 → Pair1 (fo1 i) #[encl s0 s1] #[encl y0 y1])
    (C2 : ∀ i, i < 4 → Pair1 (fo2 i) #[encl s0 s1, encl z0 z1] #[encl y0 y1, encl z0 z1])
    (C3 : ∀ i, i < 4 → Pair1 (fo2 i) #[encl z0 z1, encl s0 s1] #[encl z0 z1, encl y0 y1]) :
    Calls Tryd.prog 12 #[encl y0 y1, encl z0 z1, .agg #[.int .u8 u, .int .u8 v]] w fun e w' => e = .returned (.bool true) ∧ Below w.heap.size w w' := by
  have D1 := Lib.hid C1
  have D2 := Lib.hid C2
  have D3 := Lib.hid C3
  have T0 := Lib.hid t
  clear C1 C2 C3 t
  go_enter Tryd.func12, Tryd.ntmps12
  go_wp2_with fail
  obtain ⟨W, hW⟩ : ∃ W, W = ((w.alloc (.cells #[.int .i64 y0, .int .i64 y1] 23)).alloc (.cells #[.int .i64 z0, .int .i64 z1] 23)).alloc (.cells #[.int .u8 u, .int .u8 v] 46) := ⟨_, rfl⟩
  have by' : Box w.heap.size y0 y1 W := by rw [hW]; exact ((Box.fresh w y0 y1 _).alloc _).alloc _
  have bz : Box (w.heap.size + 1) z0 z1 W := by
    rw [hW]
    have := Box.fresh (w.alloc (.cells #[.int .i64 y0, .int .i64 y1] 23)) z0 z1 23
    rw [show (w.alloc (.cells #[.int .i64 y0, .int .i64 y1] 23)).heap.size = w.heap.size + 1 by simp] at this
    exact this.alloc _
  have hz : W.heap.size = w.heap.size + 1 + 1 + 1 := by rw [hW]; simp
  have c0 : W.cell? ⟨w.heap.size + 1 + 1, 0, none⟩ = some (.int .u8 u) := by rw [hW]; simp [go_sem]
  have c1 : W.cell? ⟨w.heap.size + 1 + 1, 1, none⟩ = some (.int .u8 v) := by rw [hW]; simp [go_sem]
  have oW : Below w.heap.size w W := by rw [hW]; exact (((Below.refl _ _).alloc (Nat.le_refl _) _).alloc (by simp) _).alloc (by simp; omega) _
  rw [← hW]
  clear hW
  go_quiet (fail)
  clear em eM c0 c1
  obtain ⟨y00, y01, yz⟩ := box_at by'
  have ny1 : ¬ y1 < y0 := by omega
  have ny2 : ¬ y0 < -3600000000 := by omega
  have ny3 : ¬ 3600000000 < y1 := by omega
  have r1 : IntKind.i64.wrap (y1 - y0) = y1 - y0 := IntWalk.i64_in _ (by omega)
  have r2 : IntKind.i64.wrap ((y1 - y0) * m) = (y1 - y0) * m := IntWalk.i64_in _ (by omega)
  have r3 : ((y1 - y0) * m).tdiv 255 = (y1 - y0) * m / 255 := Int.tdiv_eq_ediv_of_nonneg b0.1
  have r4 : IntKind.i64.wrap (y0 + (y1 - y0) * m / 255) = s0 := by rw [e0]; exact IntWalk.i64_in _ (by omega)
  have r6 : IntKind.i64.wrap ((y1 - y0) * M) = (y1 - y0) * M := IntWalk.i64_in _ (by omega)
  have r7 : ((y1 - y0) * M).tdiv 255 = (y1 - y0) * M / 255 := Int.tdiv_eq_ediv_of_nonneg b1.1
  have r8 : IntKind.i64.wrap (y0 + (y1 - y0) * M / 255) = s1 := by rw [e1]; exact IntWalk.i64_in _ (by omega)
  have r9 : IntKind.i64.wrap m = m := IntWalk.i64_in _ (by omega)
  have r10 : IntKind.i64.wrap M = M := IntWalk.i64_in _ (by omega)
  have r11 : IntKind.i64.wrap ((y1 - y0) * m / 255) = (y1 - y0) * m / 255 := IntWalk.i64_in _ (by omega)
  have r12 : IntKind.i64.wrap ((y1 - y0) * M / 255) = (y1 - y0) * M / 255 := IntWalk.i64_in _ (by omega)
  clear e0 e1 b0 b1
  go_wp2_with fail
  refine (x_any s0 s1 _).mono ?_
  rintro e w1 ⟨rfl, hb1⟩
  clear r1 r2 r3 r4 r6 r7 r8 r9 r10 r11 r12 y00 y01 ny1 ny2 ny3
  have zs1 := hb1.size
  simp at zs1
  have by1 := (by'.drewN _).below hb1.below
  have bz1 := (bz.drewN _).below hb1.below
  have o1 : Below w.heap.size w w1 := (below_drewN oW _).trans (hb1.below.mono oW.size)
  go_wp2_with fail
  have bs := Box.fresh w1 s0 s1 23
  obtain ⟨W1, hW1⟩ : ∃ W1, W1 = (w1.alloc (.cells #[.int .i64 s0, .int .i64 s1] 23)).alloc (.cells #[.func (.func 19) #[] #[], .func (.func 21) #[] #[], .func (.func 24) #[] #[], .func (.func 26) #[] #[], .func (.func 28) #[] #[]] 49) := ⟨_, rfl⟩
  have KS : Kw w (w1.heap.size + 1 + 1) w.heap.size (w.heap.size + 1) w1.heap.size (w1.heap.size + 1) 5 y0 y1 z0 z1 s0 s1 fo1 W1 := by
    rw [hW1]
    refine ⟨(by1.alloc _).alloc _, (bz1.alloc _).alloc _, bs.alloc _, ?_, (o1.alloc (Below.size o1) _).alloc (by have := Below.size o1; simp; omega) _, by omega, by simp⟩
    intro i hi
    rcases (by omega : i = 0 ∨ i = 1 ∨ i = 2 ∨ i = 3 ∨ i = 4) with rfl | rfl | rfl | rfl | rfl <;> simp [go_sem, fo1]
  rw [← hW1]
  clear hW1 bs by1 bz1 o1 hb1 by' bz
  generalize w1.heap.size + 1 + 1 = B0 at KS
  generalize w1.heap.size + 1 = g0 at KS ⊢
  generalize w1.heap.size = d0 at KS ⊢
  go_loopg [11] 5 (fun n i' wr => ∃ i : Nat, i ≤ 5 ∧ n = 5 - i ∧ i' = .int .i64 i ∧ Kw w B0 w.heap.size (w.heap.size + 1) d0 g0 5 y0 y1 z0 z1 s0 s1 fo1 wr)
  case atStart => exact ⟨0, by omega, by omega, rfl, KS⟩
  case round =>
    clear KS
    obtain ⟨i, hi, hn, rfl, K⟩ := hrel
    by_cases hlt : i < 5
    · obtain ⟨p0, p1, pe, q0, q1, qe, CP, CQ, hs⟩ := D1.out i hlt
      have hk := K.f i hlt
      have eg := enters1 i hlt
      have hi5 : (i : Int) < 5 := by omega
      obtain ⟨op, hop⟩ : ∃ op, op = fo1 i := ⟨_, rfl⟩
      rw [← hop] at CP CQ hk eg
      have HOP := Lib.hid hop
      clear hop
      have CP' := Lib.hid CP
      have CQ' := Lib.hid CQ
      have HS := Lib.hid hs
      have HK := Lib.hid hk
      unfold Enters at eg
      clear CP CQ hs
      go_wp2_with fail
      go_cut [12, 13] (fun s12 s13 wx => ∃ g1 : Nat, s12 = .pointer (some ⟨g1, 0, none⟩) ∧ s13 = .int .i64 pe ∧ Box g1 p0 p1 wx ∧ B0 ≤ g1 ∧ Kw w B0 w.heap.size (w.heap.size + 1) d0 g0 5 y0 y1 z0 z1 s0 s1 fo1 wx)
      case first =>
        as_aux_lemma =>
          obtain ⟨ya, yb, yz⟩ := box_at K.y
          obtain ⟨za, zb, zz⟩ := box_at K.z
          obtain ⟨sa, sb, sz⟩ := box_at K.s
          have gz := Nat.lt_of_lt_of_le K.lt.2.2.2.1 K.bz
          have bz := K.bz
          have hS : KpW wr d0 s0 s1 d0 s0 s1 g0 i (.func (.func op) #[] #[]) wr := ⟨sa, sb, sa, sb, hk, ⟨sz, sz, gz⟩, Below.refl _ _⟩
          go_region_held3 (fun w' => w'.cell? ⟨d0, 0, none⟩ = some (.int .i64 s0) ∧ w'.cell? ⟨d0, 1, none⟩ = some (.int .i64 s1) ∧ w'.cell? ⟨d0, 0, none⟩ = some (.int .i64 s0) ∧ w'.cell? ⟨d0, 1, none⟩ = some (.int .i64 s1) ∧ w'.cell? ⟨g0, i, none⟩ = some (.func (.func op) #[] #[]) ∧ (d0 < wr.heap.size ∧ d0 < wr.heap.size ∧ g0 < wr.heap.size) ∧ Below wr.heap.size wr w')
            ((refine KpW.call hS ?_; (repeat' (first | (with_reducible exact Below.refl _ _) | (with_reducible refine Below.drew ?_) | (with_reducible refine Below.alloc ?_ ?_ _) | (with_reducible refine Below.setCell ?_ ?_ _) | (with_reducible refine Below.trans ?_ (hbn.mono ?_)))); all_goals (first | (simp; done) | (simp; omega) | omega)))
            (first | (go_simp; (with_reducible refine (RetT.at CP'.out _).mono ?_); rintro e wn ⟨rfl, hbn⟩; have hcn := (bcellB hbn).1; have hfn := (bcellB hbn).2; have hzn := hbn.size; (try simp at hzn); (try (have hzn2 : wr.heap.size < wn.heap.size := by omega))) | fail)
          all_goals go_wp2_with fail
          all_goals go_meet
          all_goals
            case rel =>
              refine ⟨_, rfl, rfl, ?_, ?_, K.call ?_⟩
              · (repeat' (first | ((with_reducible refine Box.freshAt ?_ _ _ _); focus (simp; done)) | (with_reducible refine Box.alloc ?_ _) | (with_reducible refine Box.drew ?_) | (with_reducible refine Box.below ?_ hbn) | (with_reducible refine Box.set (l := 0) (h := 0) ?_ _ _) | ((with_reducible refine Box.other ?_ ?_ _ _); rotate_left; focus (first | omega | (simp; omega)))))
              · (first | omega | (simp; omega))
              · ((repeat' (first | (with_reducible exact Below.refl _ _) | (with_reducible refine Below.drew ?_) | (with_reducible refine Below.alloc ?_ ?_ _) | (with_reducible refine Below.setCell ?_ ?_ _) | (with_reducible refine Below.trans ?_ (hbn.mono ?_)))); all_goals (first | (simp; done) | (simp; omega) | omega))
      case rest =>
        obtain ⟨g1, rfl, rfl, X0, hx0, K⟩ := hcut
        have hk : wc.cell? ⟨g0, i, none⟩ = some (.func (.func op) #[] #[]) := by have := K.f i hlt; rw [← HOP.out] at this; exact this
        go_wp2_with fail
        go_cut [14, 15] (fun s14 s15 wx => ∃ g2 : Nat, s14 = .pointer (some ⟨g2, 0, none⟩) ∧ s15 = .int .i64 qe ∧ Box g2 q0 q1 wx ∧ B0 ≤ g2 ∧ Box g1 p0 p1 wx ∧ g1 ≠ g2 ∧ Kw w B0 w.heap.size (w.heap.size + 1) d0 g0 5 y0 y1 z0 z1 s0 s1 fo1 wx)
        case first =>
          as_aux_lemma =>
            obtain ⟨ya, yb, yz⟩ := box_at K.y
            obtain ⟨za, zb, zz⟩ := box_at K.z
            obtain ⟨sa, sb, sz⟩ := box_at K.s
            have gz := Nat.lt_of_lt_of_le K.lt.2.2.2.1 K.bz
            have bz := K.bz
            have zx0 := X0.2.2.2.2
            have hS : KpW wc w.heap.size y0 y1 w.heap.size y0 y1 g0 i (.func (.func op) #[] #[]) wc := ⟨ya, yb, ya, yb, hk, ⟨yz, yz, gz⟩, Below.refl _ _⟩
            go_region_held3 (fun w' => w'.cell? ⟨w.heap.size, 0, none⟩ = some (.int .i64 y0) ∧ w'.cell? ⟨w.heap.size, 1, none⟩ = some (.int .i64 y1) ∧ w'.cell? ⟨w.heap.size, 0, none⟩ = some (.int .i64 y0) ∧ w'.cell? ⟨w.heap.size, 1, none⟩ = some (.int .i64 y1) ∧ w'.cell? ⟨g0, i, none⟩ = some (.func (.func op) #[] #[]) ∧ (w.heap.size < wc.heap.size ∧ w.heap.size < wc.heap.size ∧ g0 < wc.heap.size) ∧ Below wc.heap.size wc w')
              ((refine KpW.call hS ?_; (repeat' (first | (with_reducible exact Below.refl _ _) | (with_reducible refine Below.drew ?_) | (with_reducible refine Below.alloc ?_ ?_ _) | (with_reducible refine Below.setCell ?_ ?_ _) | (with_reducible refine Below.trans ?_ (hbn.mono ?_)))); all_goals (first | (simp; done) | (simp; omega) | omega)))
              (first | (go_simp; (with_reducible refine (RetT.at CQ'.out _).mono ?_); rintro e wn ⟨rfl, hbn⟩; have hcn := (bcellB hbn).1; have hfn := (bcellB hbn).2; have hzn := hbn.size; (try simp at hzn); (try (have hzn2 : wc.heap.size < wn.heap.size := by omega))) | fail)
            all_goals go_wp2_with fail
            all_goals go_meet
            all_goals
              case rel =>
                refine ⟨_, rfl, rfl, ?_, ?_, ?_, ?_, K.call ?_⟩
                · (repeat' (first | ((with_reducible refine Box.freshAt ?_ _ _ _); focus (simp; done)) | (with_reducible refine Box.alloc ?_ _) | (with_reducible refine Box.drew ?_) | (with_reducible refine Box.below ?_ hbn) | (with_reducible refine Box.set (l := 0) (h := 0) ?_ _ _) | ((with_reducible refine Box.other ?_ ?_ _ _); rotate_left; focus (first | omega | (simp; omega)))))
                · (first | omega | (simp; omega))
                · refine X0.below ?_
                  ((repeat' (first | (with_reducible exact Below.refl _ _) | (with_reducible refine Below.drew ?_) | (with_reducible refine Below.alloc ?_ ?_ _) | (with_reducible refine Below.setCell ?_ ?_ _) | (with_reducible refine Below.trans ?_ (hbn.mono ?_)))); all_goals (first | (simp; done) | (simp; omega) | omega))
                · (first | omega | (simp; omega))
                · ((repeat' (first | (with_reducible exact Below.refl _ _) | (with_reducible refine Below.drew ?_) | (with_reducible refine Below.alloc ?_ ?_ _) | (with_reducible refine Below.setCell ?_ ?_ _) | (with_reducible refine Below.trans ?_ (hbn.mono ?_)))); all_goals (first | (simp; done) | (simp; omega) | omega))
        case rest =>
          obtain ⟨g2, rfl, rfl, X1, hx1, X0, hx01, K⟩ := hcut
          obtain ⟨pa, pb, pz⟩ := box_at X0
          obtain ⟨qa, qb, qz⟩ := box_at X1
          by_cases hz : qe = 0
          · obtain ⟨he, l0, l1⟩ := HS.out hz
            subst hz he
            go_wp2_with fail
            refine (within_yes p0 p1 q0 q1 l0 l1 _).mono ?_
            rintro e wz ⟨rfl, hbz⟩
            go_wp2_with fail
            go_roundg (5 - (i + 1))
            case measure => omega
            case rel => exact ⟨i + 1, by omega, rfl, by go_num, K.call hbz.below⟩
          · have hb : (qe == 0) = false := by simp; omega
            go_wp2_with fail
            go_roundg (5 - (i + 1))
            case measure => omega
            case rel => exact ⟨i + 1, by omega, rfl, by go_num, K⟩
    · obtain rfl : i = 5 := by omega
      go_wp2_with fail
      obtain ⟨W2, hW2⟩ : ∃ W2, W2 = wr.alloc (.cells #[.func (.func 30) #[] #[], .func (.func 32) #[] #[], .func (.func 34) #[] #[], .func (.func 36) #[] #[]] 51) := ⟨_, rfl⟩
      have KS : Kw w (wr.heap.size + 1) w.heap.size (w.heap.size + 1) d0 wr.heap.size 4 y0 y1 z0 z1 s0 s1 fo2 W2 := by
        rw [hW2]
        obtain ⟨l1, l2, l3, l4, l5⟩ := K.lt
        have bz := K.bz
        refine ⟨K.y.alloc _, K.z.alloc _, K.s.alloc _, ?_, K.own.alloc (Below.size K.own) _, by omega, by simp⟩
        intro i hi
        rcases (by omega : i = 0 ∨ i = 1 ∨ i = 2 ∨ i = 3) with rfl | rfl | rfl | rfl <;> simp [go_sem, fo2]
      rw [← hW2]
      clear hW2 K
      generalize wr.heap.size + 1 = B1 at KS
      generalize wr.heap.size = g3 at KS ⊢
      go_loopg [17] 4 (fun n i' wr => ∃ i : Nat, i ≤ 4 ∧ n = 4 - i ∧ i' = .int .i64 i ∧ Kw w B1 w.heap.size (w.heap.size + 1) d0 g3 4 y0 y1 z0 z1 s0 s1 fo2 wr)
      case atStart => exact ⟨0, by omega, by omega, rfl, KS⟩
      case round =>
        clear KS
        obtain ⟨i, hi, hn, rfl, K⟩ := hrel
        by_cases hlt : i < 4
        · obtain ⟨p0, p1, pe, q0, q1, qe, CP, CQ, hs⟩ := D2.out i hlt
          obtain ⟨r0, r1, re, t0, t1, te, CR, CT, hs2⟩ := D3.out i hlt
          have hk := K.f i hlt
          have eg := enters2 i hlt
          have hi5 : (i : Int) < 4 := by omega
          obtain ⟨op, hop⟩ : ∃ op, op = fo2 i := ⟨_, rfl⟩
          rw [← hop] at CP CQ CR CT hk eg
          have HOP := Lib.hid hop
          clear hop
          have CP' := Lib.hid CP
          have CQ' := Lib.hid CQ
          have CR' := Lib.hid CR
          have CT' := Lib.hid CT
          have HS := Lib.hid hs
          have HS2 := Lib.hid hs2
          unfold Enters at eg
          clear CP CQ CR CT hs hs2
          go_wp2_with fail
          go_cut [18, 19] (fun s18 s19 wx => ∃ g1 : Nat, s18 = .pointer (some ⟨g1, 0, none⟩) ∧ s19 = .int .i64 pe ∧ Box g1 p0 p1 wx ∧ B1 ≤ g1 ∧ Kw w B1 w.heap.size (w.heap.size + 1) d0 g3 4 y0 y1 z0 z1 s0 s1 fo2 wx)
          case first =>
            as_aux_lemma =>
              obtain ⟨ya, yb, yz⟩ := box_at K.y
              obtain ⟨za, zb, zz⟩ := box_at K.z
              obtain ⟨sa, sb, sz⟩ := box_at K.s
              have gz := Nat.lt_of_lt_of_le K.lt.2.2.2.1 K.bz
              have bz := K.bz
              have hS : KpW wr d0 s0 s1 (w.heap.size + 1) z0 z1 g3 i (.func (.func op) #[] #[]) wr := ⟨sa, sb, za, zb, hk, ⟨sz, zz, gz⟩, Below.refl _ _⟩
              go_region_held3 (fun w' => w'.cell? ⟨d0, 0, none⟩ = some (.int .i64 s0) ∧ w'.cell? ⟨d0, 1, none⟩ = some (.int .i64 s1) ∧ w'.cell? ⟨w.heap.size + 1, 0, none⟩ = some (.int .i64 z0) ∧ w'.cell? ⟨w.heap.size + 1, 1, none⟩ = some (.int .i64 z1) ∧ w'.cell? ⟨g3, i, none⟩ = some (.func (.func op) #[] #[]) ∧ (d0 < wr.heap.size ∧ w.heap.size + 1 < wr.heap.size ∧ g3 < wr.heap.size) ∧ Below wr.heap.size wr w')
                ((refine KpW.call hS ?_; (repeat' (first | (with_reducible exact Below.refl _ _) | (with_reducible refine Below.drew ?_) | (with_reducible refine Below.alloc ?_ ?_ _) | (with_reducible refine Below.setCell ?_ ?_ _) | (with_reducible refine Below.trans ?_ (hbn.mono ?_)))); all_goals (first | (simp; done) | (simp; omega) | omega)))
                (first | (go_simp; (with_reducible refine (RetT.at CP'.out _).mono ?_); rintro e wn ⟨rfl, hbn⟩; have hcn := (bcellB hbn).1; have hfn := (bcellB hbn).2; have hzn := hbn.size; (try simp at hzn); (try (have hzn2 : wr.heap.size < wn.heap.size := by omega))) | fail)
              all_goals go_wp2_with fail
              all_goals go_meet
              all_goals
                case rel =>
                  refine ⟨_, rfl, rfl, ?_, ?_, K.call ?_⟩
                  · (repeat' (first | ((with_reducible refine Box.freshAt ?_ _ _ _); focus (simp; done)) | (with_reducible refine Box.alloc ?_ _) | (with_reducible refine Box.drew ?_) | (with_reducible refine Box.below ?_ hbn) | (with_reducible refine Box.set (l := 0) (h := 0) ?_ _ _) | ((with_reducible refine Box.other ?_ ?_ _ _); rotate_left; focus (first | omega | (simp; omega)))))
                  · (first | omega | (simp; omega))
                  · ((repeat' (first | (with_reducible exact Below.refl _ _) | (with_reducible refine Below.drew ?_) | (with_reducible refine Below.alloc ?_ ?_ _) | (with_reducible refine Below.setCell ?_ ?_ _) | (with_reducible refine Below.trans ?_ (hbn.mono ?_)))); all_goals (first | (simp; done) | (simp; omega) | omega))
          case rest =>
            obtain ⟨g1, rfl, rfl, X0, hx0, K⟩ := hcut
            have hk : wc.cell? ⟨g3, i, none⟩ = some (.func (.func op) #[] #[]) := by have := K.f i hlt; rw [← HOP.out] at this; exact this
            go_wp2_with fail
            go_cut [20, 21] (fun s20 s21 wx => ∃ g2 : Nat, s20 = .pointer (some ⟨g2, 0, none⟩) ∧ s21 = .int .i64 qe ∧ Box g2 q0 q1 wx ∧ B1 ≤ g2 ∧ Box g1 p0 p1 wx ∧ g1 ≠ g2 ∧ Kw w B1 w.heap.size (w.heap.size + 1) d0 g3 4 y0 y1 z0 z1 s0 s1 fo2 wx)
            case first =>
              as_aux_lemma =>
                obtain ⟨ya, yb, yz⟩ := box_at K.y
                obtain ⟨za, zb, zz⟩ := box_at K.z
                obtain ⟨sa, sb, sz⟩ := box_at K.s
                have gz := Nat.lt_of_lt_of_le K.lt.2.2.2.1 K.bz
                have bz := K.bz
                have zx0 := X0.2.2.2.2
                have hS : KpW wc w.heap.size y0 y1 (w.heap.size + 1) z0 z1 g3 i (.func (.func op) #[] #[]) wc := ⟨ya, yb, za, zb, hk, ⟨yz, zz, gz⟩, Below.refl _ _⟩
                go_region_held3 (fun w' => w'.cell? ⟨w.heap.size, 0, none⟩ = some (.int .i64 y0) ∧ w'.cell? ⟨w.heap.size, 1, none⟩ = some (.int .i64 y1) ∧ w'.cell? ⟨w.heap.size + 1, 0, none⟩ = some (.int .i64 z0) ∧ w'.cell? ⟨w.heap.size + 1, 1, none⟩ = some (.int .i64 z1) ∧ w'.cell? ⟨g3, i, none⟩ = some (.func (.func op) #[] #[]) ∧ (w.heap.size < wc.heap.size ∧ w.heap.size + 1 < wc.heap.size ∧ g3 < wc.heap.size) ∧ Below wc.heap.size wc w')
                  ((refine KpW.call hS ?_; (repeat' (first | (with_reducible exact Below.refl _ _) | (with_reducible refine Below.drew ?_) | (with_reducible refine Below.alloc ?_ ?_ _) | (with_reducible refine Below.setCell ?_ ?_ _) | (with_reducible refine Below.trans ?_ (hbn.mono ?_)))); all_goals (first | (simp; done) | (simp; omega) | omega)))
                  (first | (go_simp; (with_reducible refine (RetT.at CQ'.out _).mono ?_); rintro e wn ⟨rfl, hbn⟩; have hcn := (bcellB hbn).1; have hfn := (bcellB hbn).2; have hzn := hbn.size; (try simp at hzn); (try (have hzn2 : wc.heap.size < wn.heap.size := by omega))) | fail)
                all_goals go_wp2_with fail
                all_goals go_meet
                all_goals
                  case rel =>
                    refine ⟨_, rfl, rfl, ?_, ?_, ?_, ?_, K.call ?_⟩
                    · (repeat' (first | ((with_reducible refine Box.freshAt ?_ _ _ _); focus (simp; done)) | (with_reducible refine Box.alloc ?_ _) | (with_reducible refine Box.drew ?_) | (with_reducible refine Box.below ?_ hbn) | (with_reducible refine Box.set (l := 0) (h := 0) ?_ _ _) | ((with_reducible refine Box.other ?_ ?_ _ _); rotate_left; focus (first | omega | (simp; omega)))))
                    · (first | omega | (simp; omega))
                    · refine X0.below ?_
                      ((repeat' (first | (with_reducible exact Below.refl _ _) | (with_reducible refine Below.drew ?_) | (with_reducible refine Below.alloc ?_ ?_ _) | (with_reducible refine Below.setCell ?_ ?_ _) | (with_reducible refine Below.trans ?_ (hbn.mono ?_)))); all_goals (first | (simp; done) | (simp; omega) | omega))
                    · (first | omega | (simp; omega))
                    · ((repeat' (first | (with_reducible exact Below.refl _ _) | (with_reducible refine Below.drew ?_) | (with_reducible refine Below.alloc ?_ ?_ _) | (with_reducible refine Below.setCell ?_ ?_ _) | (with_reducible refine Below.trans ?_ (hbn.mono ?_)))); all_goals (first | (simp; done) | (simp; omega) | omega))
            case rest =>
              obtain ⟨g2, rfl, rfl, X1, hx1, X0, hx01, K⟩ := hcut
              go_upto_region 19 with (fail)
              go_cut [148] (fun s148 wx => s148 = .bool false ∧ Box g1 p0 p1 wx ∧ Box g2 q0 q1 wx ∧ Kw w B1 w.heap.size (w.heap.size + 1) d0 g3 4 y0 y1 z0 z1 s0 s1 fo2 wx)
              case first =>
                as_aux_lemma =>
                  obtain ⟨pa, pb, pz⟩ := box_at X0
                  obtain ⟨qa, qb, qz⟩ := box_at X1
                  by_cases hz : qe = 0
                  · obtain ⟨he, l0, l1⟩ := HS.out hz
                    subst hz he
                    go_wp2_with fail
                    refine (within_yes p0 p1 q0 q1 l0 l1 _).mono ?_
                    rintro e wz ⟨rfl, hbz⟩
                    go_wp2_with fail
                    go_meet
                    case rel => exact ⟨rfl, X0.below hbz.below, X1.below hbz.below, K.call hbz.below⟩
                  · have hb : (qe == 0) = false := by simp; omega
                    go_wp2_with fail
                    go_meet
                    case rel => exact ⟨rfl, X0, X1, K⟩
              case rest =>
                obtain ⟨rfl, X0, X1, K⟩ := hcut
                have hk : wc.cell? ⟨g3, i, none⟩ = some (.func (.func op) #[] #[]) := by have := K.f i hlt; rw [← HOP.out] at this; exact this
                go_wp2_with fail
                have XS := X0
                have hst := hx0
                have X0 := X1
                go_cut [19] (fun s19 wx => s19 = .int .i64 re ∧ Box g1 r0 r1 wx ∧ Box g2 q0 q1 wx ∧ Kw w B1 w.heap.size (w.heap.size + 1) d0 g3 4 y0 y1 z0 z1 s0 s1 fo2 wx)
                case first =>
                  as_aux_lemma =>
                    obtain ⟨ya, yb, yz⟩ := box_at K.y
                    obtain ⟨za, zb, zz⟩ := box_at K.z
                    obtain ⟨sa, sb, sz⟩ := box_at K.s
                    have gz := Nat.lt_of_lt_of_le K.lt.2.2.2.1 K.bz
                    have bz := K.bz
                    have zx0 := X0.2.2.2.2
                    obtain ⟨v0, v1, v2, v3, v4⟩ := id XS
                    have hst2 : w.heap.size + 1 ≠ g1 ∧ d0 ≠ g1 ∧ g3 ≠ g1 := (by have := K.lt; omega)
                    have hS : KpY (w.heap.size + 1) z0 z1 d0 s0 s1 g3 i (.func (.func op) #[] #[]) g1 wc := ⟨za, zb, sa, sb, hk, rd_of v0, rd_of v1, v2, v3, ⟨zz, sz, gz, v4⟩⟩
                    go_region_held3 (fun w' => w'.cell? ⟨w.heap.size + 1, 0, none⟩ = some (.int .i64 z0) ∧ w'.cell? ⟨w.heap.size + 1, 1, none⟩ = some (.int .i64 z1) ∧ w'.cell? ⟨d0, 0, none⟩ = some (.int .i64 s0) ∧ w'.cell? ⟨d0, 1, none⟩ = some (.int .i64 s1) ∧ w'.cell? ⟨g3, i, none⟩ = some (.func (.func op) #[] #[]) ∧ w'.cell? ⟨g1, 0, none⟩ = some (.int .i64 (rd w' g1 0)) ∧ w'.cell? ⟨g1, 1, none⟩ = some (.int .i64 (rd w' g1 1)) ∧ w'.frozen? ⟨g1, 0, none⟩ = false ∧ w'.frozen? ⟨g1, 1, none⟩ = false ∧ (w.heap.size + 1 < w'.heap.size ∧ d0 < w'.heap.size ∧ g3 < w'.heap.size ∧ g1 < w'.heap.size))
                      (first | exact KpY.call hS (Below.refl _ _).drew | exact KpY.call (by assumption) hbn | exact KpY.store (by assumption) hst2.1 hst2.2.1 hst2.2.2 _ _ | fail)
                      (first | (go_simp; (with_reducible refine (RetT.at CR'.out _).mono ?_); rintro e wn ⟨rfl, hbn⟩) | fail)
                    all_goals go_wp2_with fail
                    all_goals go_meet
                    all_goals
                      case rel =>
                        refine ⟨rfl, (Box.below (w := wc.drew) XS hbn).set _ _, (Box.below (w := wc.drew) X0 hbn).other (by omega) _ _, (K.call (w2 := wn) ((Below.refl _ _).drew.trans hbn)).put hst _ _⟩
                case rest =>
                  obtain ⟨rfl, XP, XQ, K⟩ := hcut
                  have hk : wc.cell? ⟨g3, i, none⟩ = some (.func (.func op) #[] #[]) := by have := K.f i hlt; rw [← HOP.out] at this; exact this
                  go_wp2_with fail
                  have XS := XQ
                  have hst := hx1
                  have X0 := XP
                  have hx10 := Ne.symm hx01
                  go_cut [21] (fun s21 wx => s21 = .int .i64 te ∧ Box g2 t0 t1 wx ∧ Box g1 r0 r1 wx ∧ Kw w B1 w.heap.size (w.heap.size + 1) d0 g3 4 y0 y1 z0 z1 s0 s1 fo2 wx)
                  case first =>
                    as_aux_lemma =>
                      obtain ⟨ya, yb, yz⟩ := box_at K.y
                      obtain ⟨za, zb, zz⟩ := box_at K.z
                      obtain ⟨sa, sb, sz⟩ := box_at K.s
                      have gz := Nat.lt_of_lt_of_le K.lt.2.2.2.1 K.bz
                      have bz := K.bz
                      have zx0 := X0.2.2.2.2
                      obtain ⟨v0, v1, v2, v3, v4⟩ := id XS
                      have hst2 : w.heap.size + 1 ≠ g2 ∧ w.heap.size ≠ g2 ∧ g3 ≠ g2 := (by have := K.lt; omega)
                      have hS : KpY (w.heap.size + 1) z0 z1 w.heap.size y0 y1 g3 i (.func (.func op) #[] #[]) g2 wc := ⟨za, zb, ya, yb, hk, rd_of v0, rd_of v1, v2, v3, ⟨zz, yz, gz, v4⟩⟩
                      go_region_held3 (fun w' => w'.cell? ⟨w.heap.size + 1, 0, none⟩ = some (.int .i64 z0) ∧ w'.cell? ⟨w.heap.size + 1, 1, none⟩ = some (.int .i64 z1) ∧ w'.cell? ⟨w.heap.size, 0, none⟩ = some (.int .i64 y0) ∧ w'.cell? ⟨w.heap.size, 1, none⟩ = some (.int .i64 y1) ∧ w'.cell? ⟨g3, i, none⟩ = some (.func (.func op) #[] #[]) ∧ w'.cell? ⟨g2, 0, none⟩ = some (.int .i64 (rd w' g2 0)) ∧ w'.cell? ⟨g2, 1, none⟩ = some (.int .i64 (rd w' g2 1)) ∧ w'.frozen? ⟨g2, 0, none⟩ = false ∧ w'.frozen? ⟨g2, 1, none⟩ = false ∧ (w.heap.size + 1 < w'.heap.size ∧ w.heap.size < w'.heap.size ∧ g3 < w'.heap.size ∧ g2 < w'.heap.size))
                        (first | exact KpY.call hS (Below.refl _ _).drew | exact KpY.call (by assumption) hbn | exact KpY.store (by assumption) hst2.1 hst2.2.1 hst2.2.2 _ _ | fail)
                        (first | (go_simp; (with_reducible refine (RetT.at CT'.out _).mono ?_); rintro e wn ⟨rfl, hbn⟩) | fail)
                      all_goals go_wp2_with fail
                      all_goals go_meet
                      all_goals
                        case rel =>
                          refine ⟨rfl, (Box.below (w := wc.drew) XS hbn).set _ _, (Box.below (w := wc.drew) X0 hbn).other (by omega) _ _, (K.call (w2 := wn) ((Below.refl _ _).drew.trans hbn)).put hst _ _⟩
                  case rest =>
                    obtain ⟨rfl, XQ2, XP2, K⟩ := hcut
                    obtain ⟨pa, pb, pz⟩ := box_at XP2
                    obtain ⟨qa, qb, qz⟩ := box_at XQ2
                    by_cases hz : te = 0
                    · obtain ⟨he, l0, l1⟩ := HS2.out hz
                      subst hz he
                      go_wp2_with fail
                      refine (within_yes r0 r1 t0 t1 l0 l1 _).mono ?_
                      rintro e wz ⟨rfl, hbz⟩
                      go_wp2_with fail
                      go_roundg (4 - (i + 1))
                      case measure => omega
                      case rel => exact ⟨i + 1, by omega, rfl, by go_num, K.call hbz.below⟩
                    · have hb : (te == 0) = false := by simp; omega
                      go_wp2_with fail
                      go_roundg (4 - (i + 1))
                      case measure => omega
                      case rel => exact ⟨i + 1, by omega, rfl, by go_num, K⟩
        · obtain rfl : i = 4 := by omega
          go_wp2_with fail
          refine (awake_any _ (T0.out.below K.own)).mono ?_
          rintro e wz ⟨rfl, hz⟩
          go_wp2_with fail
          go_ret
          exact ⟨rfl, K.own.trans (hz.mono K.own.size)⟩
end Go.Proofs.YtdikelijnachjaaDoor
