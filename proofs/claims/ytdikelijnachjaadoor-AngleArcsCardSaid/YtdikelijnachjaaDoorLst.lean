/- The reference's sine of an angle up to a right one. -/
import Derived.Test.YtdikelijnachjaaDoorLti
import Derived.Test.YtdikelijnachjaaDoorLsc
import Derived.Test.YtdikelijnachjaaDoorLmi
import Derived.IntWalk
import Derived.BigRegion
import Derived.Deep.LoopGhost
import Derived.Deep.DrawnRows
import Derived.Deep.DeepCutAuto
namespace Go.Proofs.YtdikelijnachjaaDoor
set_option linter.unusedSimpArgs false
set_option linter.unusedVariables false
open Go.RowKit SineNear
attribute [local go_sem ↓] Go.wp_at_zero Go.wp_at_succ


/-- a call that returns v, and makes memory of its own alone -/
def RetL (f : FuncId) (args : Array Value) (v : Value) : Prop := ∀ w : World, Calls Tryd.prog f args w fun e w' => e = .returned v ∧ Own w.heap.size w w'
theorem RetL.at {f : FuncId} {args : Array Value} {v : Value} (h : RetL f args v) (w : World) : Calls Tryd.prog f args w fun e w' => e = .returned v ∧ Own w.heap.size w w' := h w

theorem lplus_any (x y : Nat → Int) (hx : Nm x) (hy : Nm y) (hv : V6 x + V6 y < 1000000000000000000000000000000000000000000000000000000) :
    ∃ r, RetL 97 #[arr6 x, arr6 y] (arr6 r) ∧ Nm r ∧ V6 r = V6 x + V6 y := by
  obtain ⟨r, c, h, hr, e⟩ := plus_t x y hx hy hv
  exact ⟨r, fun w => lplus_walk x y r c w hx hy h, hr, e⟩
theorem lminus_any (x y : Nat → Int) (hx : Nm x) (hy : Nm y) (hv : V6 y ≤ V6 x) :
    ∃ r, RetL 98 #[arr6 x, arr6 y] (arr6 r) ∧ Nm r ∧ V6 r = V6 x - V6 y := by
  obtain ⟨r, c, h, hr, e⟩ := minus_t x y hx hy hv
  exact ⟨r, fun w => lminus_walk x y r c w hx hy hr h, hr, e⟩
theorem lscaled_any (x : Nat → Int) (n d : Int) (hx : Nm x) (hn : 0 < n ∧ n < 1000000000) (hd : 0 < d ∧ d < 1000000000) (hv : V6 x * n / d < 1000000000000000000000000000000000000000000000000000000) :
    ∃ q, RetL 94 #[arr6 x, .int .i64 n, .int .i64 d] (arr6 q) ∧ Nm q ∧ V6 q = V6 x * n / d := by
  obtain ⟨p, c, q, f, h, hq, e⟩ := scaled_t x n d hx hn hd hv
  exact ⟨q, fun w => lscaled_walk x p c q f n d w hn hd hx hq h, hq, e⟩
theorem ltimes_any (x y : Nat → Int) (hx : Nm x) (hy : Nm y) (hv : V6 x * V6 y / 1000000000000000000000000000000000000000000000 < 1000000000000000000000000000000000000000000000000000000) :
    ∃ t, RetL 96 #[arr6 x, arr6 y] (arr6 t) ∧ Nm t ∧ V6 t = V6 x * V6 y / 1000000000000000000000000000000000000000000000 := by
  obtain ⟨t, g, h, ht, e⟩ := times_t x y hx hy hv
  exact ⟨t, fun w => ltimes_walk x y t g w hx hy ht h, ht, e⟩

/-- the ratio of a circle's circumference to its diameter, in 45 digits -/
def piA : Nat → Int := m6 3 141592653 589793238 462643383 279502884 197169399
theorem pi_nm : Nm piA := nm6 (by decide) (by decide) (by decide) (by decide) (by decide) (by decide)
theorem pi_v : V6 piA = (PI45 : Int) := by decide +kernel
set_option maxHeartbeats 400000 in
theorem pi_walk (p0 p1 p2 p3 p4 p5 : Int) (h0 : 3 = p0) (h1 : 141592653 = p1) (h2 : 589793238 = p2) (h3 : 462643383 = p3) (h4 : 279502884 = p4) (h5 : 197169399 = p5) (w : World) :
    Calls Tryd.prog 95 #[] w fun e w' => e = .returned (.agg #[.int .i64 p0, .int .i64 p1, .int .i64 p2, .int .i64 p3, .int .i64 p4, .int .i64 p5]) ∧ Own w.heap.size w w' := by
  go_enter Tryd.func95, Tryd.ntmps95
  go_wp2_with fail
  refine bodyPost_ret (v := .agg #[.int .i64 3, .int .i64 141592653, .int .i64 589793238, .int .i64 462643383, .int .i64 279502884, .int .i64 197169399]) (by simp [results, Tryd.results95, go_sem, ← h0, ← h1, ← h2, ← h3, ← h4, ← h5]) rfl ⟨by rw [h0, h1, h2, h3, h4, h5], ?_⟩
  exact (Own.refl _ _).alloc (Nat.le_refl _) _
theorem pi_any : RetL 95 #[] (arr6 piA) := fun w => pi_walk (piA 0) (piA 1) (piA 2) (piA 3) (piA 4) (piA 5) rfl rfl rfl rfl rfl rfl w

/-- what the rounds of the series keep -/
structure St (w0 : World) (b2 b4 g5 g6 g7 : Nat) (sq t u d : Nat → Int) (w : World) : Prop where
  r : Box b2 0 0 w
  q : Arr b4 6 sq w
  u : Arr g5 6 u w
  d : Arr g6 6 d w
  t : Arr g7 6 t w
  own : Own w0.heap.size w0 w
  n1 : b2 ≠ g5 ∧ b2 ≠ g6 ∧ b2 ≠ g7 ∧ b4 ≠ g5 ∧ b4 ≠ g6 ∧ b4 ≠ g7
  n2 : g5 ≠ g6 ∧ g5 ≠ g7 ∧ g6 ≠ g7
  n3 : w0.heap.size ≤ g5 ∧ w0.heap.size ≤ g6 ∧ w0.heap.size ≤ g7 ∧ w0.heap.size ≤ b2
theorem St.call {w0 w w1 : World} {b2 b4 g5 g6 g7 : Nat} {sq t u d : Nat → Int} (k : St w0 b2 b4 g5 g6 g7 sq t u d w) (h : Own w.heap.size w w1) : St w0 b2 b4 g5 g6 g7 sq t u d w1 :=
  ⟨k.r.below h.below, k.q.below h.below, k.u.below h.below, k.d.below h.below, k.t.below h.below, k.own.trans (h.mono k.own.size), k.n1, k.n2, k.n3⟩
theorem St.setT {w0 w : World} {b2 b4 g5 g6 g7 : Nat} {sq t u d : Nat → Int} (k : St w0 b2 b4 g5 g6 g7 sq t u d w) (g : Nat → Int) : St w0 b2 b4 g5 g6 g7 sq g u d ((((((w.setCell ⟨g7, 0, none⟩ (.int .i64 (g 0))).setCell ⟨g7, 1, none⟩ (.int .i64 (g 1))).setCell ⟨g7, 2, none⟩ (.int .i64 (g 2))).setCell ⟨g7, 3, none⟩ (.int .i64 (g 3))).setCell ⟨g7, 4, none⟩ (.int .i64 (g 4))).setCell ⟨g7, 5, none⟩ (.int .i64 (g 5))) :=
  ⟨k.r.far6 k.n1.2.2.1 g, k.q.far6 k.n1.2.2.2.2.2 g, k.u.far6 k.n2.2.1 g, k.d.far6 k.n2.2.2 g, k.t.put6 g, k.own.put6 k.n3.2.2.1 g, k.n1, k.n2, k.n3⟩
theorem St.setU {w0 w : World} {b2 b4 g5 g6 g7 : Nat} {sq t u d : Nat → Int} (k : St w0 b2 b4 g5 g6 g7 sq t u d w) (g : Nat → Int) : St w0 b2 b4 g5 g6 g7 sq t g d ((((((w.setCell ⟨g5, 0, none⟩ (.int .i64 (g 0))).setCell ⟨g5, 1, none⟩ (.int .i64 (g 1))).setCell ⟨g5, 2, none⟩ (.int .i64 (g 2))).setCell ⟨g5, 3, none⟩ (.int .i64 (g 3))).setCell ⟨g5, 4, none⟩ (.int .i64 (g 4))).setCell ⟨g5, 5, none⟩ (.int .i64 (g 5))) :=
  ⟨k.r.far6 k.n1.1 g, k.q.far6 k.n1.2.2.2.1 g, k.u.put6 g, k.d.far6 (Ne.symm k.n2.1) g, k.t.far6 (Ne.symm k.n2.2.1) g, k.own.put6 k.n3.1 g, k.n1, k.n2, k.n3⟩
theorem St.setD {w0 w : World} {b2 b4 g5 g6 g7 : Nat} {sq t u d : Nat → Int} (k : St w0 b2 b4 g5 g6 g7 sq t u d w) (g : Nat → Int) : St w0 b2 b4 g5 g6 g7 sq t u g ((((((w.setCell ⟨g6, 0, none⟩ (.int .i64 (g 0))).setCell ⟨g6, 1, none⟩ (.int .i64 (g 1))).setCell ⟨g6, 2, none⟩ (.int .i64 (g 2))).setCell ⟨g6, 3, none⟩ (.int .i64 (g 3))).setCell ⟨g6, 4, none⟩ (.int .i64 (g 4))).setCell ⟨g6, 5, none⟩ (.int .i64 (g 5))) :=
  ⟨k.r.far6 k.n1.2.1 g, k.q.far6 k.n1.2.2.2.2.1 g, k.u.far6 k.n2.1 g, k.d.put6 g, k.t.far6 (Ne.symm k.n2.2.2) g, k.own.put6 k.n3.2.1 g, k.n1, k.n2, k.n3⟩

theorem cast_term (t sq k : Nat) (hk : 1 ≤ k) : ((term t sq k : Nat) : Int) = (t : Int) * (sq : Int) / 1000000000000000000000000000000000000000000000 * 1 / (2 * (k : Int) * (2 * (k : Int) + 1)) := by
  show ((t * sq / U / (2 * k * (2 * k + 1)) : Nat) : Int) = _
  rw [Int.mul_one, Int.natCast_ediv, Int.natCast_ediv]
  push_cast
  rfl

/-- the values of the three sums of a round, and that they are well below 10^54 -/
structure SumB (a k : Nat) : Prop where
  t : (tT (refQ a) (refX a) k : Int) ≤ 1570796326794896619231321691639751442098584700
  u : (upS (refQ a) (refX a) k : Int) ≤ 33000000000000000000000000000000000000000000000
  d : (dnS (refQ a) (refX a) k : Int) ≤ 33000000000000000000000000000000000000000000000
theorem sum_b (a k : Nat) (ha : a ≤ 90000000) (hk : k ≤ 20) : SumB a k := by
  have hx := refX_le a ha
  have hq := refQ_le a ha
  have h1 := tT_le (refQ a) (refX a) hq k
  obtain ⟨h2, h3, _, _⟩ := ud_le (refQ a) (refX a) hq k
  have m1 := Nat.mul_le_mul (show k + 1 ≤ 21 by omega) hx
  have m2 := Nat.mul_le_mul (show k ≤ 20 by omega) hx
  exact ⟨by omega, by omega, by omega⟩
theorem ud_last (a : Nat) (ha : a ≤ 90000000) : dnS (refQ a) (refX a) 20 ≤ upS (refQ a) (refX a) 20 := by
  have := (ud_le (refQ a) (refX a) (refQ_le a ha) 20).2.2.1 rfl
  omega
end Go.Proofs.YtdikelijnachjaaDoor
