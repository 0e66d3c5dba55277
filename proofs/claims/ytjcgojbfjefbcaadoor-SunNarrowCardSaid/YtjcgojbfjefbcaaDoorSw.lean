/- Small functions on enclosures. -/
import Derived.Test.YtjcgojbfjefbcaaDoorSb
import Derived.Test.YtjcgojbfjefbcaaDoorTm
import Derived.IntWalk
import Derived.Deep.DrawnRows
namespace Go.Proofs.YtjcgojbfjefbcaaDoor
set_option linter.unusedSimpArgs false
set_option linter.unusedVariables false
open Go.RowKit SineNear
attribute [local go_sem ↓] Go.wp_at_zero Go.wp_at_succ

theorem Bd.all {B : Int} {x : P2} (h : Bd B x) : -B ≤ x.1 ∧ x.1 ≤ B ∧ -B ≤ x.2 ∧ x.2 ≤ B := by unfold Bd at h; omega

theorem only_T (a : Int) : RetT 86 #[.int .i64 a] (en (onP a)) := fun w => (only_any a w).mono fun _ _ ⟨e, o⟩ => ⟨e, o.below⟩
theorem add_T (x y : P2) (hx : Bd 4000000000000000000 x) (hy : Bd 4000000000000000000 y) : RetT 88 #[en x, en y] (en (adP x y)) := by
  intro w
  obtain ⟨a, b⟩ := x
  obtain ⟨c, d⟩ := y
  obtain ⟨x0, x1, x2, x3⟩ := hx.all
  obtain ⟨y0, y1, y2, y3⟩ := hy.all
  clear hx hy
  simp only at x0 x1 x2 x3 y0 y1 y2 y3
  go_enter Tryd.func88, Tryd.ntmps88
  go_wp2
  exact bodyPost_ret (v := en (adP (a, b) (c, d))) (by simp [results, Tryd.results88, go_sem, adP]) rfl ⟨rfl, (((Below.refl _ _).alloc (Nat.le_refl _) _).alloc (by simp) _).alloc (by simp; omega) _⟩
theorem less_T (x y : P2) (hx : Bd 4000000000000000000 x) (hy : Bd 4000000000000000000 y) : RetT 100 #[en x, en y] (en (lsP x y)) := by
  intro w
  obtain ⟨a, b⟩ := x
  obtain ⟨c, d⟩ := y
  obtain ⟨x0, x1, x2, x3⟩ := hx.all
  obtain ⟨y0, y1, y2, y3⟩ := hy.all
  clear hx hy
  simp only at x0 x1 x2 x3 y0 y1 y2 y3
  go_enter Tryd.func100, Tryd.ntmps100
  go_wp2
  exact bodyPost_ret (v := en (lsP (a, b) (c, d))) (by simp [results, Tryd.results100, go_sem, lsP]) rfl ⟨rfl, (((Below.refl _ _).alloc (Nat.le_refl _) _).alloc (by simp) _).alloc (by simp; omega) _⟩
theorem mult_T (n : Int) (x : P2) (hx : Bd 100000000000000000 x) (n0 : 0 ≤ n) (n1 : n ≤ 10) : RetT 98 #[en x, .int .i64 n] (en (muP n x)) := by
  intro w
  obtain ⟨a, b⟩ := x
  obtain ⟨x0, x1, x2, x3⟩ := hx.all
  clear hx
  simp only at x0 x1 x2 x3
  have key : ∀ z : Int, -100000000000000000 ≤ z → z ≤ 100000000000000000 → IntKind.i64.wrap (n * z) = n * z := by
    intro z z0 z1
    have p1 := Int.mul_le_mul_of_nonneg_left z1 n0
    have p2 := Int.mul_le_mul_of_nonneg_left z0 n0
    exact IntWalk.i64_in _ (by omega)
  have w1 := key a x0 x1
  have w2 := key b x2 x3
  clear key
  go_enter Tryd.func98, Tryd.ntmps98
  go_wp2
  exact bodyPost_ret (v := en (muP n (a, b))) (by simp [results, Tryd.results98, go_sem, muP]) rfl ⟨rfl, ((Below.refl _ _).alloc (Nat.le_refl _) _).alloc (by simp) _⟩
theorem sure_T (x : P2) (e : Int) : RetT 90 #[en x, .int .i64 e] (en x) := by
  intro w
  obtain ⟨a, b⟩ := x
  go_enter Tryd.func90, Tryd.ntmps90
  go_wp2
  exact bodyPost_ret (v := en (a, b)) (by simp [results, Tryd.results90, go_sem]) rfl ⟨rfl, ((Below.refl _ _).alloc (Nat.le_refl _) _).alloc (by simp) _⟩
theorem slack_T (x : P2) (hx : Bd 4000000000000000000 x) : RetT 99 #[en x] (en (slP x)) := by
  intro w
  have C := Lib.hid (add_T x (-10000, 10000) hx (by unfold Bd; decide))
  clear hx
  obtain ⟨a, b⟩ := x
  go_enter Tryd.func99, Tryd.ntmps99
  go_wp2_with fail
  refine (C.out _).mono ?_
  rintro e w1 ⟨rfl, hb1⟩
  obtain ⟨hc, hf⟩ := bcellB hb1
  have hz1 : w.heap.size + 1 < w1.heap.size := by have := hb1.size; simp at this; omega
  have hbw : Below w.heap.size w w1 := (((Below.refl _ _).alloc (Nat.le_refl _) _).alloc (by simp) _).trans (hb1.mono (by simp; omega))
  go_wp2_with fail
  exact bodyPost_ret (v := en (slP (a, b))) (by simp [results, Tryd.results99, go_sem, slP, adP, hc, hz1]; try omega) rfl ⟨rfl, (hbw.setCell (by simp) _).setCell (by simp) _⟩
theorem kind_T (x : P2) : RetT 108 #[en x] (.int .i64 (kiM x)) := by
  intro w
  have C := Lib.hid (fun w => isWithin_any x.1 x.2 (-100000000) 100000000 w)
  obtain ⟨a, b⟩ := x
  have hb0 : Below w.heap.size w (w.alloc (.cells #[.int .i64 a, .int .i64 b] 51)) := (Below.refl _ _).alloc (Nat.le_refl _) _
  by_cases h1 : 100000000 < a
  · have E := Lib.hid (show kiM (a, b) = 1 from if_pos h1)
    go_enter Tryd.func108, Tryd.ntmps108
    go_wp2_with fail
    go_ret
    exact ⟨ret_int E.out.symm, hb0⟩
  · by_cases h2 : b < -100000000
    · have E := Lib.hid (show kiM (a, b) = 2 from (if_neg h1).trans (if_pos h2))
      go_enter Tryd.func108, Tryd.ntmps108
      go_wp2_with fail
      go_ret
      exact ⟨ret_int E.out.symm, hb0⟩
    · cases h3 : inB a b (-100000000) 100000000
      · have h3' : ¬ (-100000000 ≤ a ∧ a ≤ b ∧ b ≤ 100000000) := of_decide_eq_false h3
        have e3 := Lib.hid (show kiM (a, b) = 3 from (if_neg h1).trans ((if_neg h2).trans (if_neg h3')))
        have H3 := Lib.hid h3
        clear h3 h3'
        go_enter Tryd.func108, Tryd.ntmps108
        go_wp2_with fail
        refine (C.out _).mono ?_
        rintro e w1 ⟨rfl, hb1⟩
        rw [H3.out]
        go_wp2_with fail
        go_ret
        exact ⟨ret_int e3.out.symm, hb0.trans (hb1.below.mono (by simp))⟩
      · have h3' : -100000000 ≤ a ∧ a ≤ b ∧ b ≤ 100000000 := of_decide_eq_true h3
        have e3 := Lib.hid (show kiM (a, b) = 0 from (if_neg h1).trans ((if_neg h2).trans (if_pos h3')))
        have H3 := Lib.hid h3
        clear h3 h3'
        go_enter Tryd.func108, Tryd.ntmps108
        go_wp2_with fail
        refine (C.out _).mono ?_
        rintro e w1 ⟨rfl, hb1⟩
        rw [H3.out]
        go_wp2_with fail
        go_ret
        exact ⟨ret_int e3.out.symm, hb0.trans (hb1.below.mono (by simp))⟩

theorem fresh_call {P : Program} {f : FuncId} {args : Array Value} {w : World} {T : Ending → World → Prop} (F : World → Prop) (h : F w) (k : ∀ W, F W → Calls P f args W T) : Calls P f args w T := k w h
theorem Box.lt {b : Nat} {l h : Int} {w : World} (k : Box b l h w) : b < w.heap.size := k.2.2.2.2
/-- begin anew at a world of which some facts are known -/
theorem fresh_world {P : Program} {c : Code} {Q : Exit → Act → World → Prop} {a : Act} {w : World} (F : World → Prop) (h : F w) (k : ∀ W, F W → c.wp P Q a W) : c.wp P Q a w := k w h

theorem down_T (a b : Int) (hb : 0 < b) (hb1 : b ≤ 9100000000000000000) (h0 : -9100000000000000000 ≤ a) (h1 : a ≤ 9100000000000000000) : RetT 118 #[.int .i64 a, .int .i64 b] (.int .i64 (a / b)) := fun w => (down_any a b w hb hb1 h0 h1).mono fun _ _ ⟨e, o⟩ => ⟨e, o ▸ Below.refl _ _⟩
theorem up_T (a b : Int) (hb : 0 < b) (hb1 : b ≤ 9100000000000000000) (h0 : -9100000000000000000 ≤ a) (h1 : a ≤ 9100000000000000000) : RetT 119 #[.int .i64 a, .int .i64 b] (.int .i64 (upD a b)) := fun w => (up_any a b w hb hb1 h0 h1).mono fun _ _ ⟨e, o⟩ => ⟨e, o ▸ Below.refl _ _⟩
theorem eOnly : ∀ args w, (callFunc 86 args).run Tryd.prog w = .ok (.enter 86 args) w := enters_of Tryd.func86 (by kernel_rfl) rfl
theorem eAdd : ∀ args w, (callFunc 88 args).run Tryd.prog w = .ok (.enter 88 args) w := enters_of Tryd.func88 (by kernel_rfl) rfl
theorem eDown : ∀ args w, (callFunc 118 args).run Tryd.prog w = .ok (.enter 118 args) w := enters_of Tryd.func118 (by kernel_rfl) rfl

/-- below B all stays -/
theorem good_below {R : World → Prop} {W : World} (h : ∀ w, Below W.heap.size W w → R w) : Good R (fun w => Below W.heap.size W w) :=
  ⟨fun w w' h1 h2 => h1.trans (h2.mono h1.size), h⟩

/-- all stays but what is in some blocks -/
structure But (l : List Nat) (W w : World) : Prop where
  os : w.os = W.os
  tape : w.tape = W.tape
  output : w.output = W.output
  size : W.heap.size ≤ w.heap.size
  block : ∀ k, k < W.heap.size → k ∉ l → w.heap[k]? = W.heap[k]?
theorem But.of {l : List Nat} {W w : World} (h : Below W.heap.size W w) : But l W w := ⟨h.os, h.tape, h.output, h.size, fun k hk _ => h.block k hk⟩
theorem But.more {l l' : List Nat} {W w : World} (h : But l W w) (hl : ∀ k, k ∈ l → k ∈ l') : But l' W w := ⟨h.os, h.tape, h.output, h.size, fun k hk hn => h.block k hk (fun e => hn (hl k e))⟩
theorem But.below {l : List Nat} {W w w' : World} (h : But l W w) (k : Below w.heap.size w w') : But l W w' :=
  ⟨k.os.trans h.os, k.tape.trans h.tape, k.output.trans h.output, Nat.le_trans h.size k.size, fun j hj hn => (k.block j (Nat.lt_of_lt_of_le hj h.size)).trans (h.block j hj hn)⟩
theorem But.set {l : List Nat} {W w : World} (h : But l W w) {b : Nat} (hb : b ∈ l) (o : Nat) (u : Value) : But l W (w.setCell ⟨b, o, none⟩ u) :=
  ⟨h.os, h.tape, h.output, by simpa using h.size, fun j hj hn => (Below.heap_setCell _ _ _ _ (fun e => hn (by subst e; exact hb))).trans (h.block j hj hn)⟩
theorem But.cell {l : List Nat} {W w : World} (h : But l W w) {p : Addr} (hp : p.block < W.heap.size) (hn : p.block ∉ l) : w.cell? p = W.cell? p := World.cell?_of_block (h.block _ hp hn)
theorem But.frozen {l : List Nat} {W w : World} (h : But l W w) {p : Addr} (hp : p.block < W.heap.size) (hn : p.block ∉ l) : w.frozen? p = W.frozen? p := World.frozen?_of_block (h.block _ hp hn)
theorem But.box {l : List Nat} {c : Nat} {W w : World} (h : But l W w) {u v : Int} (x : Box c u v W) (hn : c ∉ l) : Box c u v w := by
  obtain ⟨x0, x1, x2, x3, x4⟩ := x
  exact ⟨(h.cell x4 hn).trans x0, (h.cell x4 hn).trans x1, (h.frozen x4 hn).trans x2, (h.frozen x4 hn).trans x3, Nat.lt_of_lt_of_le x4 h.size⟩
theorem But.toBelow {B : Nat} {l : List Nat} {W0 W w : World} (h0 : Below B W0 W) (hB : B ≤ W0.heap.size) (hb : ∀ k, k ∈ l → B ≤ k) (h : But l W w) : Below B W0 w :=
  ⟨h.os.trans h0.os, h.tape.trans h0.tape, h.output.trans h0.output, Nat.le_trans h0.size h.size, fun k hk => (h.block k (Nat.lt_of_lt_of_le hk (Nat.le_trans hB h0.size)) (fun e => by have := hb k e; omega)).trans (h0.block k hk)⟩
/-- the block b holds these -/
def Box4 (b : Nat) (l : Int) (h : Int) (l1 : Int) (h1 : Int) (w : World) : Prop :=
  w.cell? ⟨b, 0, none⟩ = some (.int .i64 l) ∧ w.cell? ⟨b, 1, none⟩ = some (.int .i64 h) ∧ w.cell? ⟨b, 2, none⟩ = some (.int .i64 l1) ∧ w.cell? ⟨b, 3, none⟩ = some (.int .i64 h1) ∧ w.frozen? ⟨b, 0, none⟩ = false ∧ w.frozen? ⟨b, 1, none⟩ = false ∧ w.frozen? ⟨b, 2, none⟩ = false ∧ w.frozen? ⟨b, 3, none⟩ = false ∧ b < w.heap.size
theorem Box4.lt {b : Nat} {l : Int} {h : Int} {l1 : Int} {h1 : Int} {w : World} (k : Box4 b l h l1 h1 w) : b < w.heap.size := k.2.2.2.2.2.2.2.2
theorem Box4.below {b : Nat} {l : Int} {h : Int} {l1 : Int} {h1 : Int} {w w1 : World} (k : Box4 b l h l1 h1 w) (o : Below w.heap.size w w1) : Box4 b l h l1 h1 w1 := by
  obtain ⟨k0, k1, k2, k3, k4, k5, k6, k7, k8⟩ := k
  have := o.size
  refine ⟨?_, ?_, ?_, ?_, ?_, ?_, ?_, ?_, by omega⟩
  · rw [o.cell (p := ⟨b, 0, none⟩) k8]; exact k0
  · rw [o.cell (p := ⟨b, 1, none⟩) k8]; exact k1
  · rw [o.cell (p := ⟨b, 2, none⟩) k8]; exact k2
  · rw [o.cell (p := ⟨b, 3, none⟩) k8]; exact k3
  · rw [o.frozen (p := ⟨b, 0, none⟩) k8]; exact k4
  · rw [o.frozen (p := ⟨b, 1, none⟩) k8]; exact k5
  · rw [o.frozen (p := ⟨b, 2, none⟩) k8]; exact k6
  · rw [o.frozen (p := ⟨b, 3, none⟩) k8]; exact k7
theorem Box4.alloc {b : Nat} {l : Int} {h : Int} {l1 : Int} {h1 : Int} {w : World} (k : Box4 b l h l1 h1 w) (o : Obj) : Box4 b l h l1 h1 (w.alloc o) := k.below ((Below.refl _ _).alloc (Nat.le_refl _) o)
theorem Box4.fresh (w : World) (l : Int) (h : Int) (l1 : Int) (h1 : Int) (t : TypeId) : Box4 w.heap.size l h l1 h1 (w.alloc (.cells #[.int .i64 l, .int .i64 h, .int .i64 l1, .int .i64 h1] t)) := by
  refine ⟨?_, ?_, ?_, ?_, ?_, ?_, ?_, ?_, ?_⟩ <;> simp [go_sem]
theorem Box4.freshAt {b : Nat} {w : World} (hb : b = w.heap.size) (l : Int) (h : Int) (l1 : Int) (h1 : Int) (t : TypeId) : Box4 b l h l1 h1 (w.alloc (.cells #[.int .i64 l, .int .i64 h, .int .i64 l1, .int .i64 h1] t)) := by rw [hb]; exact Box4.fresh w l h l1 h1 t
theorem Box4.set {b : Nat} {l : Int} {h : Int} {l1 : Int} {h1 : Int} {w : World} (k : Box4 b l h l1 h1 w) (l2 : Int) (h2 : Int) (l12 : Int) (h12 : Int) : Box4 b l2 h2 l12 h12 ((((w.setCell ⟨b, 0, none⟩ (.int .i64 l2)).setCell ⟨b, 1, none⟩ (.int .i64 h2)).setCell ⟨b, 2, none⟩ (.int .i64 l12)).setCell ⟨b, 3, none⟩ (.int .i64 h12)) := by
  obtain ⟨k0, k1, k2, k3, k4, k5, k6, k7, k8⟩ := k
  refine ⟨?_, ?_, ?_, ?_, ?_, ?_, ?_, ?_, by simpa using k8⟩ <;> simp [go_sem, k0, k1, k2, k3, k4, k5, k6, k7, k8]
theorem But.box4 {bl : List Nat} {c : Nat} {W w : World} (hbt : But bl W w) {l : Int} {h : Int} {l1 : Int} {h1 : Int} (x : Box4 c l h l1 h1 W) (hn : c ∉ bl) : Box4 c l h l1 h1 w := by
  obtain ⟨x0, x1, x2, x3, x4, x5, x6, x7, x8⟩ := x
  exact ⟨(hbt.cell x8 hn).trans x0, (hbt.cell x8 hn).trans x1, (hbt.cell x8 hn).trans x2, (hbt.cell x8 hn).trans x3, (hbt.frozen x8 hn).trans x4, (hbt.frozen x8 hn).trans x5, (hbt.frozen x8 hn).trans x6, (hbt.frozen x8 hn).trans x7, Nat.lt_of_lt_of_le x8 hbt.size⟩
/-- the block b holds these -/
def City (b : Nat) (la : Int) (lo : Int) (zo : Int) (a0 : Int) (a1 : Int) (w : World) : Prop :=
  w.cell? ⟨b, 0, none⟩ = some (.int .i64 la) ∧ w.cell? ⟨b, 1, none⟩ = some (.int .i64 lo) ∧ w.cell? ⟨b, 2, none⟩ = some (.int .i64 zo) ∧ w.cell? ⟨b, 3, none⟩ = some (.int .i64 a0) ∧ w.cell? ⟨b, 4, none⟩ = some (.int .i64 a1) ∧ b < w.heap.size
theorem City.lt {b : Nat} {la : Int} {lo : Int} {zo : Int} {a0 : Int} {a1 : Int} {w : World} (k : City b la lo zo a0 a1 w) : b < w.heap.size := k.2.2.2.2.2
theorem City.below {b : Nat} {la : Int} {lo : Int} {zo : Int} {a0 : Int} {a1 : Int} {w w1 : World} (k : City b la lo zo a0 a1 w) (o : Below w.heap.size w w1) : City b la lo zo a0 a1 w1 := by
  obtain ⟨k0, k1, k2, k3, k4, k5⟩ := k
  have := o.size
  refine ⟨?_, ?_, ?_, ?_, ?_, by omega⟩
  · rw [o.cell (p := ⟨b, 0, none⟩) k5]; exact k0
  · rw [o.cell (p := ⟨b, 1, none⟩) k5]; exact k1
  · rw [o.cell (p := ⟨b, 2, none⟩) k5]; exact k2
  · rw [o.cell (p := ⟨b, 3, none⟩) k5]; exact k3
  · rw [o.cell (p := ⟨b, 4, none⟩) k5]; exact k4
theorem City.alloc {b : Nat} {la : Int} {lo : Int} {zo : Int} {a0 : Int} {a1 : Int} {w : World} (k : City b la lo zo a0 a1 w) (o : Obj) : City b la lo zo a0 a1 (w.alloc o) := k.below ((Below.refl _ _).alloc (Nat.le_refl _) o)
theorem City.fresh (w : World) (la : Int) (lo : Int) (zo : Int) (a0 : Int) (a1 : Int) (t : TypeId) : City w.heap.size la lo zo a0 a1 (w.alloc (.cells #[.int .i64 la, .int .i64 lo, .int .i64 zo, .int .i64 a0, .int .i64 a1] t)) := by
  refine ⟨?_, ?_, ?_, ?_, ?_, ?_⟩ <;> simp [go_sem]
theorem City.freshAt {b : Nat} {w : World} (hb : b = w.heap.size) (la : Int) (lo : Int) (zo : Int) (a0 : Int) (a1 : Int) (t : TypeId) : City b la lo zo a0 a1 (w.alloc (.cells #[.int .i64 la, .int .i64 lo, .int .i64 zo, .int .i64 a0, .int .i64 a1] t)) := by rw [hb]; exact City.fresh w la lo zo a0 a1 t
theorem But.city {bl : List Nat} {c : Nat} {W w : World} (hbt : But bl W w) {la : Int} {lo : Int} {zo : Int} {a0 : Int} {a1 : Int} (x : City c la lo zo a0 a1 W) (hn : c ∉ bl) : City c la lo zo a0 a1 w := by
  obtain ⟨x0, x1, x2, x3, x4, x5⟩ := x
  exact ⟨(hbt.cell x5 hn).trans x0, (hbt.cell x5 hn).trans x1, (hbt.cell x5 hn).trans x2, (hbt.cell x5 hn).trans x3, (hbt.cell x5 hn).trans x4, Nat.lt_of_lt_of_le x5 hbt.size⟩
/-- the block b holds these -/
def Half (b : Nat) (l : Int) (h : Int) (m : Bool) (w : World) : Prop :=
  w.cell? ⟨b, 0, none⟩ = some (.int .i64 l) ∧ w.cell? ⟨b, 1, none⟩ = some (.int .i64 h) ∧ w.cell? ⟨b, 2, none⟩ = some (.bool m) ∧ b < w.heap.size
theorem Half.lt {b : Nat} {l : Int} {h : Int} {m : Bool} {w : World} (k : Half b l h m w) : b < w.heap.size := k.2.2.2
theorem Half.below {b : Nat} {l : Int} {h : Int} {m : Bool} {w w1 : World} (k : Half b l h m w) (o : Below w.heap.size w w1) : Half b l h m w1 := by
  obtain ⟨k0, k1, k2, k3⟩ := k
  have := o.size
  refine ⟨?_, ?_, ?_, by omega⟩
  · rw [o.cell (p := ⟨b, 0, none⟩) k3]; exact k0
  · rw [o.cell (p := ⟨b, 1, none⟩) k3]; exact k1
  · rw [o.cell (p := ⟨b, 2, none⟩) k3]; exact k2
theorem Half.alloc {b : Nat} {l : Int} {h : Int} {m : Bool} {w : World} (k : Half b l h m w) (o : Obj) : Half b l h m (w.alloc o) := k.below ((Below.refl _ _).alloc (Nat.le_refl _) o)
theorem Half.fresh (w : World) (l : Int) (h : Int) (m : Bool) (t : TypeId) : Half w.heap.size l h m (w.alloc (.cells #[.int .i64 l, .int .i64 h, .bool m] t)) := by
  refine ⟨?_, ?_, ?_, ?_⟩ <;> simp [go_sem]
theorem Half.freshAt {b : Nat} {w : World} (hb : b = w.heap.size) (l : Int) (h : Int) (m : Bool) (t : TypeId) : Half b l h m (w.alloc (.cells #[.int .i64 l, .int .i64 h, .bool m] t)) := by rw [hb]; exact Half.fresh w l h m t
theorem But.half {bl : List Nat} {c : Nat} {W w : World} (hbt : But bl W w) {l : Int} {h : Int} {m : Bool} (x : Half c l h m W) (hn : c ∉ bl) : Half c l h m w := by
  obtain ⟨x0, x1, x2, x3⟩ := x
  exact ⟨(hbt.cell x3 hn).trans x0, (hbt.cell x3 hn).trans x1, (hbt.cell x3 hn).trans x2, Nat.lt_of_lt_of_le x3 hbt.size⟩
/-- the block b holds these -/
def One (b : Nat) (v : Value) (w : World) : Prop :=
  w.cell? ⟨b, 0, none⟩ = some (v) ∧ w.frozen? ⟨b, 0, none⟩ = false ∧ b < w.heap.size
theorem One.lt {b : Nat} {v : Value} {w : World} (k : One b v w) : b < w.heap.size := k.2.2
theorem One.below {b : Nat} {v : Value} {w w1 : World} (k : One b v w) (o : Below w.heap.size w w1) : One b v w1 := by
  obtain ⟨k0, k1, k2⟩ := k
  have := o.size
  refine ⟨?_, ?_, by omega⟩
  · rw [o.cell (p := ⟨b, 0, none⟩) k2]; exact k0
  · rw [o.frozen (p := ⟨b, 0, none⟩) k2]; exact k1
theorem One.alloc {b : Nat} {v : Value} {w : World} (k : One b v w) (o : Obj) : One b v (w.alloc o) := k.below ((Below.refl _ _).alloc (Nat.le_refl _) o)
theorem One.fresh (w : World) (v : Value) (t : TypeId) : One w.heap.size v (w.alloc (.cells #[v] t)) := by
  refine ⟨?_, ?_, ?_⟩ <;> simp [go_sem]
theorem One.freshAt {b : Nat} {w : World} (hb : b = w.heap.size) (v : Value) (t : TypeId) : One b v (w.alloc (.cells #[v] t)) := by rw [hb]; exact One.fresh w v t
theorem One.set {b : Nat} {v : Value} {w : World} (k : One b v w) (v2 : Value) : One b v2 (w.setCell ⟨b, 0, none⟩ (v2)) := by
  obtain ⟨k0, k1, k2⟩ := k
  refine ⟨?_, ?_, by simpa using k2⟩ <;> simp [go_sem, k0, k1, k2]
theorem But.one {bl : List Nat} {c : Nat} {W w : World} (hbt : But bl W w) {v : Value} (x : One c v W) (hn : c ∉ bl) : One c v w := by
  obtain ⟨x0, x1, x2⟩ := x
  exact ⟨(hbt.cell x2 hn).trans x0, (hbt.frozen x2 hn).trans x1, Nat.lt_of_lt_of_le x2 hbt.size⟩
/-- stores into another block -/
theorem Box.aside {b c : Nat} {l h : Int} {w : World} (k : Box b l h w) (hbc : b ≠ c) (xs : List (Nat × Value)) : Box b l h (xs.foldl (fun w x => w.setCell ⟨c, x.1, none⟩ x.2) w) := by
  induction xs generalizing w with
  | nil => exact k
  | cons x xs ih =>
    refine ih ?_
    obtain ⟨k0, k1, k2, k3, k4⟩ := k
    refine ⟨?_, ?_, ?_, ?_, by simpa using k4⟩ <;> simp [go_sem, k0, k1, k2, k3, hbc, Ne.symm hbc]
end Go.Proofs.YtjcgojbfjefbcaaDoor
