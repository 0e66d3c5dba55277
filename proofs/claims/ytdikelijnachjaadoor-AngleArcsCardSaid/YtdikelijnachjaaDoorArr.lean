/- Arrays of numbers in blocks, carried through a body. -/
import Derived.Test.YtdikelijnachjaaDoorBox
import Derived.Test.YtdikelijnachjaaDoorLn3
namespace Go.Proofs.YtdikelijnachjaaDoor
set_option linter.unusedSimpArgs false
set_option linter.unusedVariables false
open Go.RowKit SineNear

/-- a fact that the walk's simp does not use -/
theorem hidden {p : Prop} (h : p) : Hid p := h

/-- n numbers in block b -/
def Arr (b n : Nat) (f : Nat → Int) (w : World) : Prop :=
  b < w.heap.size ∧ ∀ j, j < n → w.cell? ⟨b, j, none⟩ = some (.int .i64 (f j)) ∧ w.frozen? ⟨b, j, none⟩ = false

theorem Arr.below {b n : Nat} {f : Nat → Int} {w w1 : World} (k : Arr b n f w) (o : Below w.heap.size w w1) : Arr b n f w1 := by
  have hz := o.size
  refine ⟨by have := k.1; omega, fun j hj => ⟨?_, ?_⟩⟩
  · rw [o.cell (p := ⟨b, j, none⟩) k.1]; exact (k.2 j hj).1
  · rw [o.frozen (p := ⟨b, j, none⟩) k.1]; exact (k.2 j hj).2
theorem Arr.alloc {b n : Nat} {f : Nat → Int} {w : World} (k : Arr b n f w) (o : Obj) : Arr b n f (w.alloc o) := k.below ((Below.refl _ _).alloc (Nat.le_refl _) o)
theorem Arr.drew {b n : Nat} {f : Nat → Int} {w : World} (k : Arr b n f w) : Arr b n f w.drew := k
theorem Arr.drewN {b n : Nat} {f : Nat → Int} {w : World} (k : Arr b n f w) (q : Nat) : Arr b n f (w.drewN q) := k
theorem Own.drewN {B : Nat} {a w : World} (h : Own B a w) (n : Nat) : Own B a (w.drewN n) := ⟨⟨h.below.os, h.below.tape, h.below.output, h.below.size, h.below.block⟩, Nat.le_trans h.drawn (Nat.le_add_right _ _)⟩
theorem Arr.congr {b n : Nat} {f g : Nat → Int} {w : World} (k : Arr b n f w) (h : ∀ j, j < n → g j = f j) : Arr b n g w :=
  ⟨k.1, fun j hj => by rw [h j hj]; exact k.2 j hj⟩
theorem Arr.set {b n i : Nat} {v : Int} {f g : Nat → Int} {w : World} (k : Arr b n f w) (hi : i < n) (hg : g i = v) (ho : ∀ j, j < n → j ≠ i → g j = f j) : Arr b n g (w.setCell ⟨b, i, none⟩ (.int .i64 v)) := by
  refine ⟨by simpa using k.1, fun j hj => ?_⟩
  by_cases e : j = i
  · subst e
    rw [hg]
    constructor <;> simp [go_sem, (k.2 j hj).1, (k.2 j hj).2]
  · rw [ho j hj e]
    constructor <;> simp [go_sem, (k.2 j hj).1, (k.2 j hj).2, e, Ne.symm e]
theorem Arr.put {b n i : Nat} {f : Nat → Int} {w : World} (k : Arr b n f w) (hi : i < n) (v : Int) : Arr b n (fun j => if j = i then v else f j) (w.setCell ⟨b, i, none⟩ (.int .i64 v)) :=
  k.set hi (if_pos rfl) (fun _ _ hn => if_neg hn)
theorem Arr.other {b c n i : Nat} {f : Nat → Int} {w : World} (k : Arr b n f w) (hbc : b ≠ c) (v : Value) : Arr b n f (w.setCell ⟨c, i, none⟩ v) := by
  refine ⟨by simpa using k.1, fun j hj => ?_⟩
  constructor <;> simp [go_sem, (k.2 j hj).1, (k.2 j hj).2, hbc, Ne.symm hbc]

/-- an array of six numbers as a value -/
abbrev arr6 (x : Nat → Int) : Value := .agg #[.int .i64 (x 0), .int .i64 (x 1), .int .i64 (x 2), .int .i64 (x 3), .int .i64 (x 4), .int .i64 (x 5)]
theorem Arr.fresh6 (w : World) (x : Nat → Int) (t : TypeId) : Arr w.heap.size 6 x (w.alloc (.cells #[.int .i64 (x 0), .int .i64 (x 1), .int .i64 (x 2), .int .i64 (x 3), .int .i64 (x 4), .int .i64 (x 5)] t)) := by
  refine ⟨by simp, fun j hj => ?_⟩
  rcases (by omega : j = 0 ∨ j = 1 ∨ j = 2 ∨ j = 3 ∨ j = 4 ∨ j = 5) with rfl | rfl | rfl | rfl | rfl | rfl <;> (constructor <;> simp [go_sem])
theorem Arr.fresh6At {b : Nat} {w : World} (hb : b = w.heap.size) (x : Nat → Int) (t : TypeId) : Arr b 6 x (w.alloc (.cells #[.int .i64 (x 0), .int .i64 (x 1), .int .i64 (x 2), .int .i64 (x 3), .int .i64 (x 4), .int .i64 (x 5)] t)) := by
  rw [hb]; exact Arr.fresh6 w x t
theorem Arr.fresh12 (w : World) (t : TypeId) : Arr w.heap.size 12 (fun _ => 0) (w.alloc (.cells #[.int .i64 0, .int .i64 0, .int .i64 0, .int .i64 0, .int .i64 0, .int .i64 0, .int .i64 0, .int .i64 0, .int .i64 0, .int .i64 0, .int .i64 0, .int .i64 0] t)) := by
  refine ⟨by simp, fun j hj => ?_⟩
  rcases (by omega : j = 0 ∨ j = 1 ∨ j = 2 ∨ j = 3 ∨ j = 4 ∨ j = 5 ∨ j = 6 ∨ j = 7 ∨ j = 8 ∨ j = 9 ∨ j = 10 ∨ j = 11) with rfl | rfl | rfl | rfl | rfl | rfl | rfl | rfl | rfl | rfl | rfl | rfl <;> (constructor <;> simp [go_sem])
theorem Own.put {B b i : Nat} {a w : World} (k : Own B a w) (h : B ≤ b) (v : Value) : Own B a (w.setCell ⟨b, i, none⟩ v) := k.setCell h v
theorem Arr.put6 {b : Nat} {f : Nat → Int} {w : World} (k : Arr b 6 f w) (g : Nat → Int) : Arr b 6 g ((((((w.setCell ⟨b, 0, none⟩ (.int .i64 (g 0))).setCell ⟨b, 1, none⟩ (.int .i64 (g 1))).setCell ⟨b, 2, none⟩ (.int .i64 (g 2))).setCell ⟨b, 3, none⟩ (.int .i64 (g 3))).setCell ⟨b, 4, none⟩ (.int .i64 (g 4))).setCell ⟨b, 5, none⟩ (.int .i64 (g 5))) := by
  have h0 := k.set (i := 0) (v := g 0) (g := fun j => if j ≤ 0 then g j else f j) (by omega) (if_pos (by omega)) (fun j _ hn => if_neg (by omega))
  have h1 := h0.set (i := 1) (v := g 1) (g := fun j => if j ≤ 1 then g j else f j) (by omega) (if_pos (by omega)) (fun j _ hn => by by_cases e : j ≤ 0; rw [if_pos e, if_pos (by omega)]; rw [if_neg e, if_neg (by omega)])
  have h2 := h1.set (i := 2) (v := g 2) (g := fun j => if j ≤ 2 then g j else f j) (by omega) (if_pos (by omega)) (fun j _ hn => by by_cases e : j ≤ 1; rw [if_pos e, if_pos (by omega)]; rw [if_neg e, if_neg (by omega)])
  have h3 := h2.set (i := 3) (v := g 3) (g := fun j => if j ≤ 3 then g j else f j) (by omega) (if_pos (by omega)) (fun j _ hn => by by_cases e : j ≤ 2; rw [if_pos e, if_pos (by omega)]; rw [if_neg e, if_neg (by omega)])
  have h4 := h3.set (i := 4) (v := g 4) (g := fun j => if j ≤ 4 then g j else f j) (by omega) (if_pos (by omega)) (fun j _ hn => by by_cases e : j ≤ 3; rw [if_pos e, if_pos (by omega)]; rw [if_neg e, if_neg (by omega)])
  exact h4.set (by omega) rfl (fun j hj hn => (if_pos (by omega)).symm)
theorem Arr.far6 {b c n : Nat} {f : Nat → Int} {w : World} (k : Arr b n f w) (h : b ≠ c) (g : Nat → Int) : Arr b n f ((((((w.setCell ⟨c, 0, none⟩ (.int .i64 (g 0))).setCell ⟨c, 1, none⟩ (.int .i64 (g 1))).setCell ⟨c, 2, none⟩ (.int .i64 (g 2))).setCell ⟨c, 3, none⟩ (.int .i64 (g 3))).setCell ⟨c, 4, none⟩ (.int .i64 (g 4))).setCell ⟨c, 5, none⟩ (.int .i64 (g 5))) :=
  (((((k.other h _).other h _).other h _).other h _).other h _).other h _
theorem Own.put6 {B b : Nat} {a w : World} (k : Own B a w) (h : B ≤ b) (g : Nat → Int) : Own B a ((((((w.setCell ⟨b, 0, none⟩ (.int .i64 (g 0))).setCell ⟨b, 1, none⟩ (.int .i64 (g 1))).setCell ⟨b, 2, none⟩ (.int .i64 (g 2))).setCell ⟨b, 3, none⟩ (.int .i64 (g 3))).setCell ⟨b, 4, none⟩ (.int .i64 (g 4))).setCell ⟨b, 5, none⟩ (.int .i64 (g 5))) :=
  (((((k.setCell h _).setCell h _).setCell h _).setCell h _).setCell h _).setCell h _
theorem Box.far6 {b c : Nat} {l h : Int} {w : World} (k : Box b l h w) (hn : b ≠ c) (g : Nat → Int) : Box b l h ((((((w.setCell ⟨c, 0, none⟩ (.int .i64 (g 0))).setCell ⟨c, 1, none⟩ (.int .i64 (g 1))).setCell ⟨c, 2, none⟩ (.int .i64 (g 2))).setCell ⟨c, 3, none⟩ (.int .i64 (g 3))).setCell ⟨c, 4, none⟩ (.int .i64 (g 4))).setCell ⟨c, 5, none⟩ (.int .i64 (g 5))) := by
  obtain ⟨k0, k1, k2, k3, k4⟩ := k
  refine ⟨?_, ?_, ?_, ?_, by simpa using k4⟩ <;> simp [go_sem, k0, k1, k2, k3, hn, Ne.symm hn]

theorem Arr.fresh12At {b : Nat} {w : World} (hb : b = w.heap.size) (t : TypeId) : Arr b 12 (fun _ => 0) (w.alloc (.cells #[.int .i64 0, .int .i64 0, .int .i64 0, .int .i64 0, .int .i64 0, .int .i64 0, .int .i64 0, .int .i64 0, .int .i64 0, .int .i64 0, .int .i64 0, .int .i64 0] t)) := by
  rw [hb]; exact Arr.fresh12 w t
/-- the six cells of an array -/
theorem Arr.six {b : Nat} {f : Nat → Int} {w : World} (k : Arr b 6 f w) : w.cell? ⟨b, 0, none⟩ = some (.int .i64 (f 0)) ∧ w.cell? ⟨b, 1, none⟩ = some (.int .i64 (f 1)) ∧ w.cell? ⟨b, 2, none⟩ = some (.int .i64 (f 2)) ∧ w.cell? ⟨b, 3, none⟩ = some (.int .i64 (f 3)) ∧ w.cell? ⟨b, 4, none⟩ = some (.int .i64 (f 4)) ∧ w.cell? ⟨b, 5, none⟩ = some (.int .i64 (f 5)) :=
  ⟨(k.2 0 (by omega)).1, (k.2 1 (by omega)).1, (k.2 2 (by omega)).1, (k.2 3 (by omega)).1, (k.2 4 (by omega)).1, (k.2 5 (by omega)).1⟩
theorem Arr.six_f {b : Nat} {f : Nat → Int} {w : World} (k : Arr b 6 f w) : w.frozen? ⟨b, 0, none⟩ = false ∧ w.frozen? ⟨b, 1, none⟩ = false ∧ w.frozen? ⟨b, 2, none⟩ = false ∧ w.frozen? ⟨b, 3, none⟩ = false ∧ w.frozen? ⟨b, 4, none⟩ = false ∧ w.frozen? ⟨b, 5, none⟩ = false :=
  ⟨(k.2 0 (by omega)).2, (k.2 1 (by omega)).2, (k.2 2 (by omega)).2, (k.2 3 (by omega)).2, (k.2 4 (by omega)).2, (k.2 5 (by omega)).2⟩
end Go.Proofs.YtdikelijnachjaaDoor
