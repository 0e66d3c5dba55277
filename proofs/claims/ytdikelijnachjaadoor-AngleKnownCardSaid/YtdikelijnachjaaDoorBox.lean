/- Boxes of enclosures, carried through a body. -/
import Derived.Test.YtdikelijnachjaaDoorWof
namespace Go.Proofs.YtdikelijnachjaaDoor
set_option linter.unusedSimpArgs false
set_option linter.unusedVariables false
open Go.RowKit SineNear

/-- an enclosure in block b -/
def Box (b : Nat) (l h : Int) (w : World) : Prop :=
  w.cell? ⟨b, 0, none⟩ = some (.int .i64 l) ∧ w.cell? ⟨b, 1, none⟩ = some (.int .i64 h) ∧ w.frozen? ⟨b, 0, none⟩ = false ∧ w.frozen? ⟨b, 1, none⟩ = false ∧ b < w.heap.size

theorem Box.below {b : Nat} {l h : Int} {w w1 : World} (k : Box b l h w) (o : Below w.heap.size w w1) : Box b l h w1 := by
  obtain ⟨k0, k1, k2, k3, k4⟩ := k
  have := o.size
  refine ⟨?_, ?_, ?_, ?_, by omega⟩
  · rw [o.cell (p := ⟨b, 0, none⟩) k4]; exact k0
  · rw [o.cell (p := ⟨b, 1, none⟩) k4]; exact k1
  · rw [o.frozen (p := ⟨b, 0, none⟩) k4]; exact k2
  · rw [o.frozen (p := ⟨b, 1, none⟩) k4]; exact k3
theorem Box.alloc {b : Nat} {l h : Int} {w : World} (k : Box b l h w) (o : Obj) : Box b l h (w.alloc o) :=
  k.below ((Below.refl _ _).alloc (Nat.le_refl _) o)
theorem Box.drew {b : Nat} {l h : Int} {w : World} (k : Box b l h w) : Box b l h w.drew := k
theorem Box.fresh (w : World) (l h : Int) (t : TypeId) : Box w.heap.size l h (w.alloc (.cells #[.int .i64 l, .int .i64 h] t)) := by
  refine ⟨?_, ?_, ?_, ?_, ?_⟩ <;> simp [go_sem]
theorem Box.set {b : Nat} {l h : Int} {w : World} (k : Box b l h w) (l' h' : Int) : Box b l' h' ((w.setCell ⟨b, 0, none⟩ (.int .i64 l')).setCell ⟨b, 1, none⟩ (.int .i64 h')) := by
  obtain ⟨k0, k1, k2, k3, k4⟩ := k
  refine ⟨?_, ?_, ?_, ?_, by simpa using k4⟩ <;> simp [go_sem, k0, k1, k2, k3]
theorem Box.other {b c : Nat} {l h : Int} {w : World} (k : Box b l h w) (hbc : b ≠ c) (u v : Value) : Box b l h ((w.setCell ⟨c, 0, none⟩ u).setCell ⟨c, 1, none⟩ v) := by
  obtain ⟨k0, k1, k2, k3, k4⟩ := k
  refine ⟨?_, ?_, ?_, ?_, by simpa using k4⟩ <;> simp [go_sem, k0, k1, k2, k3, hbc, Ne.symm hbc]
end Go.Proofs.YtdikelijnachjaaDoor
