/- Words that the walks share: what a call leaves as it was. -/
import Derived.Test.YtgmpipciinphiaaProg
import Derived.WalkKit
import Derived.WalkSpells
import Derived.WalkLawsBesides
import Derived.Sort.Grow
import Derived.BigQuiet
namespace Go.Proofs.Ytgmpipciinphiaa
set_option linter.unusedSimpArgs false
set_option linter.unusedVariables false
open Go.RowKit Go.Sort

/-- below B the world is as it was, and no draw has been taken back -/
structure Own (B : Nat) (w w' : World) : Prop where
  below : Below B w w'
  drawn : w.drawn ≤ w'.drawn

theorem Own.refl (B : Nat) (w : World) : Own B w w := ⟨Below.refl _ _, Nat.le_refl _⟩
theorem Own.trans {B : Nat} {a b c : World} (h : Own B a b) (k : Own B b c) : Own B a c := ⟨h.below.trans k.below, Nat.le_trans h.drawn k.drawn⟩
theorem Own.mono {B B' : Nat} {w w' : World} (h : Own B w w') (hB : B' ≤ B) : Own B' w w' := ⟨h.below.mono hB, h.drawn⟩
theorem Own.drew {B : Nat} {a w : World} (h : Own B a w) : Own B a w.drew := ⟨h.below.drew, Nat.le_succ_of_le h.drawn⟩
theorem Own.drewN {B : Nat} {a w : World} (h : Own B a w) (n : Nat) : Own B a (w.drewN n) := ⟨⟨h.below.os, h.below.tape, h.below.output, h.below.size, h.below.block⟩, by have := h.drawn; show a.drawn ≤ w.drawn + n; omega⟩
theorem Own.alloc {B : Nat} {a w : World} (h : Own B a w) (hB : B ≤ w.heap.size) (o : Obj) : Own B a (w.alloc o) := ⟨h.below.alloc hB o, h.drawn⟩
theorem Own.setCell {B : Nat} {a w : World} (h : Own B a w) {p : Addr} (hp : B ≤ p.block) (u : Value) : Own B a (w.setCell p u) := ⟨h.below.setCell hp u, h.drawn⟩
theorem Own.size {B : Nat} {w w' : World} (h : Own B w w') : w.heap.size ≤ w'.heap.size := h.below.size
theorem Own.cell {B : Nat} {w w' : World} (h : Own B w w') {p : Addr} (hp : p.block < B) : w'.cell? p = w.cell? p := h.below.cell hp
theorem Own.frozen {B : Nat} {w w' : World} (h : Own B w w') {p : Addr} (hp : p.block < B) : w'.frozen? p = w.frozen? p := h.below.frozen hp

theorem drewN_drawn (w : World) (q : Nat) : w.drewN q = { w with drawn := w.drawn + q } := rfl

/-- it is the old world with new blocks, and draws -/
theorem Own.grown {w w' : World} (h : Own w.heap.size w w') : ∃ q os, w' = grow (w.drewN q) os := by
  refine ⟨w'.drawn - w.drawn, w'.heap.extract w.heap.size w'.heap.size, ?_⟩
  obtain ⟨⟨h1, h2, h3, h4, h5⟩, h6⟩ := h
  rw [drewN_drawn]
  have e : w'.heap = w.heap ++ w'.heap.extract w.heap.size w'.heap.size := by
    apply Array.ext_getElem?
    intro k
    by_cases hk : k < w.heap.size
    · rw [h5 k hk, Array.getElem?_append_left hk]
    · rw [Array.getElem?_append_right (by omega), Array.getElem?_extract]
      by_cases hk2 : k < w'.heap.size
      · rw [if_pos (by omega)]; congr 1; omega
      · rw [if_neg (by omega)]; exact Array.getElem?_eq_none (by omega)
  unfold grow
  cases w'
  simp only at *
  subst h1 h2 h3
  rw [← e]
  congr 1
  omega

theorem ret_int {k : IntKind} {a b : Int} (h : a = b) : Ending.returned (.int k a) = .returned (.int k b) := by rw [h]
theorem ret_bool {a b : Bool} (h : a = b) : Ending.returned (.bool a) = .returned (.bool b) := by rw [h]
theorem beq_no {a b : Int} (h : a ≠ b) : (a == b) = false := by simp [h]
theorem bcell {W w1 : World} (hb : Own W.heap.size W w1) : (∀ b o, b < W.heap.size → w1.cell? ⟨b, o, none⟩ = W.cell? ⟨b, o, none⟩) ∧ (∀ b o, b < W.heap.size → w1.frozen? ⟨b, o, none⟩ = W.frozen? ⟨b, o, none⟩) :=
  ⟨fun b o h => hb.cell (p := ⟨b, o, none⟩) h, fun b o h => hb.frozen (p := ⟨b, o, none⟩) h⟩
end Go.Proofs.Ytgmpipciinphiaa
