/- Boxes of enclosures, carried over what leaves old memory as it was; what over finds is in its range. -/
import Derived.Test.YtgmpipciinphiaaHul
import Derived.Test.YtgmpipciinphiaaMnx
namespace Go.Proofs.Ytgmpipciinphiaa
set_option linter.unusedSimpArgs false
set_option linter.unusedVariables false
open Go.RowKit

/-- a box of an enclosure that may be written -/
structure Bq (b : Nat) (x y : Int) (W : World) : Prop where
  c0 : W.cell? ⟨b, 0, none⟩ = some (.int .i64 x)
  c1 : W.cell? ⟨b, 1, none⟩ = some (.int .i64 y)
  f0 : W.frozen? ⟨b, 0, none⟩ = false
  f1 : W.frozen? ⟨b, 1, none⟩ = false
  lt : b < W.heap.size
theorem Bq.keep {b B : Nat} {x y : Int} {W W1 : World} (h : Bq b x y W) (k : Below B W W1) (hb : b < B) : Bq b x y W1 :=
  ⟨by rw [k.cell (p := ⟨b, 0, none⟩) hb]; exact h.c0, by rw [k.cell (p := ⟨b, 1, none⟩) hb]; exact h.c1, by rw [k.frozen (p := ⟨b, 0, none⟩) hb]; exact h.f0, by rw [k.frozen (p := ⟨b, 1, none⟩) hb]; exact h.f1, Nat.lt_of_lt_of_le h.lt k.size⟩
theorem Bq.fresh (W : World) (x y : Int) (t : TypeId) : Bq W.heap.size x y (W.alloc (.cells #[.int .i64 x, .int .i64 y] t)) := by
  constructor <;> simp [go_sem]
theorem Bq.set {b : Nat} {x y : Int} {W : World} (h : Bq b x y W) (x' y' : Int) : Bq b x' y' ((W.setCell ⟨b, 0, none⟩ (.int .i64 x')).setCell ⟨b, 1, none⟩ (.int .i64 y')) := by
  obtain ⟨c0, c1, f0, f1, lt⟩ := h
  constructor <;> simp [go_sem, c0, c1, f0, f1, lt]
theorem Bq.other {b d : Nat} {x y : Int} {W : World} (h : Bq b x y W) (hd : b ≠ d) (u v : Value) : Bq b x y ((W.setCell ⟨d, 0, none⟩ u).setCell ⟨d, 1, none⟩ v) := by
  obtain ⟨c0, c1, f0, f1, lt⟩ := h
  have hd' : d ≠ b := Ne.symm hd
  constructor <;> simp [go_sem, c0, c1, f0, f1, lt, hd, hd']
theorem Bq.drew {b : Nat} {x y : Int} {W : World} (h : Bq b x y W) : Bq b x y W.drew := ⟨h.c0, h.c1, h.f0, h.f1, h.lt⟩
theorem below_set2 (W : World) (b : Nat) (x y : Value) : Below b W ((W.setCell ⟨b, 0, none⟩ x).setCell ⟨b, 1, none⟩ y) := ((Below.refl _ _).setCell (p := ⟨b, 0, none⟩) (Nat.le_refl _) _).setCell (p := ⟨b, 1, none⟩) (Nat.le_refl _) _
theorem below_new (W : World) (o : Obj) : Below W.heap.size W (W.alloc o) := (Below.refl _ _).alloc (Nat.le_refl _) _
theorem bcb {W w1 : World} (hb : Below W.heap.size W w1) : (∀ b o, b < W.heap.size → w1.cell? ⟨b, o, none⟩ = W.cell? ⟨b, o, none⟩) ∧ (∀ b o, b < W.heap.size → w1.frozen? ⟨b, o, none⟩ = W.frozen? ⟨b, o, none⟩) :=
  ⟨fun b o h => hb.cell (p := ⟨b, o, none⟩) h, fun b o h => hb.frozen (p := ⟨b, o, none⟩) h⟩

theorem mem_fnd {t : Tab} {x0 x1 y0 y1 h : Int} {p : Int × Int} : p ∈ fnd t x0 x1 y0 y1 h ↔ (∃ u v, u ∈ stopsL t.us.xs (1000 * x0) (1000 * x1) h ∧ v ∈ stopsL t.vs.xs (1000 * y0) (1000 * y1) h ∧ p = (itLo2 t h (u, v), itHi2 t h (u, v))) ∨ ((inB2 t.us.xs h (1000 * x0) (1000 * x1) && inB2 t.vs.xs h (1000 * y0) (1000 * y1)) = false ∧ p = (0, t.side)) := by
  unfold fnd
  rw [List.mem_append]
  refine or_congr ?_ ?_
  · rw [List.mem_map]
    constructor
    · rintro ⟨q, hq, rfl⟩
      obtain ⟨h1, h2⟩ := mem_prs hq
      exact ⟨q.1, q.2, h1, h2, rfl⟩
    · rintro ⟨u, v, hu, hv, rfl⟩
      refine ⟨(u, v), ?_, rfl⟩
      unfold prs
      exact List.mem_flatMap.2 ⟨u, hu, List.mem_map.2 ⟨v, hv, rfl⟩⟩
  · split
    · rename_i hc; simp [hc]
    · rename_i hc
      have : (inB2 t.us.xs h (1000 * x0) (1000 * x1) && inB2 t.vs.xs h (1000 * y0) (1000 * y1)) = false := by simpa using hc
      simp [this]

theorem fnd_mem_bd {t : Tab} (ok : TabOk t) {x0 x1 y0 y1 h : Int} (h0 : 1 ≤ h) (h1 : h ≤ 30000) (a0 : -200000 ≤ x0) (a1 : x0 ≤ x1) (a2 : x1 ≤ 200000) (b0 : -200000 ≤ y0) (b1 : y0 ≤ y1) (b2 : y1 ≤ 200000)
    {p : Int × Int} (hp : p ∈ fnd t x0 x1 y0 y1 h) : 0 ≤ p.1 ∧ p.1 ≤ p.2 ∧ p.2 ≤ 10000000 := by
  rcases mem_fnd.1 hp with ⟨u, v, hu, hv, rfl⟩ | ⟨_, rfl⟩
  · obtain ⟨i1, _, _⟩ := mem_stops ok.us h0 h1 (by omega) (by omega) (by omega) (by omega) hu
    obtain ⟨i2, _, _⟩ := mem_stops ok.vs h0 h1 (by omega) (by omega) (by omega) (by omega) hv
    obtain ⟨k1, k2, _, _⟩ := plc_ok ok.us h0 h1 i1
    obtain ⟨k3, k4, _, _⟩ := plc_ok ok.vs h0 h1 i2
    exact it_bd ok k1 k3 k2 k4
  · exact ⟨Int.le_refl _, ok.s0, ok.s1⟩
theorem fnd_ne {t : Tab} {x0 x1 y0 y1 h : Int} (a1 : x0 ≤ x1) (b1 : y0 ≤ y1) : 0 < (fnd t x0 x1 y0 y1 h).length := by
  cases hc : (inB2 t.us.xs h (1000 * x0) (1000 * x1) && inB2 t.vs.xs h (1000 * y0) (1000 * y1))
  · exact List.length_pos_of_mem (mem_fnd.2 (.inr ⟨hc, rfl⟩))
  · rw [Bool.and_eq_true] at hc
    have n1 := stops_ne hc.1 (by omega)
    have n2 := stops_ne hc.2 (by omega)
    obtain ⟨u, hu⟩ := List.exists_mem_of_length_pos n1
    obtain ⟨v, hv⟩ := List.exists_mem_of_length_pos n2
    exact List.length_pos_of_mem (mem_fnd.2 (.inl ⟨u, v, hu, hv, rfl⟩))
theorem hull_bd {t : Tab} (ok : TabOk t) {x0 x1 y0 y1 h : Int} (h0 : 1 ≤ h) (h1 : h ≤ 30000) (a0 : -200000 ≤ x0) (a1 : x0 ≤ x1) (a2 : x1 ≤ 200000) (b0 : -200000 ≤ y0) (b1 : y0 ≤ y1) (b2 : y1 ≤ 200000) :
    0 ≤ hullLo (fnd t x0 x1 y0 y1 h) ∧ hullLo (fnd t x0 x1 y0 y1 h) ≤ hullHi (fnd t x0 x1 y0 y1 h) ∧ hullHi (fnd t x0 x1 y0 y1 h) ≤ 10000000 := by
  have hn := fnd_ne (t := t) (h := h) a1 b1
  obtain ⟨p, hp, e⟩ := hullLo_is hn
  obtain ⟨q, hq, e'⟩ := hullHi_is hn
  have k := fnd_mem_bd ok h0 h1 a0 a1 a2 b0 b1 b2 hp
  have k' := fnd_mem_bd ok h0 h1 a0 a1 a2 b0 b1 b2 hq
  have g := hullHi_ge hp
  omega
end Go.Proofs.Ytgmpipciinphiaa
