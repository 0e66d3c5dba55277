/- Hulls of lists of enclosures; what over finds is in the range of intensities. -/
import Derived.Test.YtgmpipciinphiaaOvr
namespace Go.Proofs.Ytgmpipciinphiaa
set_option linter.unusedSimpArgs false
set_option linter.unusedVariables false

theorem jLo_le (l : Int) (f : Nat → Int) : ∀ n : Nat, jLo l f n ≤ l ∧ ∀ j, j < n → jLo l f n ≤ f j
  | 0 => ⟨Int.le_refl _, fun j hj => absurd hj (by omega)⟩
  | n + 1 => by
    obtain ⟨h1, h2⟩ := jLo_le l f n
    unfold jLo
    split
    · rename_i h
      refine ⟨by omega, fun j hj => ?_⟩
      by_cases e : j = n
      · subst e; omega
      · have := h2 j (by omega); omega
    · rename_i h
      refine ⟨h1, fun j hj => ?_⟩
      by_cases e : j = n
      · subst e; omega
      · exact h2 j (by omega)
theorem jHi_ge (l : Int) (f : Nat → Int) : ∀ n : Nat, l ≤ jHi l f n ∧ ∀ j, j < n → f j ≤ jHi l f n
  | 0 => ⟨Int.le_refl _, fun j hj => absurd hj (by omega)⟩
  | n + 1 => by
    obtain ⟨h1, h2⟩ := jHi_ge l f n
    unfold jHi
    split
    · rename_i h
      refine ⟨by omega, fun j hj => ?_⟩
      by_cases e : j = n
      · subst e; omega
      · have := h2 j (by omega); omega
    · rename_i h
      refine ⟨h1, fun j hj => ?_⟩
      by_cases e : j = n
      · subst e; omega
      · exact h2 j (by omega)
theorem jLo_is (l : Int) (f : Nat → Int) : ∀ n : Nat, jLo l f n = l ∨ ∃ j, j < n ∧ jLo l f n = f j
  | 0 => .inl rfl
  | n + 1 => by
    unfold jLo
    split
    · exact .inr ⟨n, by omega, rfl⟩
    · rcases jLo_is l f n with h | ⟨j, hj, h⟩
      · exact .inl h
      · exact .inr ⟨j, by omega, h⟩
theorem jHi_is (l : Int) (f : Nat → Int) : ∀ n : Nat, jHi l f n = l ∨ ∃ j, j < n ∧ jHi l f n = f j
  | 0 => .inl rfl
  | n + 1 => by
    unfold jHi
    split
    · exact .inr ⟨n, by omega, rfl⟩
    · rcases jHi_is l f n with h | ⟨j, hj, h⟩
      · exact .inl h
      · exact .inr ⟨j, by omega, h⟩

theorem pLo_mem {l : List (Int × Int)} {j : Nat} (h : j < l.length) : ∃ p ∈ l, p.1 = pLo l j ∧ p.2 = pHi l j := by
  refine ⟨l[j], List.getElem_mem h, ?_, ?_⟩ <;> simp [pLo, pHi, List.getD, h]
theorem mem_pLo {l : List (Int × Int)} {p : Int × Int} (h : p ∈ l) : ∃ j, j < l.length ∧ p.1 = pLo l j ∧ p.2 = pHi l j := by
  obtain ⟨j, hj, rfl⟩ := List.mem_iff_getElem.1 h
  refine ⟨j, hj, ?_, ?_⟩ <;> simp [pLo, pHi, List.getD, hj]

theorem hullLo_le {l : List (Int × Int)} {p : Int × Int} (h : p ∈ l) : hullLo l ≤ p.1 := by
  obtain ⟨j, hj, e, _⟩ := mem_pLo h
  obtain ⟨h1, h2⟩ := jLo_le (pLo l 0) (fun j => pLo l (j + 1)) (l.length - 1)
  unfold hullLo
  rw [e]
  cases j with
  | zero => exact h1
  | succ j => exact h2 j (by omega)
theorem hullHi_ge {l : List (Int × Int)} {p : Int × Int} (h : p ∈ l) : p.2 ≤ hullHi l := by
  obtain ⟨j, hj, _, e⟩ := mem_pLo h
  obtain ⟨h1, h2⟩ := jHi_ge (pHi l 0) (fun j => pHi l (j + 1)) (l.length - 1)
  unfold hullHi
  rw [e]
  cases j with
  | zero => exact h1
  | succ j => exact h2 j (by omega)
theorem hullLo_is {l : List (Int × Int)} (h : 0 < l.length) : ∃ p ∈ l, hullLo l = p.1 := by
  unfold hullLo
  rcases jLo_is (pLo l 0) (fun j => pLo l (j + 1)) (l.length - 1) with e | ⟨j, hj, e⟩
  · obtain ⟨p, hp, e1, _⟩ := pLo_mem (l := l) (j := 0) h
    exact ⟨p, hp, by rw [e, e1]⟩
  · obtain ⟨p, hp, e1, _⟩ := pLo_mem (l := l) (j := j + 1) (by omega)
    exact ⟨p, hp, by rw [e, e1]⟩
theorem hullHi_is {l : List (Int × Int)} (h : 0 < l.length) : ∃ p ∈ l, hullHi l = p.2 := by
  unfold hullHi
  rcases jHi_is (pHi l 0) (fun j => pHi l (j + 1)) (l.length - 1) with e | ⟨j, hj, e⟩
  · obtain ⟨p, hp, _, e1⟩ := pLo_mem (l := l) (j := 0) h
    exact ⟨p, hp, by rw [e, e1]⟩
  · obtain ⟨p, hp, _, e1⟩ := pLo_mem (l := l) (j := j + 1) (by omega)
    exact ⟨p, hp, by rw [e, e1]⟩
/-- lists with the same members have the same hull -/
theorem hullLo_eq {l r : List (Int × Int)} (hl : 0 < l.length) (h : ∀ p, p ∈ l ↔ p ∈ r) : hullLo l = hullLo r := by
  obtain ⟨p, hp, e⟩ := hullLo_is hl
  have hr : 0 < r.length := List.length_pos_of_mem ((h p).1 hp)
  obtain ⟨q, hq, e'⟩ := hullLo_is hr
  have h1 := hullLo_le ((h p).1 hp)
  have h2 := hullLo_le ((h q).2 hq)
  omega
theorem hullHi_eq {l r : List (Int × Int)} (hl : 0 < l.length) (h : ∀ p, p ∈ l ↔ p ∈ r) : hullHi l = hullHi r := by
  obtain ⟨p, hp, e⟩ := hullHi_is hl
  have hr : 0 < r.length := List.length_pos_of_mem ((h p).1 hp)
  obtain ⟨q, hq, e'⟩ := hullHi_is hr
  have h1 := hullHi_ge ((h p).1 hp)
  have h2 := hullHi_ge ((h q).2 hq)
  omega
theorem hullLo_snoc {l : List (Int × Int)} (hl : 0 < l.length) (x : Int × Int) : hullLo (l ++ [x]) = min (hullLo l) x.1 := by
  obtain ⟨p, hp, e⟩ := hullLo_is hl
  obtain ⟨q, hq, e'⟩ := hullLo_is (l := l ++ [x]) (by simp)
  have h1 := hullLo_le (l := l ++ [x]) (p := p) (by simp [hp])
  have h2 := hullLo_le (l := l ++ [x]) (p := x) (by simp)
  rcases List.mem_append.1 hq with hq | hq
  · have := hullLo_le hq; omega
  · obtain rfl : q = x := by simpa using hq
    omega
theorem hullHi_snoc {l : List (Int × Int)} (hl : 0 < l.length) (x : Int × Int) : hullHi (l ++ [x]) = max (hullHi l) x.2 := by
  obtain ⟨p, hp, e⟩ := hullHi_is hl
  obtain ⟨q, hq, e'⟩ := hullHi_is (l := l ++ [x]) (by simp)
  have h1 := hullHi_ge (l := l ++ [x]) (p := p) (by simp [hp])
  have h2 := hullHi_ge (l := l ++ [x]) (p := x) (by simp)
  rcases List.mem_append.1 hq with hq | hq
  · have := hullHi_ge hq; omega
  · obtain rfl : q = x := by simpa using hq
    omega
theorem hull_one (x : Int × Int) : hullLo [x] = x.1 ∧ hullHi [x] = x.2 := ⟨rfl, rfl⟩

/-- the intensity at a crossing is in its range -/
theorem it_bd {t : Tab} (ok : TabOk t) {p q : Plc} (hp : PlcOk p) (hq : PlcOk q) (hpi : p.i + 1 < t.us.xs.length) (hqi : q.i + 1 < t.vs.xs.length) :
    0 ≤ itLo t p q ∧ itLo t p q ≤ itHi t p q ∧ itHi t p q ≤ 10000000 := by
  have hr := ok.rows
  have v00 : 0 ≤ tval t p.i q.i := ok.v0 p.i q.i (by omega) (by omega)
  have v00' : tval t p.i q.i ≤ 10000000 := ok.v1 p.i q.i (by omega) (by omega)
  have v01 : 0 ≤ tval t p.i (q.i + 1) := ok.v0 p.i (q.i + 1) (by omega) (by omega)
  have v01' : tval t p.i (q.i + 1) ≤ 10000000 := ok.v1 p.i (q.i + 1) (by omega) (by omega)
  have v10 : 0 ≤ tval t (p.i + 1) q.i := ok.v0 (p.i + 1) q.i (by omega) (by omega)
  have v10' : tval t (p.i + 1) q.i ≤ 10000000 := ok.v1 (p.i + 1) q.i (by omega) (by omega)
  have v11 : 0 ≤ tval t (p.i + 1) (q.i + 1) := ok.v0 (p.i + 1) (q.i + 1) (by omega) (by omega)
  have v11' : tval t (p.i + 1) (q.i + 1) ≤ 10000000 := ok.v1 (p.i + 1) (q.i + 1) (by omega) (by omega)
  have a0 : 0 ≤ inLo t p.i q := mixLo_ge hq v00 v01
  have a1' : inHi t p.i q ≤ 10000000 := mixHi_le hq v00' v01'
  have b0 : 0 ≤ inLo t (p.i + 1) q := mixLo_ge hq v10 v11
  have b1' : inHi t (p.i + 1) q ≤ 10000000 := mixHi_le hq v10' v11'
  have mid : ∀ (q : Plc) (hq : PlcOk q) (x y x' y' : Int), x ≤ x' → y ≤ y' → mixLo q x y ≤ mixHi q x' y' := fun q hq x y x' y' hx hy => by
    have hm := Int.add_le_add (Int.mul_le_mul_of_nonneg_left hx hq.f0) (Int.mul_le_mul_of_nonneg_left hy hq.s0)
    have e1 := Int.mul_ediv_add_emod (q.f * x + q.s * y) q.al
    have e2 := Int.emod_nonneg (q.f * x + q.s * y) (show q.al ≠ 0 by have := hq.pos; omega)
    have e3 := Int.mul_ediv_add_emod (-(q.f * x' + q.s * y')) q.al
    have e4 := Int.emod_nonneg (-(q.f * x' + q.s * y')) (show q.al ≠ 0 by have := hq.pos; omega)
    unfold mixLo mixHi upD
    have hp := hq.pos
    generalize (q.f * x + q.s * y) / q.al = d at *
    generalize (-(q.f * x' + q.s * y')) / q.al = e at *
    have : q.al * d ≤ q.al * (-e) := by rw [Int.mul_neg]; omega
    exact Int.le_of_mul_le_mul_left this hp
  exact ⟨mixLo_ge hp a0 b0, mid p hp _ _ _ _ (mid q hq _ _ _ _ (Int.le_refl _) (Int.le_refl _)) (mid q hq _ _ _ _ (Int.le_refl _) (Int.le_refl _)), mixHi_le hp a1' b1'⟩
end Go.Proofs.Ytgmpipciinphiaa
