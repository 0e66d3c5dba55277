/- What the reference's over finds, as a list; it has the members of what the code finds. -/
import Derived.Test.YthmelkakgbchbaaRcr
import Derived.Test.YthmelkakgbchbaaInt
namespace Go.Proofs.Ythmelkakgbchbaa
set_option linter.unusedSimpArgs false
set_option linter.unusedVariables false

def cellF (t : Tab) (h : Int) (U V : List Int) (i k : Nat) : List (Int × Int) := if insB t (nth U i) (nth V k) h = true ∨ (i ≤ 1 ∧ k ≤ 1) then [rval t h (nth U i) (nth V k)] else []
def rowF (t : Tab) (h : Int) (U V : List Int) (i k : Nat) : List (Int × Int) := (List.range k).flatMap (cellF t h U V i)
def allF (t : Tab) (h : Int) (U V : List Int) (i : Nat) : List (Int × Int) := (List.range i).flatMap fun i => rowF t h U V i V.length
theorem rowF_succ (t : Tab) (h : Int) (U V : List Int) (i k : Nat) : rowF t h U V i (k + 1) = rowF t h U V i k ++ cellF t h U V i k := by
  unfold rowF; rw [List.range_succ, List.flatMap_append]; simp
theorem allF_succ (t : Tab) (h : Int) (U V : List Int) (i : Nat) : allF t h U V (i + 1) = allF t h U V i ++ rowF t h U V i V.length := by
  unfold allF; rw [List.range_succ, List.flatMap_append]; simp
theorem cellF_yes {t : Tab} {h : Int} {U V : List Int} {i k : Nat} (g : insB t (nth U i) (nth V k) h = true ∨ (i ≤ 1 ∧ k ≤ 1)) : cellF t h U V i k = [rval t h (nth U i) (nth V k)] := if_pos g
theorem cellF_no {t : Tab} {h : Int} {U V : List Int} {i k : Nat} (g : insB t (nth U i) (nth V k) h = false) (g2 : ¬ (i ≤ 1 ∧ k ≤ 1)) : cellF t h U V i k = [] := if_neg (by rw [g]; simpa using g2)
theorem mem_allF {t : Tab} {h : Int} {U V : List Int} {n : Nat} {p : Int × Int} : p ∈ allF t h U V n ↔ ∃ i k, i < n ∧ k < V.length ∧ (insB t (nth U i) (nth V k) h = true ∨ (i ≤ 1 ∧ k ≤ 1)) ∧ p = rval t h (nth U i) (nth V k) := by
  unfold allF rowF
  simp only [List.mem_flatMap, List.mem_range]
  constructor
  · rintro ⟨i, hi, k, hk, hp⟩
    unfold cellF at hp
    split at hp
    · rename_i hc; exact ⟨i, k, hi, hk, hc, by simpa using hp⟩
    · cases hp
  · rintro ⟨i, k, hi, hk, hc, hp⟩
    refine ⟨i, hi, k, hk, ?_⟩
    rw [cellF_yes hc, hp]; simp

theorem crL_len (us : List Int) (f t h : Int) : 2 ≤ (crL us f t h).length := by unfold crL; rw [List.length_append]; simp
theorem crL_0 (us : List Int) (f t h : Int) : nth (crL us f t h) 0 = f := rfl
theorem crL_1 (us : List Int) (f t h : Int) : nth (crL us f t h) 1 = t := rfl
/-- the crossings in the table are the stops -/
theorem crL_stops {us : List Int} (ok : ListOk us) {f t h : Int} (h0 : 1 ≤ h) (h1 : h ≤ 30000) {i : Nat} (hi : i < (crL us f t h).length) (hb : inB2 us h (nth (crL us f t h) i) (nth (crL us f t h) i) = true) : nth (crL us f t h) i ∈ stopsL us f t h := by
  have hm : nth (crL us f t h) i ∈ crL us f t h := by rw [nth_eq hi]; exact List.getElem_mem hi
  generalize nth (crL us f t h) i = u at *
  unfold crL at hm
  unfold stopsL endsL endL
  rcases List.mem_append.1 hm with hm | hm
  · have : u = f ∨ u = t := by simpa using hm
    rcases this with rfl | rfl
    · rw [if_pos hb]; simp
    · rw [if_pos hb]; simp
  · simp [hm]
theorem stops_crL {us : List Int} (ok : ListOk us) {f t h u : Int} (h0 : 1 ≤ h) (h1 : h ≤ 30000) (f0 : -200000000 ≤ f) (f1 : f ≤ 200000000) (t0 : -200000000 ≤ t) (t1 : t ≤ 200000000) (hm : u ∈ stopsL us f t h) : ∃ i, i < (crL us f t h).length ∧ nth (crL us f t h) i = u ∧ inB2 us h u u = true := by
  obtain ⟨hb, _, _⟩ := mem_stops ok h0 h1 f0 f1 t0 t1 hm
  have hm' : u ∈ crL us f t h := by
    unfold crL
    unfold stopsL endsL at hm
    rcases List.mem_append.1 hm with hm | hm
    · rcases List.mem_append.1 hm with hm | hm
      · obtain ⟨rfl, _⟩ := mem_ends hm; simp
      · obtain ⟨rfl, _⟩ := mem_ends hm; simp
    · exact List.mem_append.2 (.inr hm)
  obtain ⟨i, hi, e⟩ := List.mem_iff_getElem.1 hm'
  exact ⟨i, hi, by rw [nth_eq hi]; exact e, hb⟩
theorem inB2_both {us : List Int} {h f t : Int} (hft : f ≤ t) : inB2 us h f t = (inB2 us h f f && inB2 us h t t) := by
  unfold inB2
  rw [Bool.eq_iff_iff]
  simp only [Bool.and_eq_true, decide_eq_true_eq]
  omega

theorem found_mem {t : Tab} (ok : TabOk t) {x0 x1 y0 y1 h : Int} (h0 : 1 ≤ h) (h1 : h ≤ 30000) (a0 : -200000 ≤ x0) (a1 : x0 ≤ x1) (a2 : x1 ≤ 200000) (b0 : -200000 ≤ y0) (b1 : y0 ≤ y1) (b2 : y1 ≤ 200000) (p : Int × Int) :
    p ∈ fnd t x0 x1 y0 y1 h ↔ p ∈ allF t h (crL t.us.xs (1000 * x0) (1000 * x1) h) (crL t.vs.xs (1000 * y0) (1000 * y1) h) (crL t.us.xs (1000 * x0) (1000 * x1) h).length := by
  have hlu := crL_len t.us.xs (1000 * x0) (1000 * x1) h
  have hlv := crL_len t.vs.xs (1000 * y0) (1000 * y1) h
  rw [mem_fnd, mem_allF]
  constructor
  · rintro (⟨u, v, hu, hv, rfl⟩ | ⟨hi, rfl⟩)
    · obtain ⟨i, hi, ei, bi⟩ := stops_crL ok.us h0 h1 (by omega) (by omega) (by omega) (by omega) hu
      obtain ⟨k, hk, ek, bk⟩ := stops_crL ok.vs h0 h1 (by omega) (by omega) (by omega) (by omega) hv
      have hins : insB t u v h = true := by unfold insB; rw [bi, bk]; rfl
      refine ⟨i, k, hi, hk, .inl (by rw [ei, ek]; exact hins), ?_⟩
      rw [ei, ek]; unfold rval; rw [if_pos hins]
    · rw [inB2_both (us := t.us.xs) (f := 1000 * x0) (t := 1000 * x1) (by omega), inB2_both (us := t.vs.xs) (f := 1000 * y0) (t := 1000 * y1) (by omega)] at hi
      have mk : ∀ i k, i ≤ 1 → k ≤ 1 → insB t (nth (crL t.us.xs (1000 * x0) (1000 * x1) h) i) (nth (crL t.vs.xs (1000 * y0) (1000 * y1) h) k) h = false → ∃ i k, i < (crL t.us.xs (1000 * x0) (1000 * x1) h).length ∧ k < (crL t.vs.xs (1000 * y0) (1000 * y1) h).length ∧ (insB t (nth (crL t.us.xs (1000 * x0) (1000 * x1) h) i) (nth (crL t.vs.xs (1000 * y0) (1000 * y1) h) k) h = true ∨ (i ≤ 1 ∧ k ≤ 1)) ∧ ((0, t.side) : Int × Int) = rval t h (nth (crL t.us.xs (1000 * x0) (1000 * x1) h) i) (nth (crL t.vs.xs (1000 * y0) (1000 * y1) h) k) := fun i k g1 g2 g3 => by
        refine ⟨i, k, by omega, by omega, .inr ⟨g1, g2⟩, ?_⟩
        unfold rval; rw [if_neg (by rw [g3]; decide)]
      cases q0 : inB2 t.us.xs h (1000 * x0) (1000 * x0)
      · exact mk 0 0 (by omega) (by omega) (by rw [crL_0, crL_0]; unfold insB; rw [q0]; rfl)
      · cases q1 : inB2 t.us.xs h (1000 * x1) (1000 * x1)
        · exact mk 1 0 (by omega) (by omega) (by rw [crL_1, crL_0]; unfold insB; rw [q1]; rfl)
        · cases q2 : inB2 t.vs.xs h (1000 * y0) (1000 * y0)
          · exact mk 0 0 (by omega) (by omega) (by rw [crL_0, crL_0]; unfold insB; rw [q2]; simp)
          · cases q3 : inB2 t.vs.xs h (1000 * y1) (1000 * y1)
            · exact mk 0 1 (by omega) (by omega) (by rw [crL_0, crL_1]; unfold insB; rw [q3]; simp)
            · rw [q0, q1, q2, q3] at hi; cases hi
  · rintro ⟨i, k, hi, hk, hc, rfl⟩
    cases hins : insB t (nth (crL t.us.xs (1000 * x0) (1000 * x1) h) i) (nth (crL t.vs.xs (1000 * y0) (1000 * y1) h) k) h
    · refine .inr ⟨?_, by unfold rval; rw [if_neg (by rw [hins]; decide)]⟩
      rcases hc with hc | ⟨g1, g2⟩
      · rw [hins] at hc; cases hc
      · rw [inB2_both (us := t.us.xs) (f := 1000 * x0) (t := 1000 * x1) (by omega), inB2_both (us := t.vs.xs) (f := 1000 * y0) (t := 1000 * y1) (by omega)]
        unfold insB at hins
        rcases (show i = 0 ∨ i = 1 by omega) with rfl | rfl <;> rcases (show k = 0 ∨ k = 1 by omega) with rfl | rfl <;> simp only [crL_0, crL_1] at hins <;> (rw [Bool.and_eq_false_iff] at hins; rcases hins with e | e <;> rw [e] <;> simp)
    · have hins' := hins
      unfold insB at hins'
      rw [Bool.and_eq_true] at hins'
      exact .inl ⟨_, _, crL_stops ok.us h0 h1 hi hins'.1, crL_stops ok.vs h0 h1 hk hins'.2, by unfold rval; rw [if_pos hins]⟩
theorem allF_ne (t : Tab) (h : Int) (us vs : List Int) (f g f' g' : Int) : 0 < (allF t h (crL us f g h) (crL vs f' g' h) (crL us f g h).length).length :=
  List.length_pos_of_mem (mem_allF.2 ⟨0, 0, by have := crL_len us f g h; omega, by have := crL_len vs f' g' h; omega, .inr ⟨by omega, by omega⟩, rfl⟩)
end Go.Proofs.Ythmelkakgbchbaa
