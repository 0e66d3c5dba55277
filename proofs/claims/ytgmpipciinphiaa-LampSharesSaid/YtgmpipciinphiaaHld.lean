/- Plain: the exact interpolation over a rectangle, and what is found at its crossings; parts and halves of a rectangle. -/
import Derived.Test.YtgmpipciinphiaaBwm
namespace Go.Proofs.Ytgmpipciinphiaa
set_option linter.unusedSimpArgs false
set_option linter.unusedVariables false
set_option linter.unusedSectionVars false

theorem aff_ge {P Q l r u M : Int} (h1 : M ≤ P + Q * l) (h2 : M ≤ P + Q * r) (a : l ≤ u) (b : u ≤ r) : M ≤ P + Q * u := by
  by_cases hq : 0 ≤ Q
  · have := Int.mul_le_mul_of_nonneg_left a hq; omega
  · have := Int.mul_le_mul_of_nonpos_left (show Q ≤ 0 by omega) b; omega
theorem aff_le {P Q l r u M : Int} (h1 : P + Q * l ≤ M) (h2 : P + Q * r ≤ M) (a : l ≤ u) (b : u ≤ r) : P + Q * u ≤ M := by
  by_cases hq : 0 ≤ Q
  · have := Int.mul_le_mul_of_nonneg_left b hq; omega
  · have := Int.mul_le_mul_of_nonpos_left (show Q ≤ 0 by omega) a; omega

/-- what is between p at a and q at b, times b - a -/
def lin (a b x p q : Int) : Int := (b - x) * p + (x - a) * q
theorem lin_aff (a b x p q : Int) : lin a b x p q = (b * p - a * q) + (q - p) * x := by unfold lin; grind
/-- the same in two directions -/
def bil (a b c d x y m n r s : Int) : Int := lin a b x (lin c d y m n) (lin c d y r s)
theorem bil_swap (a b c d x y m n r s : Int) : bil a b c d x y m n r s = lin c d y (lin a b x m r) (lin a b x n s) := by unfold bil lin; grind

theorem bil_ge {a b c d x y m n r s M l k l' k' : Int} (e0 : M ≤ bil a b c d l l' m n r s) (e1 : M ≤ bil a b c d l k' m n r s) (e2 : M ≤ bil a b c d k l' m n r s) (e3 : M ≤ bil a b c d k k' m n r s) (h0 : l ≤ x) (h1 : x ≤ k) (h2 : l' ≤ y) (h3 : y ≤ k') : M ≤ bil a b c d x y m n r s := by
  have g : ∀ z, M ≤ bil a b c d l z m n r s → M ≤ bil a b c d k z m n r s → M ≤ bil a b c d x z m n r s := fun z z0 z1 => by
    unfold bil at *
    rw [lin_aff] at *
    exact aff_ge z0 z1 h0 h1
  have f0 := g l' e0 e2
  have f1 := g k' e1 e3
  rw [bil_swap, lin_aff] at *
  exact aff_ge f0 f1 h2 h3
theorem bil_le {a b c d x y m n r s M l k l' k' : Int} (e0 : bil a b c d l l' m n r s ≤ M) (e1 : bil a b c d l k' m n r s ≤ M) (e2 : bil a b c d k l' m n r s ≤ M) (e3 : bil a b c d k k' m n r s ≤ M) (h0 : l ≤ x) (h1 : x ≤ k) (h2 : l' ≤ y) (h3 : y ≤ k') : bil a b c d x y m n r s ≤ M := by
  have g : ∀ z, bil a b c d l z m n r s ≤ M → bil a b c d k z m n r s ≤ M → bil a b c d x z m n r s ≤ M := fun z z0 z1 => by
    unfold bil at *
    rw [lin_aff] at *
    exact aff_le z0 z1 h0 h1
  have f0 := g l' e0 e2
  have f1 := g k' e1 e3
  rw [bil_swap, lin_aff] at *
  exact aff_le f0 f1 h2 h3

/-- the exact interpolation, seen from the neighbours i, k -/
def bilT (t : Tab) (h : Int) (i k : Nat) (u v : Int) : Int := bil (nth t.us.xs i * h) (nth t.us.xs (i + 1) * h) (nth t.vs.xs k * h) (nth t.vs.xs (k + 1) * h) u v (tval t i k) (tval t i (k + 1)) (tval t (i + 1) k) (tval t (i + 1) (k + 1))
/-- by what it is to be divided -/
def bilD (t : Tab) (h : Int) (i k : Nat) : Int := (nth t.us.xs (i + 1) * h - nth t.us.xs i * h) * (nth t.vs.xs (k + 1) * h - nth t.vs.xs k * h)
theorem bilD_pos {t : Tab} (ok : TabOk t) {h : Int} (h0 : 1 ≤ h) {i k : Nat} (hi : i + 1 < t.us.xs.length) (hk : k + 1 < t.vs.xs.length) : 0 < bilD t h i k := by
  have a := lmonoh ok.us h0 (show i < i + 1 by omega) hi
  have b := lmonoh ok.vs h0 (show k < k + 1 by omega) hk
  exact Int.mul_pos (by omega) (by omega)

/-- the same number from any neighbours around -/
theorem plc_lin {us : List Int} (ok : ListOk us) {h x : Int} (h0 : 1 ≤ h) (h1 : h ≤ 30000) {i : Nat} (hi : i + 1 < us.length) (i0 : nth us i * h ≤ x) (i1 : x ≤ nth us (i + 1) * h) (g : Nat → Int) :
    ((plc us x h).f * g (plc us x h).i + (plc us x h).s * g ((plc us x h).i + 1)) * (nth us (i + 1) * h - nth us i * h) = (plc us x h).al * lin (nth us i * h) (nth us (i + 1) * h) x (g i) (g (i + 1)) := by
  obtain ⟨pok, ha, a0, a1⟩ := plc_ok ok h0 h1 (brk_in ok h0 hi i0 i1)
  have sum := pok.sum
  unfold lin
  rcases brk ok h0 hi ha i0 i1 a0 a1 with e | ⟨e, ex⟩ | ⟨e, ex⟩
  · have ei : (plc us x h).i = i := e
    have ef : (plc us x h).f = nth us (i + 1) * h - x := by show nth us (plcAt us x h + 1) * h - x = _; rw [e]
    have es : (plc us x h).s = x - nth us i * h := by show x - nth us (plcAt us x h) * h = _; rw [e]
    have ea : (plc us x h).al = nth us (i + 1) * h - nth us i * h := by omega
    rw [ei, ef, es, ea, Int.mul_comm]
  · have z : (plc us x h).s = 0 := by show x - nth us (plcAt us x h) * h = 0; omega
    have ei : (plc us x h).i = i + 1 := e
    have e2 : x = nth us (i + 1) * h := by rw [← e]; exact ex
    have ea : (plc us x h).f = (plc us x h).al := by omega
    rw [z, ei, ea, ← e2]
    generalize (plc us x h).al = A
    grind
  · have z : (plc us x h).f = 0 := by show nth us (plcAt us x h + 1) * h - x = 0; omega
    have ei : (plc us x h).i + 1 = i := e
    have e2 : x = nth us i * h := by rw [← e]; exact ex
    have ea : (plc us x h).s = (plc us x h).al := by omega
    rw [z, ei, ea, ← e2]
    generalize (plc us x h).al = A
    grind

/-- the code's own number, before it is rounded -/
def numT (t : Tab) (h u v : Int) : Int :=
  (plc t.us.xs u h).f * ((plc t.vs.xs v h).f * tval t (plc t.us.xs u h).i (plc t.vs.xs v h).i + (plc t.vs.xs v h).s * tval t (plc t.us.xs u h).i ((plc t.vs.xs v h).i + 1)) +
  (plc t.us.xs u h).s * ((plc t.vs.xs v h).f * tval t ((plc t.us.xs u h).i + 1) (plc t.vs.xs v h).i + (plc t.vs.xs v h).s * tval t ((plc t.us.xs u h).i + 1) ((plc t.vs.xs v h).i + 1))

theorem numT_bil {t : Tab} (ok : TabOk t) {h u v : Int} (h0 : 1 ≤ h) (h1 : h ≤ 30000) {i k : Nat} (hi : i + 1 < t.us.xs.length) (hk : k + 1 < t.vs.xs.length)
    (i0 : nth t.us.xs i * h ≤ u) (i1 : u ≤ nth t.us.xs (i + 1) * h) (k0 : nth t.vs.xs k * h ≤ v) (k1 : v ≤ nth t.vs.xs (k + 1) * h) :
    numT t h u v * bilD t h i k = ((plc t.us.xs u h).al * (plc t.vs.xs v h).al) * bilT t h i k u v := by
  have ha := plc_lin ok.us h0 h1 hi i0 i1 (fun j => (plc t.vs.xs v h).f * tval t j (plc t.vs.xs v h).i + (plc t.vs.xs v h).s * tval t j ((plc t.vs.xs v h).i + 1))
  have b0 := plc_lin ok.vs h0 h1 hk k0 k1 (tval t i)
  have b1 := plc_lin ok.vs h0 h1 hk k0 k1 (tval t (i + 1))
  have e : numT t h u v * (nth t.us.xs (i + 1) * h - nth t.us.xs i * h) = _ := ha
  clear ha
  unfold bilD bilT bil
  unfold lin at *

  generalize (plc t.us.xs u h).al = A at *
  generalize (plc t.vs.xs v h).al = B at *
  generalize numT t h u v = N at *
  generalize (plc t.vs.xs v h).f * tval t i (plc t.vs.xs v h).i + (plc t.vs.xs v h).s * tval t i ((plc t.vs.xs v h).i + 1) = R0 at *
  generalize (plc t.vs.xs v h).f * tval t (i + 1) (plc t.vs.xs v h).i + (plc t.vs.xs v h).s * tval t (i + 1) ((plc t.vs.xs v h).i + 1) = R1 at *
  generalize nth t.us.xs (i + 1) * h = b at *
  generalize nth t.us.xs i * h = a at *
  generalize nth t.vs.xs (k + 1) * h = d at *
  generalize nth t.vs.xs k * h = c at *
  generalize tval t i k = v0 at *
  generalize tval t i (k + 1) = v1 at *
  generalize tval t (i + 1) k = v2 at *
  generalize tval t (i + 1) (k + 1) = v3 at *
  generalize (d - v) * v0 + (v - c) * v1 = L0 at *
  generalize (d - v) * v2 + (v - c) * v3 = L1 at *
  generalize d - c = D at *
  generalize b - a = E at *
  generalize b - u = F at *
  generalize u - a = G at *
  rw [← Int.mul_assoc, e]
  rw [show A * (F * R0 + G * R1) * D = A * (F * (R0 * D) + G * (R1 * D)) by grind, b0, b1]
  grind

theorem ceil_up {a b : Int} (hb : 0 < b) : a ≤ upD a b * b ∧ (upD a b - 1) * b < a := by
  unfold upD
  have k0 := Int.ediv_mul_le (-a) (show b ≠ 0 by omega)
  have k1 := Int.lt_ediv_add_one_mul_self (-a) hb
  generalize (-a) / b = q at *
  refine ⟨by rw [Int.neg_mul]; omega, ?_⟩
  rw [show (-q - 1) * b = -((q + 1) * b) by grind]
  omega

theorem it_num {t : Tab} {h u v : Int} (pp : PlcOk (plc t.us.xs u h)) (pq : PlcOk (plc t.vs.xs v h)) :
    itLo2 t h (u, v) * ((plc t.us.xs u h).al * (plc t.vs.xs v h).al) ≤ numT t h u v ∧ numT t h u v < (itLo2 t h (u, v) + 2) * ((plc t.us.xs u h).al * (plc t.vs.xs v h).al) ∧
    numT t h u v ≤ itHi2 t h (u, v) * ((plc t.us.xs u h).al * (plc t.vs.xs v h).al) ∧ (itHi2 t h (u, v) - 2) * ((plc t.us.xs u h).al * (plc t.vs.xs v h).al) < numT t h u v := by
  unfold itLo2 itHi2 itLo itHi numT
  (try simp only [])
  have a0 := pp.pos
  have a1 := pq.pos
  have a2 := pp.f0
  have a3 := pp.s0
  have a4 := pp.sum
  have row : ∀ j, inLo t j (plc t.vs.xs v h) * (plc t.vs.xs v h).al ≤ (plc t.vs.xs v h).f * tval t j (plc t.vs.xs v h).i + (plc t.vs.xs v h).s * tval t j ((plc t.vs.xs v h).i + 1) ∧
      (plc t.vs.xs v h).f * tval t j (plc t.vs.xs v h).i + (plc t.vs.xs v h).s * tval t j ((plc t.vs.xs v h).i + 1) < (inLo t j (plc t.vs.xs v h) + 1) * (plc t.vs.xs v h).al ∧
      (plc t.vs.xs v h).f * tval t j (plc t.vs.xs v h).i + (plc t.vs.xs v h).s * tval t j ((plc t.vs.xs v h).i + 1) ≤ inHi t j (plc t.vs.xs v h) * (plc t.vs.xs v h).al ∧
      (inHi t j (plc t.vs.xs v h) - 1) * (plc t.vs.xs v h).al < (plc t.vs.xs v h).f * tval t j (plc t.vs.xs v h).i + (plc t.vs.xs v h).s * tval t j ((plc t.vs.xs v h).i + 1) := fun j => by
    unfold inLo inHi mixLo mixHi
    exact ⟨Int.ediv_mul_le _ (by omega), Int.lt_ediv_add_one_mul_self _ a1, (ceil_up a1).1, (ceil_up a1).2⟩
  have r0 := row (plc t.us.xs u h).i
  have r1 := row ((plc t.us.xs u h).i + 1)
  clear row pp pq
  generalize (plc t.vs.xs v h).f * tval t (plc t.us.xs u h).i (plc t.vs.xs v h).i + (plc t.vs.xs v h).s * tval t (plc t.us.xs u h).i ((plc t.vs.xs v h).i + 1) = R0 at *
  generalize (plc t.vs.xs v h).f * tval t ((plc t.us.xs u h).i + 1) (plc t.vs.xs v h).i + (plc t.vs.xs v h).s * tval t ((plc t.us.xs u h).i + 1) ((plc t.vs.xs v h).i + 1) = R1 at *
  generalize inLo t (plc t.us.xs u h).i (plc t.vs.xs v h) = l0 at *
  generalize inLo t ((plc t.us.xs u h).i + 1) (plc t.vs.xs v h) = l1 at *
  generalize inHi t (plc t.us.xs u h).i (plc t.vs.xs v h) = g0 at *
  generalize inHi t ((plc t.us.xs u h).i + 1) (plc t.vs.xs v h) = g1 at *
  unfold mixLo mixHi
  generalize (plc t.vs.xs v h).al = B at *
  generalize (plc t.us.xs u h).al = A at *
  generalize (plc t.us.xs u h).f = f at *
  generalize (plc t.us.xs u h).s = s at *
  obtain ⟨c0, c1, c2, c3⟩ := r0
  obtain ⟨d0, d1, d2, d3⟩ := r1
  have m0 : (f * l0 + s * l1) / A * A ≤ f * l0 + s * l1 := Int.ediv_mul_le _ (by omega)
  have m1 : f * l0 + s * l1 < ((f * l0 + s * l1) / A + 1) * A := Int.lt_ediv_add_one_mul_self _ a0
  obtain ⟨m2, m3⟩ := ceil_up (a := f * g0 + s * g1) a0
  generalize (f * l0 + s * l1) / A = x at *
  generalize upD (f * g0 + s * g1) A = y at *
  have p0 := Int.mul_le_mul_of_nonneg_left c0 a2
  have p1 := Int.mul_le_mul_of_nonneg_left d0 a3
  have p2 := Int.mul_le_mul_of_nonneg_left (show R0 ≤ (l0 + 1) * B - 1 by omega) a2
  have p3 := Int.mul_le_mul_of_nonneg_left (show R1 ≤ (l1 + 1) * B - 1 by omega) a3
  have p4 := Int.mul_le_mul_of_nonneg_left c2 a2
  have p5 := Int.mul_le_mul_of_nonneg_left d2 a3
  have p6 := Int.mul_le_mul_of_nonneg_left (show (g0 - 1) * B + 1 ≤ R0 by omega) a2
  have p7 := Int.mul_le_mul_of_nonneg_left (show (g1 - 1) * B + 1 ≤ R1 by omega) a3
  have q0 := Int.mul_le_mul_of_nonneg_right m0 (show 0 ≤ B by omega)
  have q1 := Int.mul_le_mul_of_nonneg_right (show f * l0 + s * l1 + 1 ≤ (x + 1) * A by omega) (show 0 ≤ B by omega)
  have q2 := Int.mul_le_mul_of_nonneg_right m2 (show 0 ≤ B by omega)
  have q3 := Int.mul_le_mul_of_nonneg_right (show (y - 1) * A + 1 ≤ f * g0 + s * g1 by omega) (show 0 ≤ B by omega)
  subst a4
  refine ⟨?_, ?_, ?_, ?_⟩ <;> grind

/-- the code's ends around the exact interpolation, seen from any neighbours -/
theorem it_bil {t : Tab} (ok : TabOk t) {h u v : Int} (h0 : 1 ≤ h) (h1 : h ≤ 30000) {i k : Nat} (hi : i + 1 < t.us.xs.length) (hk : k + 1 < t.vs.xs.length)
    (i0 : nth t.us.xs i * h ≤ u) (i1 : u ≤ nth t.us.xs (i + 1) * h) (k0 : nth t.vs.xs k * h ≤ v) (k1 : v ≤ nth t.vs.xs (k + 1) * h) :
    itLo2 t h (u, v) * bilD t h i k ≤ bilT t h i k u v ∧ bilT t h i k u v < (itLo2 t h (u, v) + 2) * bilD t h i k ∧ bilT t h i k u v ≤ itHi2 t h (u, v) * bilD t h i k ∧ (itHi2 t h (u, v) - 2) * bilD t h i k < bilT t h i k u v := by
  have pp := (plc_ok ok.us h0 h1 (brk_in ok.us h0 hi i0 i1)).1
  have pq := (plc_ok ok.vs h0 h1 (brk_in ok.vs h0 hk k0 k1)).1
  have e := numT_bil ok h0 h1 hi hk i0 i1 k0 k1
  have D := bilD_pos ok h0 hi hk
  obtain ⟨n0, n1, n2, n3⟩ := it_num pp pq
  have A : 0 < (plc t.us.xs u h).al * (plc t.vs.xs v h).al := Int.mul_pos pp.pos pq.pos
  generalize (plc t.us.xs u h).al * (plc t.vs.xs v h).al = a at *
  generalize numT t h u v = n at *
  generalize bilD t h i k = d at *
  generalize bilT t h i k u v = b at *
  generalize itLo2 t h (u, v) = x at *
  generalize itHi2 t h (u, v) = y at *
  refine ⟨?_, ?_, ?_, ?_⟩
  · refine Int.le_of_mul_le_mul_left ?_ A
    rw [← e, show a * (x * d) = x * a * d by grind]
    exact Int.mul_le_mul_of_nonneg_right n0 (by omega)
  · refine Int.lt_of_mul_lt_mul_left ?_ (show 0 ≤ a by omega)
    rw [← e, show a * ((x + 2) * d) = (x + 2) * a * d by grind]
    exact Int.mul_lt_mul_of_pos_right n1 D
  · refine Int.le_of_mul_le_mul_left ?_ A
    rw [← e, show a * (y * d) = y * a * d by grind]
    exact Int.mul_le_mul_of_nonneg_right n2 (by omega)
  · refine Int.lt_of_mul_lt_mul_left ?_ (show 0 ≤ a by omega)
    rw [← e, show a * ((y - 2) * d) = (y - 2) * a * d by grind]
    exact Int.mul_lt_mul_of_pos_right n3 D

/-- around a point of a span there are two of its stops, between the same tangents -/
theorem stop_lr {us : List Int} (ok : ListOk us) {h x f g : Int} (h0 : 1 ≤ h) {i : Nat} (hi : i + 1 < us.length) (i0 : nth us i * h ≤ x) (i1 : x ≤ nth us (i + 1) * h) (hf : f ≤ x) (hg : x ≤ g) :
    ∃ l r, l ∈ stopsL us f g h ∧ r ∈ stopsL us f g h ∧ l ≤ x ∧ x ≤ r ∧ nth us i * h ≤ l ∧ l ≤ nth us (i + 1) * h ∧ nth us i * h ≤ r ∧ r ≤ nth us (i + 1) * h := by
  have tan : ∀ j, j < us.length → f ≤ nth us j * h → nth us j * h ≤ g → nth us j * h ∈ stopsL us f g h := fun j hj a b => by
    unfold stopsL mids
    rw [List.take_length]
    refine List.mem_append.2 (.inr (List.mem_map.2 ⟨nth us j, List.mem_filter.2 ⟨?_, inB_iff.2 ⟨a, b⟩⟩, rfl⟩))
    rw [nth_eq hj]; exact List.getElem_mem hj
  have endf : inB2 us h f f = true → f ∈ stopsL us f g h := fun hb => by
    unfold stopsL endsL endL
    rw [if_pos hb]
    simp
  have endg : inB2 us h g g = true → g ∈ stopsL us f g h := fun hb => by
    unfold stopsL endsL endL
    simp [hb]
  have L : ∃ l, l ∈ stopsL us f g h ∧ l ≤ x ∧ nth us i * h ≤ l := by
    by_cases c : f ≤ nth us i * h
    · exact ⟨_, tan i (by omega) c (by omega), i0, Int.le_refl _⟩
    · exact ⟨f, endf (brk_in ok h0 hi (by omega) (by omega)), hf, by omega⟩
  have R : ∃ r, r ∈ stopsL us f g h ∧ x ≤ r ∧ r ≤ nth us (i + 1) * h := by
    by_cases c : nth us (i + 1) * h ≤ g
    · exact ⟨_, tan (i + 1) hi (by omega) c, i1, Int.le_refl _⟩
    · exact ⟨g, endg (brk_in ok h0 hi (by omega) (by omega)), hg, by omega⟩
  obtain ⟨l, a0, a1, a2⟩ := L
  obtain ⟨r, b0, b1, b2⟩ := R
  exact ⟨l, r, a0, b0, a1, b1, a2, by omega, by omega, b2⟩

/-- the exact interpolation at any point of a rectangle is in what is found over it -/
theorem fnd_bil {t : Tab} (ok : TabOk t) {x0 x1 y0 y1 h u v : Int} (h0 : 1 ≤ h) (h1 : h ≤ 30000) {i k : Nat} (hi : i + 1 < t.us.xs.length) (hk : k + 1 < t.vs.xs.length)
    (i0 : nth t.us.xs i * h ≤ u) (i1 : u ≤ nth t.us.xs (i + 1) * h) (k0 : nth t.vs.xs k * h ≤ v) (k1 : v ≤ nth t.vs.xs (k + 1) * h)
    (f0 : 1000 * x0 ≤ u) (f1 : u ≤ 1000 * x1) (g0 : 1000 * y0 ≤ v) (g1 : v ≤ 1000 * y1) :
    hullLo (fnd t x0 x1 y0 y1 h) * bilD t h i k ≤ bilT t h i k u v ∧ bilT t h i k u v ≤ hullHi (fnd t x0 x1 y0 y1 h) * bilD t h i k := by
  obtain ⟨l, r, l0, r0, l1, r1, l2, l3, r2, r3⟩ := stop_lr ok.us h0 hi i0 i1 f0 f1
  obtain ⟨l', r', m0, s0, m1, s1, m2, m3, s2, s3⟩ := stop_lr ok.vs h0 hk k0 k1 g0 g1
  have D := bilD_pos ok h0 hi hk
  have at2 : ∀ z z', z ∈ stopsL t.us.xs (1000 * x0) (1000 * x1) h → z' ∈ stopsL t.vs.xs (1000 * y0) (1000 * y1) h → nth t.us.xs i * h ≤ z → z ≤ nth t.us.xs (i + 1) * h → nth t.vs.xs k * h ≤ z' → z' ≤ nth t.vs.xs (k + 1) * h →
      hullLo (fnd t x0 x1 y0 y1 h) * bilD t h i k ≤ bilT t h i k z z' ∧ bilT t h i k z z' ≤ hullHi (fnd t x0 x1 y0 y1 h) * bilD t h i k := fun z z' a b c d e f => by
    have hm : (itLo2 t h (z, z'), itHi2 t h (z, z')) ∈ fnd t x0 x1 y0 y1 h := mem_fnd.2 (.inl ⟨z, z', a, b, rfl⟩)
    have k0 := hullLo_le hm
    have k1 := hullHi_ge hm
    obtain ⟨n0, _, n2, _⟩ := it_bil ok h0 h1 hi hk c d e f
    have q0 := Int.mul_le_mul_of_nonneg_right k0 (show 0 ≤ bilD t h i k by omega)
    have q1 := Int.mul_le_mul_of_nonneg_right k1 (show 0 ≤ bilD t h i k by omega)
    exact ⟨Int.le_trans q0 n0, Int.le_trans n2 q1⟩
  have a0 := at2 l l' l0 m0 l2 l3 m2 m3
  have a1 := at2 l r' l0 s0 l2 l3 s2 s3
  have a2 := at2 r l' r0 m0 r2 r3 m2 m3
  have a3 := at2 r r' r0 s0 r2 r3 s2 s3
  exact ⟨bil_ge a0.1 a1.1 a2.1 a3.1 l1 r1 m1 s1, bil_le a0.2 a1.2 a2.2 a3.2 l1 r1 m1 s1⟩

/-- what the code finds at a point of a rectangle is in what it finds over it, up to 1 -/
theorem it_near {t : Tab} (ok : TabOk t) {x0 x1 y0 y1 h u v : Int} (h0 : 1 ≤ h) (h1 : h ≤ 30000) (hu : inB2 t.us.xs h u u = true) (hv : inB2 t.vs.xs h v v = true)
    (f0 : 1000 * x0 ≤ u) (f1 : u ≤ 1000 * x1) (g0 : 1000 * y0 ≤ v) (g1 : v ≤ 1000 * y1) :
    hullLo (fnd t x0 x1 y0 y1 h) - 1 ≤ itLo2 t h (u, v) ∧ itHi2 t h (u, v) ≤ hullHi (fnd t x0 x1 y0 y1 h) + 1 := by
  obtain ⟨_, a0, a1, a2⟩ := plc_ok ok.us h0 h1 hu
  obtain ⟨_, b0, b1, b2⟩ := plc_ok ok.vs h0 h1 hv
  have D := bilD_pos ok h0 a0 b0
  obtain ⟨n0, n1, n2, n3⟩ := it_bil ok h0 h1 a0 b0 a1 a2 b1 b2
  obtain ⟨m0, m1⟩ := fnd_bil ok h0 h1 a0 b0 a1 a2 b1 b2 f0 f1 g0 g1
  have p := Int.lt_of_mul_lt_mul_right (Int.lt_of_le_of_lt m0 n1) (Int.le_of_lt D)
  have q := Int.lt_of_mul_lt_mul_right (Int.lt_of_lt_of_le n3 m1) (Int.le_of_lt D)
  omega

theorem stops_span {us : List Int} {f g h z : Int} (hfg : f ≤ g) (hm : z ∈ stopsL us f g h) : f ≤ z ∧ z ≤ g := by
  unfold stopsL at hm
  rcases List.mem_append.1 hm with hm | hm
  · unfold endsL at hm
    rcases List.mem_append.1 hm with hm | hm
    · obtain ⟨rfl, _⟩ := mem_ends hm; exact ⟨Int.le_refl _, hfg⟩
    · obtain ⟨rfl, _⟩ := mem_ends hm; exact ⟨hfg, Int.le_refl _⟩
  · unfold mids at hm
    obtain ⟨w, hw, rfl⟩ := List.mem_map.1 hm
    obtain ⟨_, hw⟩ := List.mem_filter.1 hw
    exact inB_iff.1 hw

/-- of a part of a rectangle -/
theorem fnd_near {t : Tab} (ok : TabOk t) {x0 x1 y0 y1 a0 a1 b0 b1 h : Int} (h0 : 1 ≤ h) (h1 : h ≤ 30000) (X0 : -200000 ≤ x0) (X1 : x1 ≤ 200000) (Y0 : -200000 ≤ y0) (Y1 : y1 ≤ 200000)
    (e0 : x0 ≤ a0) (e1 : a0 ≤ a1) (e2 : a1 ≤ x1) (e3 : y0 ≤ b0) (e4 : b0 ≤ b1) (e5 : b1 ≤ y1) :
    hullLo (fnd t x0 x1 y0 y1 h) - 1 ≤ hullLo (fnd t a0 a1 b0 b1 h) ∧ hullHi (fnd t a0 a1 b0 b1 h) ≤ hullHi (fnd t x0 x1 y0 y1 h) + 1 := by
  have hn := fnd_ne (t := t) (h := h) e1 e4
  have key : ∀ p ∈ fnd t a0 a1 b0 b1 h, hullLo (fnd t x0 x1 y0 y1 h) - 1 ≤ p.1 ∧ p.2 ≤ hullHi (fnd t x0 x1 y0 y1 h) + 1 := fun p hp => by
    rcases mem_fnd.1 hp with ⟨u, v, hu, hv, rfl⟩ | ⟨hb, rfl⟩
    · obtain ⟨u0, _, _⟩ := mem_stops ok.us h0 h1 (by omega) (by omega) (by omega) (by omega) hu
      obtain ⟨v0, _, _⟩ := mem_stops ok.vs h0 h1 (by omega) (by omega) (by omega) (by omega) hv
      have su := stops_span (by omega) hu
      have sv := stops_span (by omega) hv
      exact it_near ok h0 h1 u0 v0 (by omega) (by omega) (by omega) (by omega)
    · have hb' : (inB2 t.us.xs h (1000 * x0) (1000 * x1) && inB2 t.vs.xs h (1000 * y0) (1000 * y1)) = false := by
        rw [Bool.and_eq_false_iff] at hb ⊢
        rcases hb with hb | hb
        · exact .inl (decide_eq_false (fun hh => of_decide_eq_false hb ⟨by omega, by omega⟩))
        · exact .inr (decide_eq_false (fun hh => of_decide_eq_false hb ⟨by omega, by omega⟩))
      have hm : ((0, t.side) : Int × Int) ∈ fnd t x0 x1 y0 y1 h := mem_fnd.2 (.inr ⟨hb', rfl⟩)
      have k0 := hullLo_le hm
      have k1 := hullHi_ge hm
      simp only [] at k0 k1 ⊢
      omega
  obtain ⟨p, hp, e⟩ := hullLo_is hn
  obtain ⟨q, hq, e'⟩ := hullHi_is hn
  rw [e, e']
  exact ⟨(key p hp).1, (key q hq).2⟩

theorem stops_half {us : List Int} {f m g h z : Int} (hf : f ≤ m) (hg : m ≤ g) (hm : z ∈ stopsL us f g h) : z ∈ stopsL us f m h ∨ z ∈ stopsL us m g h := by
  have mid : ∀ a b, a ≤ z → z ≤ b → z ∈ mids us f g h us.length → z ∈ stopsL us a b h := fun a b ha hb hz => by
    unfold stopsL
    refine List.mem_append.2 (.inr ?_)
    unfold mids at *
    obtain ⟨w, hw, rfl⟩ := List.mem_map.1 hz
    obtain ⟨hw, _⟩ := List.mem_filter.1 hw
    exact List.mem_map.2 ⟨w, List.mem_filter.2 ⟨hw, inB_iff.2 ⟨ha, hb⟩⟩, rfl⟩
  have sp := stops_span (by omega) hm
  have hm0 := hm
  unfold stopsL at hm
  rcases List.mem_append.1 hm with hm | hm
  · unfold endsL at hm
    rcases List.mem_append.1 hm with hm | hm
    · obtain ⟨rfl, hb⟩ := mem_ends hm; left; unfold stopsL endsL endL; rw [if_pos hb]; simp
    · obtain ⟨rfl, hb⟩ := mem_ends hm; right; unfold stopsL endsL endL; simp [hb]
  · by_cases c : z ≤ m
    · exact .inl (mid f m (by omega) c hm)
    · exact .inr (mid m g (by omega) (by omega) hm)

/-- what is found over a rectangle is in the hull of what is found over both halves -/
theorem fnd_halves {t : Tab} {x0 m x1 y0 y1 h : Int} (e0 : x0 ≤ m) (e1 : m ≤ x1) (e2 : y0 ≤ y1) :
    min (hullLo (fnd t x0 m y0 y1 h)) (hullLo (fnd t m x1 y0 y1 h)) ≤ hullLo (fnd t x0 x1 y0 y1 h) ∧ hullHi (fnd t x0 x1 y0 y1 h) ≤ max (hullHi (fnd t x0 m y0 y1 h)) (hullHi (fnd t m x1 y0 y1 h)) := by
  have hn := fnd_ne (t := t) (h := h) (show x0 ≤ x1 by omega) e2
  have key : ∀ p ∈ fnd t x0 x1 y0 y1 h, p ∈ fnd t x0 m y0 y1 h ∨ p ∈ fnd t m x1 y0 y1 h := fun p hp => by
    rcases mem_fnd.1 hp with ⟨u, v, hu, hv, rfl⟩ | ⟨hb, rfl⟩
    · rcases stops_half (m := 1000 * m) (by omega) (by omega) hu with hu | hu
      · exact .inl (mem_fnd.2 (.inl ⟨u, v, hu, hv, rfl⟩))
      · exact .inr (mem_fnd.2 (.inl ⟨u, v, hu, hv, rfl⟩))
    · rw [Bool.and_eq_false_iff] at hb
      rcases hb with hb | hb
      · have hb := of_decide_eq_false hb
        by_cases c : nth t.us.xs 0 * h ≤ 1000 * x0
        · refine .inr (mem_fnd.2 (.inr ⟨?_, rfl⟩))
          rw [Bool.and_eq_false_iff]
          exact .inl (decide_eq_false (fun hh => hb ⟨c, hh.2⟩))
        · refine .inl (mem_fnd.2 (.inr ⟨?_, rfl⟩))
          rw [Bool.and_eq_false_iff]
          exact .inl (decide_eq_false (fun hh => c hh.1))
      · refine .inl (mem_fnd.2 (.inr ⟨?_, rfl⟩))
        rw [Bool.and_eq_false_iff]
        exact .inr hb
  obtain ⟨p, hp, e⟩ := hullLo_is hn
  obtain ⟨q, hq, e'⟩ := hullHi_is hn
  rw [e, e']
  refine ⟨?_, ?_⟩
  · rcases key p hp with hp | hp
    · have := hullLo_le hp; omega
    · have := hullLo_le hp; omega
  · rcases key q hq with hq | hq
    · have := hullHi_ge hq; omega
    · have := hullHi_ge hq; omega
theorem fnd_halves' {t : Tab} {x0 m x1 y0 y1 h : Int} (e0 : y0 ≤ m) (e1 : m ≤ y1) (e2 : x0 ≤ x1) :
    min (hullLo (fnd t x0 x1 y0 m h)) (hullLo (fnd t x0 x1 m y1 h)) ≤ hullLo (fnd t x0 x1 y0 y1 h) ∧ hullHi (fnd t x0 x1 y0 y1 h) ≤ max (hullHi (fnd t x0 x1 y0 m h)) (hullHi (fnd t x0 x1 m y1 h)) := by
  have hn := fnd_ne (t := t) (h := h) e2 (show y0 ≤ y1 by omega)
  have key : ∀ p ∈ fnd t x0 x1 y0 y1 h, p ∈ fnd t x0 x1 y0 m h ∨ p ∈ fnd t x0 x1 m y1 h := fun p hp => by
    rcases mem_fnd.1 hp with ⟨u, v, hu, hv, rfl⟩ | ⟨hb, rfl⟩
    · rcases stops_half (m := 1000 * m) (by omega) (by omega) hv with hv | hv
      · exact .inl (mem_fnd.2 (.inl ⟨u, v, hu, hv, rfl⟩))
      · exact .inr (mem_fnd.2 (.inl ⟨u, v, hu, hv, rfl⟩))
    · rw [Bool.and_eq_false_iff] at hb
      rcases hb with hb | hb
      · refine .inl (mem_fnd.2 (.inr ⟨?_, rfl⟩))
        rw [Bool.and_eq_false_iff]
        exact .inl hb
      · have hb := of_decide_eq_false hb
        by_cases c : nth t.vs.xs 0 * h ≤ 1000 * y0
        · refine .inr (mem_fnd.2 (.inr ⟨?_, rfl⟩))
          rw [Bool.and_eq_false_iff]
          exact .inr (decide_eq_false (fun hh => hb ⟨c, hh.2⟩))
        · refine .inl (mem_fnd.2 (.inr ⟨?_, rfl⟩))
          rw [Bool.and_eq_false_iff]
          exact .inr (decide_eq_false (fun hh => c hh.1))
  obtain ⟨p, hp, e⟩ := hullLo_is hn
  obtain ⟨q, hq, e'⟩ := hullHi_is hn
  rw [e, e']
  refine ⟨?_, ?_⟩
  · rcases key p hp with hp | hp
    · have := hullLo_le hp; omega
    · have := hullLo_le hp; omega
  · rcases key q hq with hq | hq
    · have := hullHi_ge hq; omega
    · have := hullHi_ge hq; omega
end Go.Proofs.Ytgmpipciinphiaa
