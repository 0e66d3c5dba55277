/- Plain: the interpolation in a direction, seen from any four values around it. -/
import Derived.Test.YtgmpipciinphiaaRit
namespace Go.Proofs.Ytgmpipciinphiaa
set_option linter.unusedSimpArgs false
set_option linter.unusedVariables false

theorem lmono {us : List Int} (ok : ListOk us) {j k : Nat} (hjk : j < k) (hk : k < us.length) : nth us j < nth us k := by
  induction k with
  | zero => omega
  | succ k ih =>
    by_cases e : j = k
    · subst e; exact ok.up _ hk
    · exact Int.lt_trans (ih (by omega) (by omega)) (ok.up k hk)
theorem lmonoh {us : List Int} (ok : ListOk us) {h : Int} (h0 : 1 ≤ h) {j k : Nat} (hjk : j < k) (hk : k < us.length) : nth us j * h < nth us k * h :=
  Int.mul_lt_mul_of_pos_right (lmono ok hjk hk) (by omega)
theorem lmonole {us : List Int} (ok : ListOk us) {h : Int} (h0 : 1 ≤ h) {j k : Nat} (hjk : j ≤ k) (hk : k < us.length) : nth us j * h ≤ nth us k * h := by
  by_cases e : j = k
  · subst e; exact Int.le_refl _
  · exact Int.le_of_lt (lmonoh ok h0 (by omega) hk)

theorem brk {us : List Int} (ok : ListOk us) {h x : Int} (h0 : 1 ≤ h) {i a : Nat} (hi : i + 1 < us.length) (ha : a + 1 < us.length) (i0 : nth us i * h ≤ x) (i1 : x ≤ nth us (i + 1) * h) (a0 : nth us a * h ≤ x) (a1 : x ≤ nth us (a + 1) * h) :
    a = i ∨ (a = i + 1 ∧ x = nth us a * h) ∨ (a + 1 = i ∧ x = nth us (a + 1) * h) := by
  rcases Nat.lt_trichotomy a i with hlt | heq | hgt
  · refine .inr (.inr ?_)
    by_cases e : a + 1 = i
    · subst e; exact ⟨rfl, by omega⟩
    · have := lmonoh ok h0 (show a + 1 < i by omega) (by omega); omega
  · exact .inl heq
  · refine .inr (.inl ?_)
    by_cases e : a = i + 1
    · subst e; exact ⟨rfl, by omega⟩
    · have := lmonoh ok h0 (show i + 1 < a by omega) (by omega); omega

theorem brk_in {us : List Int} (ok : ListOk us) {h x : Int} (h0 : 1 ≤ h) {i : Nat} (hi : i + 1 < us.length) (i0 : nth us i * h ≤ x) (i1 : x ≤ nth us (i + 1) * h) : inB2 us h x x = true := by
  have k0 := lmonole ok h0 (Nat.zero_le i) (by omega)
  have k1 := lmonole ok h0 (show i + 1 ≤ us.length - 1 by omega) (by omega)
  exact decide_eq_true ⟨by omega, by omega⟩

/-- the weights at the code's place, laid on the two neighbours that were found -/
theorem pmix {us : List Int} (ok : ListOk us) {h x : Int} (h0 : 1 ≤ h) (h1 : h ≤ 30000) {i : Nat} (hi : i + 1 < us.length) (i0 : nth us i * h ≤ x) (i1 : x ≤ nth us (i + 1) * h) (g : Nat → Int) :
    ∃ u v : Int, (u = g i ∨ u = g (i + 1)) ∧ (v = g i ∨ v = g (i + 1)) ∧ (plc us x h).f * g (plc us x h).i + (plc us x h).s * g ((plc us x h).i + 1) = (plc us x h).f * u + (plc us x h).s * v := by
  obtain ⟨pok, ha, a0, a1⟩ := plc_ok ok h0 h1 (brk_in ok h0 hi i0 i1)
  rcases brk ok h0 hi ha i0 i1 a0 a1 with e | ⟨e, ex⟩ | ⟨e, ex⟩
  · refine ⟨g i, g (i + 1), .inl rfl, .inr rfl, ?_⟩
    simp only [plc, e]
  · refine ⟨g (i + 1), g (i + 1), .inr rfl, .inr rfl, ?_⟩
    have z : (plc us x h).s = 0 := by show x - nth us (plcAt us x h) * h = 0; omega
    have ei : (plc us x h).i = i + 1 := e
    rw [z, ei, Int.zero_mul, Int.zero_mul]
  · refine ⟨g i, g i, .inl rfl, .inl rfl, ?_⟩
    have z : (plc us x h).f = 0 := by show nth us (plcAt us x h + 1) * h - x = 0; omega
    have ei : (plc us x h).i + 1 = i := e
    rw [z, ei, Int.zero_mul, Int.zero_mul]

theorem upD_ge {a b : Int} (hb : 0 < b) : a / b ≤ upD a b := by
  have k0 := Int.ediv_mul_le a (show b ≠ 0 by omega)
  have k1 := Int.ediv_mul_le (-a) (show b ≠ 0 by omega)
  unfold upD
  refine Int.not_lt.1 fun hc => ?_
  have k2 : 1 ≤ a / b + (-a) / b := by omega
  have k3 := Int.mul_le_mul_of_nonneg_right k2 (show 0 ≤ b by omega)
  rw [Int.add_mul] at k3
  omega

/-- at one place: what is at least m, and at most M, stays so; and below stays below above -/
theorem pmix_bd {us : List Int} (ok : ListOk us) {h x : Int} (h0 : 1 ≤ h) (h1 : h ≤ 30000) {i : Nat} (hi : i + 1 < us.length) (i0 : nth us i * h ≤ x) (i1 : x ≤ nth us (i + 1) * h) {m M : Int} (g G : Nat → Int)
    (g0 : m ≤ g i) (g1 : m ≤ g (i + 1)) (G0 : G i ≤ M) (G1 : G (i + 1) ≤ M) :
    m ≤ mixLo (plc us x h) (g (plc us x h).i) (g ((plc us x h).i + 1)) ∧ mixHi (plc us x h) (G (plc us x h).i) (G ((plc us x h).i + 1)) ≤ M := by
  have pok := (plc_ok ok h0 h1 (brk_in ok h0 hi i0 i1)).1
  obtain ⟨u, v, hu, hv, e⟩ := pmix ok h0 h1 hi i0 i1 g
  obtain ⟨U, V, hU, hV, E⟩ := pmix ok h0 h1 hi i0 i1 G
  have k0 : m ≤ mixLo (plc us x h) u v := mixLo_ge pok (by rcases hu with rfl | rfl <;> assumption) (by rcases hv with rfl | rfl <;> assumption)
  have k1 : mixHi (plc us x h) U V ≤ M := mixHi_le pok (by rcases hU with rfl | rfl <;> assumption) (by rcases hV with rfl | rfl <;> assumption)
  refine ⟨?_, ?_⟩
  · unfold mixLo at k0 ⊢; rw [e]; exact k0
  · unfold mixHi at k1 ⊢; rw [E]; exact k1

theorem mix_lohi {p : Plc} (h : PlcOk p) {x y x' y' : Int} (hx : x ≤ x') (hy : y ≤ y') : mixLo p x y ≤ mixHi p x' y' := by
  have a := Int.mul_le_mul_of_nonneg_left hx h.f0
  have b := Int.mul_le_mul_of_nonneg_left hy h.s0
  have c : (p.f * x + p.s * y) / p.al ≤ (p.f * x' + p.s * y') / p.al := Int.ediv_le_ediv h.pos (by omega)
  exact Int.le_trans c (upD_ge h.pos)

theorem rval_bd {t : Tab} (ok : TabOk t) {h u v : Int} (h0 : 1 ≤ h) (h1 : h ≤ 30000) {i k : Nat} (hi : i + 1 < t.us.xs.length) (hk : k + 1 < t.vs.xs.length)
    (i0 : nth t.us.xs i * h ≤ u) (i1 : u ≤ nth t.us.xs (i + 1) * h) (k0 : nth t.vs.xs k * h ≤ v) (k1 : v ≤ nth t.vs.xs (k + 1) * h) {m M : Int}
    (a0 : m ≤ tval t i k) (a1 : m ≤ tval t i (k + 1)) (a2 : m ≤ tval t (i + 1) k) (a3 : m ≤ tval t (i + 1) (k + 1))
    (b0 : tval t i k ≤ M) (b1 : tval t i (k + 1) ≤ M) (b2 : tval t (i + 1) k ≤ M) (b3 : tval t (i + 1) (k + 1) ≤ M) :
    insB t u v h = true ∧ m ≤ (rval t h u v).1 ∧ (rval t h u v).2 ≤ M ∧ (rval t h u v).1 ≤ (rval t h u v).2 := by
  have ib := brk_in ok.us h0 hi i0 i1
  have kb := brk_in ok.vs h0 hk k0 k1
  have hin : insB t u v h = true := by unfold insB; rw [ib, kb]; rfl
  refine ⟨hin, ?_⟩
  unfold rval
  rw [if_pos hin]
  have r0 := pmix_bd ok.vs h0 h1 hk k0 k1 (m := m) (M := M) (tval t i) (tval t i) a0 a1 b0 b1
  have r1 := pmix_bd ok.vs h0 h1 hk k0 k1 (m := m) (M := M) (tval t (i + 1)) (tval t (i + 1)) a2 a3 b2 b3
  have r2 := pmix_bd ok.us h0 h1 hi i0 i1 (m := m) (M := M) (fun r => inLo t r (plc t.vs.xs v h)) (fun r => inHi t r (plc t.vs.xs v h)) r0.1 r1.1 r0.2 r1.2
  have pq := (plc_ok ok.vs h0 h1 kb).1
  have pp := (plc_ok ok.us h0 h1 ib).1
  exact ⟨r2.1, r2.2, mix_lohi pp (mix_lohi pq (Int.le_refl _) (Int.le_refl _)) (mix_lohi pq (Int.le_refl _) (Int.le_refl _))⟩

/-- in a direction of the table some neighbours are found -/
theorem brk_some {us : List Int} (ok : ListOk us) {h x : Int} (h0 : 1 ≤ h) (h1 : h ≤ 30000) (hx : inB2 us h x x = true) : ∃ i, i + 1 < us.length ∧ nth us i * h ≤ x ∧ x ≤ nth us (i + 1) * h :=
  ⟨_, (plc_ok ok h0 h1 hx).2⟩

/-- at a tangent -/
theorem pmix_at {us : List Int} (ok : ListOk us) {h : Int} (h0 : 1 ≤ h) (h1 : h ≤ 30000) {i : Nat} (hi : i < us.length) (g : Nat → Int) :
    inB2 us h (nth us i * h) (nth us i * h) = true ∧ mixLo (plc us (nth us i * h) h) (g (plc us (nth us i * h) h).i) (g ((plc us (nth us i * h) h).i + 1)) = g i ∧ mixHi (plc us (nth us i * h) h) (g (plc us (nth us i * h) h).i) (g ((plc us (nth us i * h) h).i + 1)) = g i := by
  have n0 := ok.n0
  have hin : inB2 us h (nth us i * h) (nth us i * h) = true := decide_eq_true ⟨lmonole ok h0 (Nat.zero_le i) hi, lmonole ok h0 (show i ≤ us.length - 1 by omega) (by omega)⟩
  refine ⟨hin, ?_⟩
  obtain ⟨pok, ha, a0, a1⟩ := plc_ok ok h0 h1 hin
  generalize hx : nth us i * h = x at *
  have key : (plc us x h).f * g (plc us x h).i + (plc us x h).s * g ((plc us x h).i + 1) = (plc us x h).al * g i := by
    rcases Nat.lt_trichotomy (plcAt us x h) i with hlt | heq | hgt
    · by_cases e : plcAt us x h + 1 = i
      · have z : (plc us x h).f = 0 := by show nth us (plcAt us x h + 1) * h - x = 0; rw [e]; omega
        have ei : (plc us x h).i + 1 = i := e
        have es := pok.sum
        rw [z, Int.zero_add] at es
        rw [z, ei, Int.zero_mul, ← es]
        omega
      · have := lmonoh ok h0 (show plcAt us x h + 1 < i by omega) hi; omega
    · have z : (plc us x h).s = 0 := by show x - nth us (plcAt us x h) * h = 0; rw [heq]; omega
      have ei : (plc us x h).i = i := heq
      have es := pok.sum
      rw [z, Int.add_zero] at es
      rw [z, ei, Int.zero_mul, ← es]
      omega
    · have := lmonoh ok h0 hgt (by omega); omega
  have ne : (plc us x h).al ≠ 0 := by have := pok.pos; omega
  refine ⟨?_, ?_⟩
  · unfold mixLo; rw [key]; exact Int.mul_ediv_cancel_left _ ne
  · unfold mixHi upD; rw [key, ← Int.mul_neg, Int.mul_ediv_cancel_left _ ne]; omega

theorem rval_at {t : Tab} (ok : TabOk t) {h : Int} (h0 : 1 ≤ h) (h1 : h ≤ 30000) {i k : Nat} (hi : i < t.us.xs.length) (hk : k < t.vs.xs.length) : rval t h (nth t.us.xs i * h) (nth t.vs.xs k * h) = (tval t i k, tval t i k) := by
  obtain ⟨ib, -, -⟩ := pmix_at ok.us h0 h1 hi (fun _ => 0)
  obtain ⟨kb, -, -⟩ := pmix_at ok.vs h0 h1 hk (fun _ => 0)
  have hin : insB t (nth t.us.xs i * h) (nth t.vs.xs k * h) h = true := by unfold insB; rw [ib, kb]; rfl
  unfold rval
  rw [if_pos hin]
  have k1 : ∀ r, inLo t r (plc t.vs.xs (nth t.vs.xs k * h) h) = tval t r k := fun r => (pmix_at ok.vs h0 h1 hk (tval t r)).2.1
  have k2 : ∀ r, inHi t r (plc t.vs.xs (nth t.vs.xs k * h) h) = tval t r k := fun r => (pmix_at ok.vs h0 h1 hk (tval t r)).2.2
  refine Prod.ext ?_ ?_
  · show mixLo _ (inLo t _ _) (inLo t _ _) = _
    rw [k1, k1]
    exact (pmix_at ok.us h0 h1 hi (fun r => tval t r k)).2.1
  · show mixHi _ (inHi t _ _) (inHi t _ _) = _
    rw [k2, k2]
    exact (pmix_at ok.us h0 h1 hi (fun r => tval t r k)).2.2
end Go.Proofs.Ytgmpipciinphiaa
