/- No result is greater at a smaller argument: plain facts about what the nine functions return. -/
import Derived.Test.YtdikelijnachjaaDoorFraM
import Derived.Test.YtdikelijnachjaaDoorRooA
import Derived.Test.YtdikelijnachjaaDoorEnM
namespace Go.Proofs.YtdikelijnachjaaDoor
set_option linter.unusedSimpArgs false
set_option linter.unusedVariables false
open Go.RowKit SineNear

/-- where the greater argument has no error, the smaller one has none, and its result is within -/
def Sub (p0 p1 pe q0 q1 qe : Int) : Prop := qe = 0 → pe = 0 ∧ q0 ≤ p0 ∧ p1 ≤ q1

theorem pas_small {s0 s1 y0 y1 a : Int} (h0 : y0 ≤ s0) (h1 : s1 ≤ y1) (h : pas s0 s1 a = true) : pas y0 y1 a = true := by
  unfold pas at *
  simp only [decide_eq_true_eq] at *
  omega
theorem si_small_lo {s0 s1 y0 y1 : Int} (h0 : y0 ≤ s0) (h : s0 ≤ s1) (h1 : s1 ≤ y1) : siLo y0 y1 ≤ siLo s0 s1 := by
  by_cases p : pas s0 s1 (-90000000) = true
  · have q := pas_small h0 h1 p
    unfold siLo
    rw [if_pos p, if_pos q]
    exact Int.le_refl _
  · have a := si_below y0 s0 y1 h0 (by omega)
    have b := si_below y0 s1 y1 (by omega) h1
    have e : siLo s0 s1 = if sinLo s1 < sinLo s0 then sinLo s1 else sinLo s0 := by
      conv => lhs; unfold siLo
      rw [if_neg p]
      rfl
    rw [e]
    split
    · exact b
    · exact a
theorem si_small_hi {s0 s1 y0 y1 : Int} (h0 : y0 ≤ s0) (h : s0 ≤ s1) (h1 : s1 ≤ y1) : siHi s0 s1 ≤ siHi y0 y1 := by
  rw [si_odd, si_odd]
  have := @si_small_lo (-s1) (-s0) (-y1) (-y0) (by omega) (by omega) (by omega)
  omega
theorem inB_small {s0 s1 y0 y1 l m : Int} (h0 : y0 ≤ s0) (h : s0 ≤ s1) (h1 : s1 ≤ y1) (k : inB y0 y1 l m = true) : inB s0 s1 l m = true := by
  have := inB_bd k
  exact decide_eq_true (by omega)

theorem sinOf_small {s0 s1 y0 y1 : Int} (h0 : y0 ≤ s0) (h : s0 ≤ s1) (h1 : s1 ≤ y1) : Sub (sofLo s0 s1) (sofHi s0 s1) (angE s0 s1) (sofLo y0 y1) (sofHi y0 y1) (angE y0 y1) := by
  intro k
  cases hy : inB y0 y1 (-3600000000) 3600000000
  · unfold angE at k; rw [hy] at k; exact absurd k (by decide)
  · have hs := inB_small h0 h h1 hy
    unfold sofLo sofHi angE
    rw [hy, hs]
    exact ⟨rfl, si_small_lo h0 h h1, si_small_hi h0 h h1⟩
theorem cosOf_small {s0 s1 y0 y1 : Int} (h0 : y0 ≤ s0) (h : s0 ≤ s1) (h1 : s1 ≤ y1) : Sub (cofLo s0 s1) (cofHi s0 s1) (angE s0 s1) (cofLo y0 y1) (cofHi y0 y1) (angE y0 y1) := by
  intro k
  cases hy : inB y0 y1 (-3600000000) 3600000000
  · unfold angE at k; rw [hy] at k; exact absurd k (by decide)
  · have hs := inB_small h0 h h1 hy
    unfold cofLo cofHi angE
    rw [hy, hs]
    exact ⟨rfl, si_small_lo (by omega) (by omega) (by omega), si_small_hi (by omega) (by omega) (by omega)⟩

theorem arcN_small (n : Nat) {x x' : Int} (h : x ≤ x') : arcN n x ≤ arcN n x' := by
  unfold arcN
  refine List.countP_mono_left fun i _ hp => ?_
  unfold arcP at *
  simp only [Bool.not_eq_true', decide_eq_false_iff_not] at *
  omega
theorem arcA_small {x x' : Int} (h : x ≤ x') : arcA x ≤ arcA x' := by
  have := arcN_small 180000000 h
  unfold arcA
  generalize arcN 180000000 x = r at *
  generalize arcN 180000000 x' = r' at *
  omega
theorem arcsin_small {s0 s1 y0 y1 : Int} (h0 : y0 ≤ s0) (h : s0 ≤ s1) (h1 : s1 ≤ y1) : Sub (asLo s0 s1) (asHi s0 s1) (oneE s0 s1) (asLo y0 y1) (asHi y0 y1) (oneE y0 y1) := by
  intro k
  cases hy : inB y0 y1 (-100000000) 100000000
  · unfold oneE at k; rw [hy] at k; exact absurd k (by decide)
  · have hs := inB_small h0 h h1 hy
    have a := @arcA_small (-s0) (-y0) (by omega)
    have b := arcA_small h1
    unfold asLo asHi oneE
    rw [hy, hs]
    refine ⟨if_pos rfl, ?_, ?_⟩
    · rw [if_pos rfl, if_pos rfl]; omega
    · rw [if_pos rfl, if_pos rfl]; exact b
theorem arccos_small {s0 s1 y0 y1 : Int} (h0 : y0 ≤ s0) (h : s0 ≤ s1) (h1 : s1 ≤ y1) : Sub (acLo s0 s1) (acHi s0 s1) (oneE s0 s1) (acLo y0 y1) (acHi y0 y1) (oneE y0 y1) := by
  intro k
  cases hy : inB y0 y1 (-100000000) 100000000
  · unfold oneE at k; rw [hy] at k; exact absurd k (by decide)
  · have hs := inB_small h0 h h1 hy
    have a := @arcA_small (-s0) (-y0) (by omega)
    have b := arcA_small h1
    unfold acLo acHi oneE
    rw [hy, hs]
    refine ⟨if_pos rfl, ?_, ?_⟩
    · rw [if_pos rfl, if_pos rfl]; omega
    · rw [if_pos rfl, if_pos rfl]; omega
theorem root_small {s0 s1 y0 y1 : Int} (h0 : y0 ≤ s0) (h : s0 ≤ s1) (h1 : s1 ≤ y1) : Sub (roLo s0 s1) (roHi s0 s1) (roE s0 s1) (roLo y0 y1) (roHi y0 y1) (roE y0 y1) := by
  intro k
  cases hy : inB y0 y1 0 3000000000
  · unfold roE at k; rw [hy] at k; exact absurd k (by decide)
  · have hs := inB_small h0 h h1 hy
    have bd := inB_bd hy
    unfold roLo roHi roE
    rw [hy, hs]
    exact ⟨rfl, rt_mono (by omega) (by omega), rtU_mono (by omega) (by omega)⟩

/-- the same of whole results -/
def SubV (v u : Value) : Prop := ∃ p0 p1 pe q0 q1 qe, v = enclE p0 p1 pe ∧ u = enclE q0 q1 qe ∧ Sub p0 p1 pe q0 q1 qe
/-- a value that is an enclosure and an error -/
def IsE (v : Value) : Prop := ∃ l h e, v = enclE l h e
theorem IsE.if {b : Bool} {u v : Value} (h : IsE u) (k : IsE v) : IsE (if b then u else v) := by cases b; exact k; exact h
theorem isE (l h e : Int) : IsE (enclE l h e) := ⟨l, h, e, rfl⟩
theorem subV_bad {v : Value} (h : IsE v) (l k e : Int) (he : e ≠ 0) : SubV v (enclE l k e) := by
  obtain ⟨a, b, c, rfl⟩ := h
  exact ⟨a, b, c, l, k, e, rfl, rfl, fun x => absurd x he⟩
theorem subV_res {a b c d : Int} (h0 : c ≤ a) (h : a ≤ b) (h1 : b ≤ d) : SubV (resE a b) (resE c d) := by
  refine ⟨_, _, _, _, _, _, rfl, rfl, fun k => ?_⟩
  cases hy : valB c d
  · unfold vE at k; rw [hy] at k; exact absurd k (by decide)
  · have hs : valB a b = true := inB_small h0 h h1 hy
    unfold vLo vHi vE
    rw [hy, hs]
    exact ⟨rfl, h0, h1⟩
theorem val_small {s0 s1 y0 y1 t0 t1 z0 z1 : Int} (h0 : y0 ≤ s0) (h : s0 ≤ s1) (h1 : s1 ≤ y1) (g0 : z0 ≤ t0) (g : t0 ≤ t1) (g1 : t1 ≤ z1) (k : (valB y0 y1 && valB z0 z1) = true) : (valB s0 s1 && valB t0 t1) = true := by
  obtain ⟨a, b⟩ := and_yes k
  have a' : valB s0 s1 = true := inB_small h0 h h1 a
  have b' : valB t0 t1 = true := inB_small g0 g g1 b
  rw [a', b']; rfl

theorem plus_small {s0 s1 y0 y1 t0 t1 z0 z1 : Int} (h0 : y0 ≤ s0) (h : s0 ≤ s1) (h1 : s1 ≤ y1) (g0 : z0 ≤ t0) (g : t0 ≤ t1) (g1 : t1 ≤ z1) : SubV (plusV s0 s1 t0 t1) (plusV y0 y1 z0 z1) := by
  unfold plusV
  cases k : (valB y0 y1 && valB z0 z1)
  · exact subV_bad (IsE.if (isE _ _ _) (isE _ _ _)) _ _ _ (by decide)
  · rw [val_small h0 h h1 g0 g g1 k, if_pos rfl, if_pos rfl]
    refine subV_res ?_ ?_ ?_ <;> (try unfold lo4) <;> (try unfold hi4) <;> omega
theorem minus_small {s0 s1 y0 y1 t0 t1 z0 z1 : Int} (h0 : y0 ≤ s0) (h : s0 ≤ s1) (h1 : s1 ≤ y1) (g0 : z0 ≤ t0) (g : t0 ≤ t1) (g1 : t1 ≤ z1) : SubV (minusV s0 s1 t0 t1) (minusV y0 y1 z0 z1) := by
  unfold minusV
  cases k : (valB y0 y1 && valB z0 z1)
  · exact subV_bad (IsE.if (isE _ _ _) (isE _ _ _)) _ _ _ (by decide)
  · rw [val_small h0 h h1 g0 g g1 k, if_pos rfl, if_pos rfl]
    refine subV_res ?_ ?_ ?_ <;> (try unfold lo4) <;> (try unfold hi4) <;> omega
theorem fl_ge (c t : Int) (h : t * 100000000 ≤ c) : t ≤ c / 100000000 := by omega
theorem up_le (c t : Int) (h : c ≤ t * 100000000) : upD c 100000000 ≤ t := by unfold upD; omega
theorem lo4_ge {t a b c d : Int} (h1 : t ≤ a) (h2 : t ≤ b) (h3 : t ≤ c) (h4 : t ≤ d) : t ≤ lo4 a b c d := by unfold lo4; omega
theorem hi4_ge {t a b c d : Int} (h1 : a ≤ t) (h2 : b ≤ t) (h3 : c ≤ t) (h4 : d ≤ t) : hi4 a b c d ≤ t := by unfold hi4; omega
theorem times_small {s0 s1 y0 y1 t0 t1 z0 z1 : Int} (h0 : y0 ≤ s0) (h : s0 ≤ s1) (h1 : s1 ≤ y1) (g0 : z0 ≤ t0) (g : t0 ≤ t1) (g1 : t1 ≤ z1) : SubV (timesV s0 s1 t0 t1) (timesV y0 y1 z0 z1) := by
  unfold timesV
  cases k : (valB y0 y1 && valB z0 z1)
  · exact subV_bad (IsE.if (isE _ _ _) (isE _ _ _)) _ _ _ (by decide)
  · rw [val_small h0 h h1 g0 g g1 k, if_pos rfl, if_pos rfl]
    have p1 := @times_holds y0 y1 z0 z1 s0 t0 (by omega) (by omega) (by omega) (by omega)
    have p2 := @times_holds y0 y1 z0 z1 s0 t1 (by omega) (by omega) (by omega) (by omega)
    have p3 := @times_holds y0 y1 z0 z1 s1 t0 (by omega) (by omega) (by omega) (by omega)
    have p4 := @times_holds y0 y1 z0 z1 s1 t1 (by omega) (by omega) (by omega) (by omega)
    refine subV_res ?_ (times_order h g) ?_
    · exact lo4_ge (fl_ge _ _ p1.1) (fl_ge _ _ p2.1) (fl_ge _ _ p3.1) (fl_ge _ _ p4.1)
    · exact hi4_ge (up_le _ _ p1.2) (up_le _ _ p2.2) (up_le _ _ p3.2) (up_le _ _ p4.2)
theorem down_up (a b : Int) (hb : 0 < b) : a / b ≤ upD a b := by
  obtain ⟨q, r, h1, h2, h3, h4, h5⟩ := pos_parts a b hb
  rw [h5, h1]
  split <;> omega
theorem quo_order (a b : Int) (hb : b ≠ 0) : qLoQ a b ≤ qHiQ a b := by
  unfold qLoQ qHiQ
  by_cases c : b < 0
  · rw [if_pos c, if_pos c]; exact down_up _ _ (by omega)
  · rw [if_neg c, if_neg c]; exact down_up _ _ (by omega)
theorem over_small {s0 s1 y0 y1 t0 t1 z0 z1 : Int} (h0 : y0 ≤ s0) (h : s0 ≤ s1) (h1 : s1 ≤ y1) (g0 : z0 ≤ t0) (g : t0 ≤ t1) (g1 : t1 ≤ z1) : SubV (overV s0 s1 t0 t1) (overV y0 y1 z0 z1) := by
  unfold overV
  cases k : (valB y0 y1 && valB z0 z1)
  · exact subV_bad (IsE.if (IsE.if (isE _ _ _) (isE _ _ _)) (isE _ _ _)) _ _ _ (by decide)
  · rw [val_small h0 h h1 g0 g g1 k, if_pos rfl, if_pos rfl]
    cases kz : zeroIn z0 z1
    · have nz : ¬ (z0 ≤ 0 ∧ 0 ≤ z1) := of_decide_eq_false kz
      have kt : zeroIn t0 t1 = false := decide_eq_false (by omega)
      have z : 0 < z0 ∨ z1 < 0 := by omega
      rw [kt, if_neg (by decide), if_neg (by decide)]
      have p1 := @over_holds y0 y1 z0 z1 s0 t0 (by omega) (by omega) (by omega) (by omega) z
      have p2 := @over_holds y0 y1 z0 z1 s0 t1 (by omega) (by omega) (by omega) (by omega) z
      have p3 := @over_holds y0 y1 z0 z1 s1 t0 (by omega) (by omega) (by omega) (by omega) z
      have p4 := @over_holds y0 y1 z0 z1 s1 t1 (by omega) (by omega) (by omega) (by omega) z
      have o := @over_holds s0 s1 t0 t1 s0 t0 (by omega) (by omega) (by omega) (by omega) (by omega)
      have q := quo_order (s0 * 100000000) t0 (by omega)
      refine subV_res ?_ (Int.le_trans o.1 (Int.le_trans q o.2)) ?_
      · exact lo4_ge p1.1 p2.1 p3.1 p4.1
      · exact hi4_ge p1.2 p2.2 p3.2 p4.2
    · rw [if_pos rfl]
      exact subV_bad (IsE.if (isE _ _ _) (isE _ _ _)) _ _ _ (by decide)

/-- a part of an enclosure, by 255ths -/
theorem part_small {y0 y1 u v : Int} (h : y0 ≤ y1) (hb : y1 - y0 ≤ 7200000000) (u0 : 0 ≤ u) (u1 : u ≤ 255) (v0 : 0 ≤ v) (v1 : v ≤ 255) :
    0 ≤ (y1 - y0) * min u v ∧ (y1 - y0) * max u v ≤ 1836000000000 ∧ 0 ≤ (y1 - y0) * max u v ∧ (y1 - y0) * min u v ≤ 1836000000000 ∧
    y0 ≤ y0 + (y1 - y0) * min u v / 255 ∧ y0 + (y1 - y0) * min u v / 255 ≤ y0 + (y1 - y0) * max u v / 255 ∧ y0 + (y1 - y0) * max u v / 255 ≤ y1 := by
  have m0 := Int.mul_nonneg (show 0 ≤ y1 - y0 by omega) (show 0 ≤ min u v by omega)
  have m1 := Int.mul_le_mul_of_nonneg_left (show min u v ≤ max u v by omega) (show 0 ≤ y1 - y0 by omega)
  have m2 := Int.mul_le_mul_of_nonneg_left (show max u v ≤ 255 by omega) (show 0 ≤ y1 - y0 by omega)
  generalize (y1 - y0) * min u v = a at *
  generalize (y1 - y0) * max u v = b at *
  omega
end Go.Proofs.YtdikelijnachjaaDoor
