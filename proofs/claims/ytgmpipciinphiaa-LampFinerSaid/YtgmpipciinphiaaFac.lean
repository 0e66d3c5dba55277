/- What is known of a catalogue without an error. -/
import Derived.Test.YtgmpipciinphiaaChk
namespace Go.Proofs.Ytgmpipciinphiaa
set_option linter.unusedSimpArgs false
set_option linter.unusedVariables false

theorem inB_iff {n a b : Int} : inB n a b = true ↔ a ≤ n ∧ n ≤ b := by simp [inB]
theorem inB_no {n a b : Int} : inB n a b = false ↔ ¬ (a ≤ n ∧ n ≤ b) := by simp [inB]
theorem bool_of_ne {b : Bool} (h : ¬ b = false) : b = true := by cases b <;> simp_all

structure LmpOk (nt : Nat) (l : Lmp) : Prop where
  name : nameB l.name = true
  t0 : 0 ≤ l.table
  t1 : l.table ≤ (nt : Int) - 1
  k0 : 1 ≤ l.kind
  k1 : l.kind ≤ 3
  l0 : 1 ≤ l.lumens
  l1 : l.lumens ≤ 1000000
  p0 : 1 ≤ l.power
  p1 : l.power ≤ 5000000
  s0 : 0 ≤ l.standing
  s1 : l.standing ≤ l.power
  o0 : 0 ≤ l.tol
  o1 : l.tol ≤ 1000
  a0 : 0 ≤ l.alo
  a1 : l.alo ≤ l.ahi
  a2 : l.ahi ≤ 1000
  d0 : 0 ≤ l.dlo
  d1 : l.dlo ≤ l.dhi
  d2 : l.dhi ≤ 1000
  i0 : 1 ≤ l.life
  i1 : l.life ≤ 200000
  m0 : 0 ≤ l.dim
  m1 : l.dim ≤ 1000
  r0 : 0 ≤ l.rest
  r1 : l.rest ≤ 3600
  led : l.kind = 1 → l.rest = 0

theorem lmpOk_of {nt : Nat} {ls : List Lmp} {i : Nat} (h : lmpErr nt ls i = 0) : LmpOk nt (lmpAt ls i) := by
  unfold lmpErr at h
  split at h; · omega
  rename_i h1
  split at h; · omega
  split at h; · omega
  rename_i h3
  split at h; · omega
  rename_i h4
  split at h; · omega
  rename_i h5
  split at h; · omega
  rename_i h6
  have h5 := bool_of_ne h5
  unfold lampR lampRn at h5
  simp only [Bool.and_eq_true, decide_eq_true_eq, List.all_eq_true, List.mem_range] at h5
  obtain ⟨hr, hs⟩ := h5
  have q0 := hr 0 (by omega)
  have q1 := hr 1 (by omega)
  have q2 := hr 2 (by omega)
  have q3 := hr 3 (by omega)
  have q4 := hr 4 (by omega)
  have q5 := hr 5 (by omega)
  have q6 := hr 6 (by omega)
  have q7 := hr 7 (by omega)
  have q8 := hr 8 (by omega)
  have h3 := inB_iff.1 (bool_of_ne h3)
  have h4 := inB_iff.1 (bool_of_ne h4)
  simp only [inLamp, Bool.and_eq_true, inB_iff] at q0 q1 q2 q3 q4 q5 q6 q7 q8
  exact ⟨bool_of_ne h1, h3.1, h3.2, h4.1, h4.2, q0.1, q0.2, q1.1, q1.2, q2.1, hs, q3.1, q3.2, q4.1.1, q4.2.1, q4.2.2, q5.1.1, q5.2.1, q5.2.2, q6.1, q6.2, q7.1, q7.2, q8.1, q8.2, fun hk => by
    rcases Int.decEq (lmpAt ls i).rest 0 with hne | he
    · exact absurd ⟨hk, hne⟩ h6
    · exact he⟩

structure ListOk (xs : List Int) : Prop where
  n0 : 2 ≤ xs.length
  n1 : xs.length ≤ 12
  lo : ∀ j, j < xs.length → -5000 ≤ nth xs j
  hi : ∀ j, j < xs.length → nth xs j ≤ 5000
  up : ∀ j, j + 1 < xs.length → nth xs j < nth xs (j + 1)

structure TabOk (t : Tab) : Prop where
  name : nameB t.name = true
  us : ListOk t.us.xs
  vs : ListOk t.vs.xs
  rows : t.rows.length = t.us.xs.length
  row : ∀ i, i < t.rows.length → (rowAt t.rows i).xs.length = t.vs.xs.length
  v0 : ∀ i k, i < t.rows.length → k < t.vs.xs.length → 0 ≤ nth (rowAt t.rows i).xs k
  v1 : ∀ i k, i < t.rows.length → k < t.vs.xs.length → nth (rowAt t.rows i).xs k ≤ 10000000
  s0 : 0 ≤ t.side
  s1 : t.side ≤ 10000000
  y0 : 0 ≤ t.sky
  y1 : t.sky ≤ 10000000

theorem allB_nth {xs : List Int} {a b : Int} (h : allB xs a b = true) {j : Nat} (hj : j < xs.length) : a ≤ nth xs j ∧ nth xs j ≤ b := by
  unfold allB at h
  rw [List.all_eq_true] at h
  rw [nth_eq hj]
  exact inB_iff.1 (h _ (List.getElem_mem hj))

theorem tabOk_of {ts : List Tab} {i : Nat} (h : tabErr ts i = 0) : TabOk (tabAt ts i) := by
  unfold tabErr at h
  split at h; · omega
  rename_i h1
  split at h; · omega
  split at h; · omega
  rename_i h3
  split at h; · omega
  rename_i h4
  split at h; · omega
  rename_i h5
  split at h; · omega
  rename_i h6
  split at h; · omega
  rename_i h7
  have h3a := inB_iff.1 (bool_of_ne fun hh => h3 (.inl hh))
  have h3b := inB_iff.1 (bool_of_ne fun hh => h3 (.inr hh))
  have h4a := bool_of_ne fun hh => h4 (.inl hh)
  have h4b := bool_of_ne fun hh => h4 (.inr hh)
  have h5a := ascB_iff.1 (bool_of_ne fun hh => h5 (.inl hh))
  have h5b := ascB_iff.1 (bool_of_ne fun hh => h5 (.inr hh))
  have h6 := bool_of_ne h6
  have h7 := bool_of_ne h7
  unfold shapeB rowsB at h6
  simp only [Bool.and_eq_true, decide_eq_true_eq, List.all_eq_true] at h6
  unfold valsB rowsR at h7
  simp only [Bool.and_eq_true, List.all_eq_true, inB_iff] at h7
  have hrow : ∀ j, j < (tabAt ts i).rows.length → (rowAt (tabAt ts i).rows j).xs.length = (tabAt ts i).vs.xs.length := fun j hj => by
    rw [rowAt_eq hj]; exact h6.2 _ (List.getElem_mem hj)
  have hval : ∀ j k, j < (tabAt ts i).rows.length → k < (tabAt ts i).vs.xs.length → 0 ≤ nth (rowAt (tabAt ts i).rows j).xs k ∧ nth (rowAt (tabAt ts i).rows j).xs k ≤ 10000000 := fun j k hj hk => by
    have hl := hrow j hj
    rw [rowAt_eq hj] at hl ⊢
    exact allB_nth (h7.1 _ (List.getElem_mem hj)) (by omega)
  exact ⟨bool_of_ne h1, ⟨by omega, by omega, fun j hj => (allB_nth h4a hj).1, fun j hj => (allB_nth h4a hj).2, h5a⟩, ⟨by omega, by omega, fun j hj => (allB_nth h4b hj).1, fun j hj => (allB_nth h4b hj).2, h5b⟩,
    h6.1, hrow, fun j k hj hk => (hval j k hj hk).1, fun j k hj hk => (hval j k hj hk).2, h7.2.1.1, h7.2.1.2, h7.2.2.1, h7.2.2.2⟩

theorem firstErr_zero {f : Nat → Int} : ∀ {n i : Nat}, (firstErr f i n).2 = 0 → ∀ j, i ≤ j → j < i + n → f j = 0
  | 0, i, _, j, h1, h2 => by omega
  | n + 1, i, h, j, h1, h2 => by
    by_cases hz : f i = 0
    · rw [firstErr_no hz] at h
      by_cases hj : j = i
      · rw [hj]; exact hz
      · exact firstErr_zero h j (by omega) (by omega)
    · rw [firstErr_at hz] at h
      exact absurd h hz

/-- a catalogue without an error -/
structure CatOk (c : Cat) : Prop where
  nt : c.tabs.length ≤ 10
  nl : c.lamps.length ≤ 20
  tab : ∀ i, i < c.tabs.length → TabOk (tabAt c.tabs i)
  lmp : ∀ i, i < c.lamps.length → LmpOk c.tabs.length (lmpAt c.lamps i)

theorem catOk_of {c : Cat} (h : chkE c = 0) : CatOk c := by
  unfold chkE at h
  split at h; · omega
  rename_i h1
  split at h
  · rename_i h2; exact absurd h h2
  rename_i h2
  split at h
  · rename_i h3; exact absurd h h3
  rename_i h3
  have h2 : (tabsE c).2 = 0 := by omega
  have h3 : (lmpsE c).2 = 0 := by omega
  exact ⟨by omega, by omega, fun i hi => tabOk_of (firstErr_zero h2 i (by omega) (by omega)), fun i hi => lmpOk_of (firstErr_zero h3 i (by omega) (by omega))⟩

theorem errOf_ok {c : Cat} {i n : Int} (h : errOf c i n = 0) : CatOk c ∧ 0 ≤ i ∧ i ≤ n - 1 := by
  unfold errOf at h
  split at h
  · rename_i h1; exact absurd h h1
  rename_i h1
  split at h; · omega
  rename_i h2
  have := inB_iff.1 (bool_of_ne h2)
  exact ⟨catOk_of (by omega), this.1, this.2⟩
end Go.Proofs.Ytgmpipciinphiaa
