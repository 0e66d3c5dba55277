/- Write of the code. -/
import Derived.Test.YtdikelijnachjaaDoorWwri
namespace Go.Proofs.YtdikelijnachjaaDoor
set_option linter.unusedSimpArgs false
set_option linter.unusedVariables false
open Go.RowKit Go.Sort

/-- what Write returns -/
def far (axis : Int) : Int := if axis = 0 then 90000000 else 180000000
def wE (a axis : Int) : Int := if axis ≠ 0 ∧ axis ≠ 1 then 2 else if a < - far axis ∨ a > far axis then 7 else 0
def wLetter (a axis : Int) : UInt8 := if axis = 0 then (if a < 0 then 83 else 78) else (if a < 0 then 87 else 69)
def wS (a axis : Int) : List UInt8 := if wE a axis = 0 then wsz a.natAbs ++ [wLetter a axis] else []

/-- a string and an error -/
abbrev strE (l : List UInt8) (e : Int) : Value := .tuple #[.string ⟨l.toArray⟩, .int .i64 e]

set_option maxHeartbeats 400000 in
theorem write_arg (a axis : Int) (w : World) (h0 : axis ≠ 0) (h1 : axis ≠ 1) :
    Calls Tryd.prog 40 #[.int .i64 a, .int .i64 axis] w fun e w' => e = .returned (strE [] 2) ∧ w = w' := by
  have e0 : (axis == 0) = false := beq_no h0
  have e1 : (axis == 1) = false := beq_no h1
  have n0 : (axis != 0) = true := by simp [h0]
  have n1 : (axis != 1) = true := by simp [h1]
  go_enter Tryd.func40, Tryd.ntmps40
  go_wp2
  go_ret2
  exact ⟨rfl, rfl⟩

set_option maxHeartbeats 1000000 in
theorem write_range (a axis f : Int) (w : World) (t : Tabs w) (hf : (axis = 0 ∧ f = 90000000) ∨ (axis = 1 ∧ f = 180000000)) (h : a < -f ∨ f < a) :
    Calls Tryd.prog 40 #[.int .i64 a, .int .i64 axis] w fun e w' => e = .returned (strE [] 7) ∧ w = w' := by
  obtain ⟨f0, f1, _⟩ := t
  rcases hf with ⟨rfl, rfl⟩ | ⟨rfl, rfl⟩ <;> rcases h with h | h
  all_goals
    go_enter Tryd.func40, Tryd.ntmps40
    go_wp2
    go_ret2
    exact ⟨rfl, rfl⟩

theorem wsz_len (n : Int) (h0 : 0 ≤ n) (h1 : n ≤ 180000000) : (wsz n).length ≤ 15 := by
  obtain ⟨a1, a2⟩ := itoa_len (n / 1000000) (by omega) (by omega)
  obtain ⟨c1, c2⟩ := itoa_len (n % 1000000 + 1000000) (by omega) (by omega)
  have t1 : (Lib.trimRightB (Lib.itoa (n % 1000000 + 1000000)).tail 48).length ≤ 7 := by
    unfold Lib.trimRightB
    have := (List.dropWhile_suffix (fun x : UInt8 => x == 48) (l := (Lib.itoa (n % 1000000 + 1000000)).tail.reverse)).length_le
    simp only [List.length_reverse, List.length_tail] at *
    omega
  unfold wsz
  split
  · omega
  · simp only [List.length_append, List.length_cons, List.length_nil]; omega

theorem str_snoc (A : List UInt8) (c : UInt8) : (⟨A.toArray⟩ ++ ⟨#[c]⟩ : ByteArray) = ⟨(A ++ [c]).toArray⟩ := by
  apply ByteArray.ext
  simp

set_option maxHeartbeats 1000000 in
theorem write_pos (a axis f : Int) (m : Nat) (c : UInt8) (w : World) (t : Tabs w) (hf : (axis = 0 ∧ f = 90000000) ∨ (axis = 1 ∧ f = 180000000)) (h0 : 0 ≤ a) (h1 : a ≤ f) (hl : LetterOf axis 1 m c) :
    Calls Tryd.prog 40 #[.int .i64 a, .int .i64 axis] w fun e w' => e = .returned (strE (wsz a ++ [c]) 0) ∧ Below w.heap.size w w' := by
  have t0 := t
  obtain ⟨f0, f1, _⟩ := t0
  have hlen := wsz_len a h0 (by omega)
  rcases hf with ⟨rfl, rfl⟩ | ⟨rfl, rfl⟩
  all_goals
    go_enter Tryd.func40, Tryd.ntmps40
    go_wp2_with fail
    refine (writeSize_any a _ t h0 (by omega)).mono ?_
    rintro e w1 ⟨rfl, hb1⟩
    go_wp2_with fail
    refine (letter_any _ 1 m c _ (t.below hb1) hl).mono ?_
    rintro e w2 ⟨rfl, hb2⟩
    go_wp2_with fail
    go_ret2
    refine ⟨?_, hb1.trans (hb2.mono hb1.size)⟩
    show Ending.returned (Value.tuple #[Value.string _, _]) = _
    rw [str_snoc]; rfl

set_option maxHeartbeats 1000000 in
theorem write_neg (a axis f : Int) (m : Nat) (c : UInt8) (w : World) (t : Tabs w) (hf : (axis = 0 ∧ f = 90000000) ∨ (axis = 1 ∧ f = 180000000)) (h0 : a < 0) (h1 : -f ≤ a) (hl : LetterOf axis (-1) m c) :
    Calls Tryd.prog 40 #[.int .i64 a, .int .i64 axis] w fun e w' => e = .returned (strE (wsz (-a) ++ [c]) 0) ∧ Below w.heap.size w w' := by
  have t0 := t
  obtain ⟨f0, f1, _⟩ := t0
  have hlen := wsz_len (-a) (by omega) (by omega)
  rcases hf with ⟨rfl, rfl⟩ | ⟨rfl, rfl⟩
  all_goals
    go_enter Tryd.func40, Tryd.ntmps40
    go_wp2_with fail
    refine (writeSize_any (-a) _ t (by omega) (by omega)).mono ?_
    rintro e w1 ⟨rfl, hb1⟩
    go_wp2_with fail
    refine (letter_any _ (-1) m c _ (t.below hb1) hl).mono ?_
    rintro e w2 ⟨rfl, hb2⟩
    go_wp2_with fail
    go_ret2
    refine ⟨?_, hb1.trans (hb2.mono hb1.size)⟩
    show Ending.returned (Value.tuple #[Value.string _, _]) = _
    rw [str_snoc]; rfl

theorem write_any (a axis : Int) (w : World) (t : Tabs w) :
    Calls Tryd.prog 40 #[.int .i64 a, .int .i64 axis] w fun e w' => e = .returned (strE (wS a axis) (wE a axis)) ∧ Below w.heap.size w w' := by
  by_cases c : axis ≠ 0 ∧ axis ≠ 1
  · have e1 : wE a axis = 2 := by unfold wE; rw [if_pos c]
    have e2 : wS a axis = [] := by unfold wS; rw [e1, if_neg (by decide)]
    rw [e1, e2]
    refine (write_arg a axis w c.1 c.2).mono ?_
    rintro e w' ⟨rfl, rfl⟩
    exact ⟨rfl, Below.refl _ _⟩
  · have hf : (axis = 0 ∧ far axis = 90000000) ∨ (axis = 1 ∧ far axis = 180000000) := by
      unfold far
      by_cases h : axis = 0
      · exact Or.inl ⟨h, if_pos h⟩
      · exact Or.inr ⟨by omega, if_neg h⟩
    by_cases r : a < - far axis ∨ a > far axis
    · have e1 : wE a axis = 7 := by unfold wE; rw [if_neg c, if_pos r]
      have e2 : wS a axis = [] := by unfold wS; rw [e1, if_neg (by decide)]
      rw [e1, e2]
      refine (write_range a axis (far axis) w t hf r).mono ?_
      rintro e w' ⟨rfl, rfl⟩
      exact ⟨rfl, Below.refl _ _⟩
    · have e1 : wE a axis = 0 := by unfold wE; rw [if_neg c, if_neg r]
      by_cases n : a < 0
      · have e2 : wS a axis = wsz (-a) ++ [if axis = 0 then 83 else 87] := by
          unfold wS wLetter; rw [e1, if_pos rfl, if_pos n, if_pos n, show ((a.natAbs : Nat) : Int) = -a from by omega]
        rw [e1, e2]
        rcases hf with ⟨h, hh⟩ | ⟨h, hh⟩
        · rw [if_pos h]; exact write_neg a axis (far axis) 1 83 w t (Or.inl ⟨h, hh⟩) n (by omega) (Or.inr (Or.inl ⟨h, rfl, rfl, rfl⟩))
        · rw [if_neg (by omega)]; exact write_neg a axis (far axis) 3 87 w t (Or.inr ⟨h, hh⟩) n (by omega) (Or.inr (Or.inr (Or.inr ⟨h, rfl, rfl, rfl⟩)))
      · have e2 : wS a axis = wsz a ++ [if axis = 0 then 78 else 69] := by
          unfold wS wLetter; rw [e1, if_pos rfl, if_neg n, if_neg n, show ((a.natAbs : Nat) : Int) = a from by omega]
        rw [e1, e2]
        rcases hf with ⟨h, hh⟩ | ⟨h, hh⟩
        · rw [if_pos h]; exact write_pos a axis (far axis) 0 78 w t (Or.inl ⟨h, hh⟩) (by omega) (by omega) (Or.inl ⟨h, rfl, rfl, rfl⟩)
        · rw [if_neg (by omega)]; exact write_pos a axis (far axis) 2 69 w t (Or.inr ⟨h, hh⟩) (by omega) (by omega) (Or.inr (Or.inr (Or.inl ⟨h, rfl, rfl, rfl⟩)))
end Go.Proofs.YtdikelijnachjaaDoor
