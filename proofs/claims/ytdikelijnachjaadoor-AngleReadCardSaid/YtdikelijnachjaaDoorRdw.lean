/- The walk of AngleRead. -/
import Derived.Test.YtdikelijnachjaaDoorRdm
import Derived.Test.YtdikelijnachjaaDoorWawk
namespace Go.Proofs.YtdikelijnachjaaDoor
set_option linter.unusedSimpArgs false
set_option linter.unusedVariables false
open Go.RowKit

set_option maxRecDepth 100000 in
set_option maxHeartbeats 4000000 in
theorem readlaw_walk (a x b k e1 e2 : Int) (s t1 t2 : List UInt8) (w : World) (t : Tabs w)
    (W1 : ∀ w, Tabs w → Calls Tryd.prog 40 #[.int .i64 a, .int .i64 x] w fun e w' => e = .returned (strE t1 e1) ∧ Below w.heap.size w w')
    (R1 : Hid (e1 = 0 → ∀ w, Tabs w → Calls Tryd.prog 38 #[.string ⟨t1.toArray⟩] w fun e w' => e = .returned (read3 a x 0) ∧ Below w.heap.size w w'))
    (R2 : ∀ w, Tabs w → Calls Tryd.prog 38 #[.string ⟨s.toArray⟩] w fun e w' => e = .returned (read3 b k e2) ∧ Below w.heap.size w w')
    (W2 : Hid (e2 = 0 → ∀ w, Tabs w → Calls Tryd.prog 40 #[.int .i64 b, .int .i64 k] w fun e w' => e = .returned (strE t2 0) ∧ Below w.heap.size w w'))
    (R3 : Hid (e2 = 0 → ∀ w, Tabs w → Calls Tryd.prog 38 #[.string ⟨t2.toArray⟩] w fun e w' => e = .returned (read3 b k 0) ∧ Below w.heap.size w w')) :
    Calls Tryd.prog 13 #[.int .i64 a, .int .i64 x, .string ⟨s.toArray⟩] w fun e w' => e = .returned (.bool true) ∧ Below w.heap.size w w' := by
  have W1' := Lib.hid W1
  have R2' := Lib.hid R2
  clear W1 R2
  go_enter Tryd.func13, Tryd.ntmps13
  go_wp2_with fail
  refine (W1'.out _ t).mono ?_
  rintro e w1 ⟨rfl, o1⟩
  have q1 := t.below o1
  by_cases c1 : e1 = 0
  · subst c1
    have R1' := Lib.hid (R1.out rfl)
    clear R1
    go_wp2_with fail
    refine (R1'.out _ q1).mono ?_
    rintro e w2 ⟨rfl, h2⟩
    have o2 := o1.trans (h2.mono o1.size)
    have q2 := q1.below h2
    clear h2
    go_wp2_with fail
    refine (R2'.out _ q2).mono ?_
    rintro e wb ⟨rfl, hbb⟩
    have oB := o2.trans (hbb.mono o2.size)
    have tB := q2.below hbb
    clear hbb
    by_cases c2 : e2 = 0
    · subst c2
      have W2' := Lib.hid (W2.out rfl)
      have R3' := Lib.hid (R3.out rfl)
      clear W2 R3
      go_wp2_with fail
      refine (W2'.out _ tB).mono ?_
      rintro e wc ⟨rfl, hbc⟩
      have oC := oB.trans (hbc.mono oB.size)
      have tC := tB.below hbc
      clear hbc
      go_wp2_with fail
      refine (R3'.out _ tC).mono ?_
      rintro e wd ⟨rfl, hbd⟩
      have oD := oC.trans (hbd.mono oC.size)
      have tD := tC.below hbd
      clear hbd
      go_wp2_with fail
      refine (awake_any _ tD).mono ?_
      rintro e we ⟨rfl, hbe⟩
      go_wp2_with fail
      go_ret
      exact ⟨rfl, oD.trans (hbe.mono oD.size)⟩
    · have b2 : (e2 == 0) = false := by simp; omega
      go_wp2_with fail
      refine (awake_any _ tB).mono ?_
      rintro e we ⟨rfl, hbe⟩
      go_wp2_with fail
      go_ret
      exact ⟨rfl, oB.trans (hbe.mono oB.size)⟩
  · have b1 : (e1 == 0) = false := by simp; omega
    go_wp2_with fail
    refine (R2'.out _ q1).mono ?_
    rintro e wb ⟨rfl, hbb⟩
    have oB := o1.trans (hbb.mono o1.size)
    have tB := q1.below hbb
    clear hbb
    by_cases c2 : e2 = 0
    · subst c2
      have W2' := Lib.hid (W2.out rfl)
      have R3' := Lib.hid (R3.out rfl)
      clear W2 R3
      go_wp2_with fail
      refine (W2'.out _ tB).mono ?_
      rintro e wc ⟨rfl, hbc⟩
      have oC := oB.trans (hbc.mono oB.size)
      have tC := tB.below hbc
      clear hbc
      go_wp2_with fail
      refine (R3'.out _ tC).mono ?_
      rintro e wd ⟨rfl, hbd⟩
      have oD := oC.trans (hbd.mono oC.size)
      have tD := tC.below hbd
      clear hbd
      go_wp2_with fail
      refine (awake_any _ tD).mono ?_
      rintro e we ⟨rfl, hbe⟩
      go_wp2_with fail
      go_ret
      exact ⟨rfl, oD.trans (hbe.mono oD.size)⟩
    · have b2 : (e2 == 0) = false := by simp; omega
      go_wp2_with fail
      refine (awake_any _ tB).mono ?_
      rintro e we ⟨rfl, hbe⟩
      go_wp2_with fail
      go_ret
      exact ⟨rfl, oB.trans (hbe.mono oB.size)⟩

/-- what Write takes is at most 180 degrees -/
def axis_ok (a x : Int) : Prop := ((a.natAbs : Nat) : Int) ≤ 180000000
theorem axis_of {a x : Int} (h : wE a x = 0) : axis_ok a x := by
  unfold axis_ok
  unfold wE at h
  by_cases c : x ≠ 0 ∧ x ≠ 1
  · rw [if_pos c] at h; exact absurd h (by decide)
  · rw [if_neg c] at h
    by_cases q : a < - far x ∨ a > far x
    · rw [if_pos q] at h; exact absurd h (by decide)
    · have : far x ≤ 180000000 := by unfold far; split <;> omega
      omega

theorem readlaw_any (a x : Int) (s : ByteArray) (hs : s.size ≤ maxLen) (w : World) (t : Tabs w) :
    Calls Tryd.prog 13 #[.int .i64 a, .int .i64 x, .string s] w fun e w' => e = .returned (.bool true) ∧ Below w.heap.size w w' := by
  obtain ⟨l, rfl⟩ : ∃ l : List UInt8, s = ⟨l.toArray⟩ := ⟨s.data.toList, by cases s; simp⟩
  have hl : l.length ≤ 9223372036854775807 := by
    have : l.length ≤ maxLen := by simpa [ByteArray.size] using hs
    unfold maxLen at this
    omega
  have ws : ∀ a x, (wS a x).length ≤ 9223372036854775807 := by
    intro a x
    unfold wS
    split
    · rename_i h
      have hx : axis_ok a x := axis_of h
      have := wsz_len (a.natAbs : Int) (by omega) hx
      simp
      omega
    · simp
  refine readlaw_walk a x (reA l) (reX l) (wE a x) (reE l) l (wS a x) (wS (reA l) (reX l)) w t (fun w t => write_any a x w t) ?_ (fun w t => read_any l w t hl) ?_ ?_
  · intro h w t
    have r := read_any (wS a x) w t (ws a x)
    obtain ⟨h1, h2, h3⟩ := read_written a x h
    rw [h1, h2, h3] at r
    exact r
  · intro h w t
    have r := write_any (reA l) (reX l) w t
    rw [write_read l h] at r
    exact r
  · intro h w t
    have r := read_any (wS (reA l) (reX l)) w t (ws _ _)
    obtain ⟨h1, h2, h3⟩ := read_written _ _ (write_read l h)
    rw [h1, h2, h3] at r
    exact r
end Go.Proofs.YtdikelijnachjaaDoor
