/- The walk of AngleStrings. -/
import Derived.Test.YtdikelijnachjaaDoorSg7
import Derived.Test.YtdikelijnachjaaDoorWawk
namespace Go.Proofs.YtdikelijnachjaaDoor
set_option linter.unusedSimpArgs false
set_option linter.unusedVariables false
open Go.RowKit

set_option maxRecDepth 100000 in
set_option maxHeartbeats 4000000 in
theorem stringslaw_walk (a x A X E e1 : Int) (s t1 : List UInt8) (w : World) (t : Tabs w)
    (R1 : ∀ w, Tabs w → Calls Tryd.prog 38 #[.string ⟨s.toArray⟩] w fun e w' => e = .returned (read3 A X E) ∧ Below w.heap.size w w')
    (R2 : ∀ w, Calls Tryd.prog 39 #[.string ⟨s.toArray⟩] w fun e w' => e = .returned (read3 A X E) ∧ Below w.heap.size w w')
    (W1 : ∀ w, Tabs w → Calls Tryd.prog 40 #[.int .i64 a, .int .i64 x] w fun e w' => e = .returned (strE t1 e1) ∧ Below w.heap.size w w')
    (W2 : ∀ w, Calls Tryd.prog 41 #[.int .i64 a, .int .i64 x] w fun e w' => e = .returned (strE t1 e1) ∧ Below w.heap.size w w') :
    Calls Tryd.prog 6 #[.string ⟨s.toArray⟩, .int .i64 a, .int .i64 x] w fun e w' => e = .returned (.bool true) ∧ Below w.heap.size w w' := by
  have R1' := Lib.hid R1
  have R2' := Lib.hid R2
  have W1' := Lib.hid W1
  have W2' := Lib.hid W2
  clear R1 R2 W1 W2
  go_enter Tryd.func6, Tryd.ntmps6
  go_wp2_with fail
  refine (R1'.out _ t).mono ?_
  rintro e w1 ⟨rfl, h1⟩
  have q1 := t.below h1
  go_wp2_with fail
  refine (R2'.out _).mono ?_
  rintro e w2 ⟨rfl, h2⟩
  have o2 := h1.trans (h2.mono h1.size)
  have q2 := q1.below h2
  clear h2
  go_wp2_with fail
  refine (W1'.out _ q2).mono ?_
  rintro e w3 ⟨rfl, h3⟩
  have o3 := o2.trans (h3.mono o2.size)
  have q3 := q2.below h3
  clear h3
  go_wp2_with fail
  refine (W2'.out _).mono ?_
  rintro e w4 ⟨rfl, h4⟩
  have o4 := o3.trans (h4.mono o3.size)
  have q4 := q3.below h4
  clear h4
  go_wp2_with fail
  refine (awake_any _ q4).mono ?_
  rintro e we ⟨rfl, hbe⟩
  go_wp2_with fail
  go_ret
  exact ⟨rfl, o4.trans (hbe.mono o4.size)⟩

theorem stringslaw_any (s : ByteArray) (hs : s.size ≤ maxLen) (a x : Int) (w : World) (t : Tabs w) :
    Calls Tryd.prog 6 #[.string s, .int .i64 a, .int .i64 x] w fun e w' => e = .returned (.bool true) ∧ Below w.heap.size w w' := by
  obtain ⟨l, rfl⟩ : ∃ l : List UInt8, s = ⟨l.toArray⟩ := ⟨s.data.toList, by cases s; simp⟩
  have hl : l.length ≤ 9223372036854775807 := by
    have : l.length ≤ maxLen := by simpa [ByteArray.size] using hs
    unfold maxLen at this
    omega
  exact stringslaw_walk a x (reA l) (reX l) (reE l) (wE a x) l (wS a x) w t (fun w t => read_any l w t hl) (fun w => rread_any l w hl) (fun w t => write_any a x w t) (fun w => rwrite_any a x w)
end Go.Proofs.YtdikelijnachjaaDoor
