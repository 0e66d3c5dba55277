/- Ranges, order, names: what the code asks of numbers, lists and strings. -/
import Derived.Test.YtgmpipciinphiaaDat
import Derived.IntWalk
import Derived.Deep.LoopGhost
import Derived.Deep.DrawnRows
import Derived.Deep.QuietTactic
import Derived.LoopN
import Derived.BigQuiet
import Derived.Lib.Hide
namespace Go.Proofs.Ytgmpipciinphiaa
set_option linter.unusedSimpArgs false
set_option linter.unusedVariables false
open Go.RowKit
attribute [local go_sem ↓] Go.wp_at_zero Go.wp_at_succ

/-- a number of a range -/
def inB (n a b : Int) : Bool := decide (a ≤ n ∧ n ≤ b)

set_option maxHeartbeats 400000 in
theorem isFrom_any (n a b : Int) (w : World) : Calls Try.prog 54 #[.int .i64 n, .int .i64 a, .int .i64 b] w fun e w' => e = .returned (.bool (inB n a b)) ∧ w = w' := by
  unfold inB
  by_cases h0 : a ≤ n
  · by_cases h1 : n ≤ b
    · rw [decide_eq_true ⟨h0, h1⟩]
      go_enter Try.func54, Try.ntmps54
      go_wp2_with fail
      go_ret
      exact ⟨rfl, rfl⟩
    · rw [decide_eq_false (fun h => h1 h.2)]
      go_enter Try.func54, Try.ntmps54
      go_wp2_with fail
      go_ret
      exact ⟨rfl, rfl⟩
  · rw [decide_eq_false (fun h => h0 h.1)]
    go_enter Try.func54, Try.ntmps54
    go_wp2_with fail
    go_ret
    exact ⟨rfl, rfl⟩

/-- all numbers of a list are of a range -/
def allB (xs : List Int) (a b : Int) : Bool := xs.all fun n => inB n a b

theorem nth_eq {xs : List Int} {j : Nat} (h : j < xs.length) : nth xs j = xs[j] := by simp [nth, h]
theorem allB_step {xs : List Int} {a b : Int} {j : Nat} (h : j < xs.length) : allB (xs.take (j+1)) a b = (allB (xs.take j) a b && inB (nth xs j) a b) := by
  unfold allB
  rw [nth_eq h, List.take_succ_eq_append_getElem h, List.all_append]
  simp
theorem allB_no {xs : List Int} {a b : Int} {j : Nat} (h : j < xs.length) (hn : inB (nth xs j) a b = false) : allB xs a b = false := by
  unfold allB
  rw [nth_eq h] at hn
  rw [List.all_eq_false]
  exact ⟨xs[j], List.getElem_mem h, by rw [hn]; decide⟩

set_option maxHeartbeats 1000000 in
theorem areFrom_any (A : Option Addr) (c : Nat) (xs : List Int) (a b : Int) (w : World) (h : IntsIn w.heap.size A xs w) :
    Calls Try.prog 68 #[.slice A xs.length c, .int .i64 a, .int .i64 b] w fun e w' => e = .returned (.bool (allB xs a b)) ∧ w = w' := by
  have hm := h.1
  unfold maxLen at hm
  go_enter Try.func68, Try.ntmps68
  go_wp2_with fail
  go_loopg [11] xs.length (fun n i' wr => ∃ i : Nat, i ≤ xs.length ∧ n = xs.length - i ∧ i' = .int .i64 i ∧ Hid (allB (xs.take i) a b = true) ∧ w = wr)
  case atStart => exact ⟨0, by omega, by omega, rfl, rfl, rfl⟩
  case round =>
    obtain ⟨i, hi, hn0, rfl, ha, rfl⟩ := hrel
    have HN := Lib.hid hn0
    clear hn0
    by_cases hlt : i < xs.length
    · obtain ⟨bl, o, rfl, hb, hc⟩ := h.2 (by omega)
      have hci := hc i hlt
      clear hc
      have hs := allB_step (a := a) (b := b) hlt
      cases hd : inB (nth xs i) a b
      · have HF := Lib.hid (allB_no hlt hd)
        have HD := Lib.hid hd
        clear hd hs
        go_wp2_with fail
        refine (isFrom_any _ _ _ _).mono ?_
        rintro e w1 ⟨rfl, rfl⟩
        rw [HD.out]
        go_wp2_with fail
        go_ret
        exact ⟨by rw [HF.out]; rfl, rfl⟩
      · have ha' : Hid (allB (xs.take (i+1)) a b = true) := by
          show allB (xs.take (i+1)) a b = true
          rw [hs, ha, hd]; rfl
        have HD := Lib.hid hd
        clear hd hs
        go_wp2_with fail
        refine (isFrom_any _ _ _ _).mono ?_
        rintro e w1 ⟨rfl, rfl⟩
        rw [HD.out]
        go_wp2_with fail
        go_roundg (xs.length - (i + 1))
        case measure => have := HN.out; omega
        case rel => exact ⟨i + 1, by omega, rfl, by go_num, ha', rfl⟩
    · obtain rfl : i = xs.length := by omega
      have HA : Hid (allB xs a b = true) := by
        have := ha
        rw [List.take_length] at this
        exact this
      clear ha
      go_wp2_with fail
      go_ret
      exact ⟨by rw [HA.out]; rfl, rfl⟩

/-- the numbers ascend -/
def ascB : List Int → Bool
  | [] => true
  | [_] => true
  | a :: b :: l => decide (a < b) && ascB (b :: l)

theorem ascB_iff : ∀ {xs : List Int}, ascB xs = true ↔ ∀ j, j + 1 < xs.length → nth xs j < nth xs (j+1)
  | [] => by simp [ascB]
  | [a] => by simp [ascB]
  | a :: b :: l => by
    simp only [ascB, Bool.and_eq_true, decide_eq_true_eq]
    rw [ascB_iff]
    constructor
    · rintro ⟨h0, h1⟩ j hj
      cases j with
      | zero => simpa [nth] using h0
      | succ j => exact h1 j (by simpa using hj)
    · intro h
      exact ⟨by simpa [nth] using h 0 (by simp), fun j hj => h (j+1) (by simpa using hj)⟩

set_option maxHeartbeats 1000000 in
theorem ascend_any (A : Option Addr) (c : Nat) (xs : List Int) (w : World) (h : IntsIn w.heap.size A xs w) :
    Calls Try.prog 69 #[.slice A xs.length c] w fun e w' => e = .returned (.bool (ascB xs)) ∧ ∃ n, w' = w.drewN n := by
  have hm := h.1
  unfold maxLen at hm
  go_enter Try.func69, Try.ntmps69
  go_wp2_with fail
  go_loopg [3] (xs.length - 1) (fun n i' wr => ∃ i q : Nat, 1 ≤ i ∧ (i ≤ xs.length ∨ i = 1) ∧ n = xs.length - i ∧ i' = .int .i64 i ∧ Hid (∀ j, j + 1 < i → nth xs j < nth xs (j+1)) ∧ wr = w.drewN q)
  case atStart => exact ⟨1, 0, by omega, by omega, by omega, rfl, fun j hj => absurd hj (by omega), rfl⟩
  case round =>
    obtain ⟨i, q, hi1, hi, hn0, rfl, ha, rfl⟩ := hrel
    have HN := Lib.hid hn0
    clear hn0
    by_cases hlt : i < xs.length
    · obtain ⟨bl, o, rfl, hb, hc⟩ := h.2 (by omega)
      have hci := hc i hlt
      have hcj := hc (i - 1) (by omega)
      have HC := Lib.hid hc
      clear hc
      have e1 : IntKind.i64.wrap (↑i - 1) = ((i - 1 : Nat) : Int) := by rw [IntWalk.i64_in _ (by omega)]; omega
      have e2 : (0 : Int) ≤ ((i - 1 : Nat) : Int) := by omega
      have e3 : ((i - 1 : Nat) : Int).toNat = i - 1 := by omega
      by_cases hd : nth xs (i-1) < nth xs i
      · have ha' : Hid (∀ j, j + 1 < i + 1 → nth xs j < nth xs (j+1)) := fun j hj => by
          by_cases hji : j + 1 < i
          · exact ha j hji
          · obtain rfl : j + 1 = i := by omega
            exact hd
        go_wp2_with fail
        go_quiet (fail)
        go_wp2_with fail
        go_roundg (xs.length - (i + 1))
        case measure => have := HN.out; omega
        case rel => exact ⟨i + 1, _, by omega, by omega, rfl, by go_num, ha', rfl⟩
      · have HF : Hid (ascB xs = false) := by
          show ascB xs = false
          rw [Bool.eq_false_iff]
          intro hh
          have := ascB_iff.1 hh (i - 1) (by omega)
          rw [show i - 1 + 1 = i by omega] at this
          exact hd this
        go_wp2_with fail
        go_quiet (fail)
        go_wp2_with fail
        go_ret
        exact ⟨by rw [HF.out]; rfl, _, World.drewN_drewN ..⟩
    · have HF : Hid (ascB xs = true) := ascB_iff.2 fun j hj => ha j (by omega)
      go_wp2_with fail
      go_ret
      exact ⟨by rw [HF.out]; rfl, q, rfl⟩

theorem asMany_rows (A A' : Option Addr) (n m c c' : Nat) (w : World) (hn : n ≤ maxLen) (hm : m ≤ maxLen) :
    Calls Try.prog 98 #[.slice A n c, .slice A' m c'] w fun e w' => e = .returned (.bool (decide (n = m))) ∧ w = w' := by
  unfold maxLen at hn hm
  by_cases h : n = m
  · subst h
    rw [decide_eq_true rfl]
    go_enter Try.func98, Try.ntmps98
    go_wp2_with fail
    go_ret
    exact ⟨rfl, rfl⟩
  · rw [decide_eq_false h]
    have e : ((n : Int) == (m : Int)) = false := by simp; omega
    go_enter Try.func98, Try.ntmps98
    go_wp2_with fail
    go_ret
    exact ⟨rfl, rfl⟩
theorem asMany_ints (A A' : Option Addr) (n m c c' : Nat) (w : World) (hn : n ≤ maxLen) (hm : m ≤ maxLen) :
    Calls Try.prog 99 #[.slice A n c, .slice A' m c'] w fun e w' => e = .returned (.bool (decide (n = m))) ∧ w = w' := by
  unfold maxLen at hn hm
  by_cases h : n = m
  · subst h
    rw [decide_eq_true rfl]
    go_enter Try.func99, Try.ntmps99
    go_wp2_with fail
    go_ret
    exact ⟨rfl, rfl⟩
  · rw [decide_eq_false h]
    have e : ((n : Int) == (m : Int)) = false := by simp; omega
    go_enter Try.func99, Try.ntmps99
    go_wp2_with fail
    go_ret
    exact ⟨rfl, rfl⟩

/-- a lower-case letter, a decimal digit -/
def letB (c : UInt8) : Bool := decide (97 ≤ c.toNat ∧ c.toNat ≤ 122)
def digB (c : UInt8) : Bool := decide (48 ≤ c.toNat ∧ c.toNat ≤ 57)

set_option maxHeartbeats 400000 in
theorem isLetter_any (c : UInt8) (w : World) : Calls Try.prog 77 #[.int .u8 c.toNat] w fun e w' => e = .returned (.bool (letB c)) ∧ w = w' := by
  unfold letB
  by_cases h0 : 97 ≤ c.toNat
  · have i0 : (97 : Int) ≤ (c.toNat : Int) := by omega
    by_cases h1 : c.toNat ≤ 122
    · have i1 : (c.toNat : Int) ≤ 122 := by omega
      rw [decide_eq_true ⟨h0, h1⟩]
      go_enter Try.func77, Try.ntmps77
      go_wp2_with fail
      go_ret
      exact ⟨rfl, rfl⟩
    · have i1 : ¬ (c.toNat : Int) ≤ 122 := by omega
      rw [decide_eq_false (fun h => h1 h.2)]
      go_enter Try.func77, Try.ntmps77
      go_wp2_with fail
      go_ret
      exact ⟨rfl, rfl⟩
  · have i0 : ¬ (97 : Int) ≤ (c.toNat : Int) := by omega
    rw [decide_eq_false (fun h => h0 h.1)]
    go_enter Try.func77, Try.ntmps77
    go_wp2_with fail
    go_ret
    exact ⟨rfl, rfl⟩

set_option maxHeartbeats 400000 in
theorem isDigit_any (c : UInt8) (w : World) : Calls Try.prog 78 #[.int .u8 c.toNat] w fun e w' => e = .returned (.bool (digB c)) ∧ w = w' := by
  unfold digB
  by_cases h0 : 48 ≤ c.toNat
  · have i0 : (48 : Int) ≤ (c.toNat : Int) := by omega
    by_cases h1 : c.toNat ≤ 57
    · have i1 : (c.toNat : Int) ≤ 57 := by omega
      rw [decide_eq_true ⟨h0, h1⟩]
      go_enter Try.func78, Try.ntmps78
      go_wp2_with fail
      go_ret
      exact ⟨rfl, rfl⟩
    · have i1 : ¬ (c.toNat : Int) ≤ 57 := by omega
      rw [decide_eq_false (fun h => h1 h.2)]
      go_enter Try.func78, Try.ntmps78
      go_wp2_with fail
      go_ret
      exact ⟨rfl, rfl⟩
  · have i0 : ¬ (48 : Int) ≤ (c.toNat : Int) := by omega
    rw [decide_eq_false (fun h => h0 h.1)]
    go_enter Try.func78, Try.ntmps78
    go_wp2_with fail
    go_ret
    exact ⟨rfl, rfl⟩

/-- a byte that a name may have at a place -/
def nmB (first : Bool) (c : UInt8) : Bool := letB c || (!first && (digB c || decide (c.toNat = 45)))
/-- all bytes of a string may be in a name -/
def nmAll (s : ByteArray) (n : Nat) : Bool := (List.range n).all fun i => nmB (i == 0) (s.get! i)
def nameB (s : ByteArray) : Bool := nmAll s s.size && (decide (1 ≤ (s.size : Int)) && decide ((s.size : Int) ≤ 24))

theorem nmAll_succ (s : ByteArray) (n : Nat) : nmAll s (n+1) = (nmAll s n && nmB (n == 0) (s.get! n)) := by
  unfold nmAll; rw [List.range_succ, List.all_append]; simp
theorem nmAll_le {s : ByteArray} {n m : Nat} (h : nmAll s n = false) (hm : n ≤ m) : nmAll s m = false := by
  unfold nmAll at h ⊢
  rw [List.all_eq_false] at h ⊢
  obtain ⟨x, hx, hp⟩ := h
  exact ⟨x, by simp at hx ⊢; omega, hp⟩
theorem get_of {s : ByteArray} {i : Nat} (h : i < s.size) : s.get! i = s[i] := by
  cases s with
  | mk d =>
    have h' : i < d.size := h
    show d[i]! = d[i]
    simp [h']

set_option maxHeartbeats 2000000 in
theorem isName_any (s : ByteArray) (w : World) (hs : s.size ≤ maxLen) :
    Calls Try.prog 43 #[.string s] w fun e w' => e = .returned (.bool (nameB s)) ∧ w = w' := by
  unfold maxLen at hs
  go_enter Try.func43, Try.ntmps43
  go_wp2_with fail
  go_loopg [6] s.size (fun n i' wr => ∃ i : Nat, i ≤ s.size ∧ n = s.size - i ∧ i' = .int .i64 i ∧ Hid (nmAll s i = true) ∧ w = wr)
  case atStart => exact ⟨0, by omega, by omega, rfl, rfl, rfl⟩
  case round =>
    obtain ⟨i, hi, hn0, rfl, ha, rfl⟩ := hrel
    have HN := Lib.hid hn0
    clear hn0
    by_cases hlt : i < s.size
    · have hs1 := nmAll_succ s i
      rw [get_of hlt] at hs1
      cases hl : letB s[i]
      · by_cases h0 : i = 0
        · have HF : Hid (nameB s = false) := by
            show nameB s = false
            have h1 : nmAll s (i+1) = false := by
              have e0 : (i == 0) = true := by simp [h0]
              rw [hs1, ha]; unfold nmB; rw [hl, e0]; rfl
            unfold nameB
            rw [nmAll_le h1 (by omega)]; rfl
          have HL := Lib.hid hl
          clear hl hs1
          subst h0
          go_wp2_with fail
          refine (isLetter_any _ _).mono ?_
          rintro e w1 ⟨rfl, rfl⟩
          rw [HL.out]
          go_wp2_with fail
          go_ret
          exact ⟨by rw [HF.out]; rfl, rfl⟩
        · have i0 : ((i : Int) == 0) = false := by simp; omega
          have i0' : (i == 0) = false := by simp; omega
          cases hd : digB s[i]
          · by_cases h45 : s[i].toNat = 45
            · have ha' : Hid (nmAll s (i+1) = true) := by
                show nmAll s (i+1) = true
                rw [hs1, ha]; unfold nmB; rw [hl, hd, i0', decide_eq_true h45]; rfl
              have c45 : (((s[i].toNat : Int) != 45)) = false := by simp; omega
              have HL := Lib.hid hl
              have HD := Lib.hid hd
              clear hl hs1 hd i0' h45
              go_wp2_with fail
              refine (isLetter_any _ _).mono ?_
              rintro e w1 ⟨rfl, rfl⟩
              rw [HL.out]
              go_wp2_with fail
              refine (isDigit_any _ _).mono ?_
              rintro e w1 ⟨rfl, rfl⟩
              rw [HD.out]
              go_wp2_with fail
              go_roundg (s.size - (i + 1))
              case measure => have := HN.out; omega
              case rel => exact ⟨i + 1, by omega, rfl, by go_num, ha', rfl⟩
            · have HF : Hid (nameB s = false) := by
                show nameB s = false
                have h1 : nmAll s (i+1) = false := by
                  rw [hs1, ha]; unfold nmB; rw [hl, hd, i0', decide_eq_false h45]; rfl
                unfold nameB
                rw [nmAll_le h1 (by omega)]; rfl
              have c45 : (((s[i].toNat : Int) != 45)) = true := by simp; omega
              have HL := Lib.hid hl
              have HD := Lib.hid hd
              clear hl hs1 hd i0' h45
              go_wp2_with fail
              refine (isLetter_any _ _).mono ?_
              rintro e w1 ⟨rfl, rfl⟩
              rw [HL.out]
              go_wp2_with fail
              refine (isDigit_any _ _).mono ?_
              rintro e w1 ⟨rfl, rfl⟩
              rw [HD.out]
              go_wp2_with fail
              go_ret
              exact ⟨by rw [HF.out]; rfl, rfl⟩
          · have ha' : Hid (nmAll s (i+1) = true) := by
              show nmAll s (i+1) = true
              rw [hs1, ha]; unfold nmB; rw [hl, hd, i0']; rfl
            have HL := Lib.hid hl
            have HD := Lib.hid hd
            clear hl hs1 hd i0'
            go_wp2_with fail
            refine (isLetter_any _ _).mono ?_
            rintro e w1 ⟨rfl, rfl⟩
            rw [HL.out]
            go_wp2_with fail
            refine (isDigit_any _ _).mono ?_
            rintro e w1 ⟨rfl, rfl⟩
            rw [HD.out]
            go_wp2_with fail
            go_roundg (s.size - (i + 1))
            case measure => have := HN.out; omega
            case rel => exact ⟨i + 1, by omega, rfl, by go_num, ha', rfl⟩
      · have ha' : Hid (nmAll s (i+1) = true) := by
          show nmAll s (i+1) = true
          rw [hs1, ha]; unfold nmB; rw [hl]; rfl
        have HL := Lib.hid hl
        clear hl hs1
        go_wp2_with fail
        refine (isLetter_any _ _).mono ?_
        rintro e w1 ⟨rfl, rfl⟩
        rw [HL.out]
        go_wp2_with fail
        go_roundg (s.size - (i + 1))
        case measure => have := HN.out; omega
        case rel => exact ⟨i + 1, by omega, rfl, by go_num, ha', rfl⟩
    · obtain rfl : i = s.size := by omega
      have HA := Lib.hid (show nameB s = (decide (1 ≤ (s.size : Int)) && decide ((s.size : Int) ≤ 24)) by unfold nameB; rw [ha]; rfl)
      clear ha
      by_cases h1 : 1 ≤ (s.size : Int)
      · by_cases h2 : (s.size : Int) ≤ 24
        · have HF : Hid (nameB s = true) := by show nameB s = true; rw [HA.out, decide_eq_true h1, decide_eq_true h2]; rfl
          go_wp2_with fail
          go_ret
          exact ⟨by rw [HF.out]; rfl, rfl⟩
        · have HF : Hid (nameB s = false) := by show nameB s = false; rw [HA.out, decide_eq_true h1, decide_eq_false h2]; rfl
          go_wp2_with fail
          go_ret
          exact ⟨by rw [HF.out]; rfl, rfl⟩
      · have HF : Hid (nameB s = false) := by show nameB s = false; rw [HA.out, decide_eq_false h1]; rfl
        go_wp2_with fail
        go_ret
        exact ⟨by rw [HF.out]; rfl, rfl⟩

theorem name_any (s : ByteArray) (w : World) (hs : s.size ≤ maxLen) :
    Calls Try.prog 18 #[.string s] w fun e w' => e = .returned (.bool (nameB s)) ∧ w = w' := by
  go_enter Try.func18, Try.ntmps18
  go_wp2_with fail
  refine (isName_any _ _ hs).mono ?_
  rintro e w1 ⟨rfl, rfl⟩
  go_wp2_with fail
  go_ret
  exact ⟨rfl, rfl⟩
end Go.Proofs.Ytgmpipciinphiaa
