/- Write of the code: the string of an angle. -/
import Derived.Test.YtdikelijnachjaaDoorBase
import Derived.Test.YtdikelijnachjaaDoorShStr
import Derived.WalkSmall
import Derived.LoopN
import Derived.Lib.LaidTab
import Derived.Lib.ItoaNum
import Derived.Lib.TrimByte
import Derived.Shelf.SlSorted.Search
namespace Go.Proofs.YtdikelijnachjaaDoor
set_option linter.unusedSimpArgs false
set_option linter.unusedVariables false
open Go.RowKit Go.Sort

theorem gPow : Tryd.prog.globalNamed "internal/strconv.uint64pow10" = some 4 := by kernel_rfl

/-- what the package-level tables hold -/
structure Tabs (w : World) : Prop where
  f0 : w.cell? ⟨0, 0, none⟩ = some (.int .i64 90000000)
  f1 : w.cell? ⟨0, 1, none⟩ = some (.int .i64 180000000)
  h0 : w.cell? ⟨1, 0, none⟩ = some (.int .u8 78)
  h1 : w.cell? ⟨1, 1, none⟩ = some (.int .i64 0)
  h2 : w.cell? ⟨1, 2, none⟩ = some (.int .i64 1)
  h3 : w.cell? ⟨1, 3, none⟩ = some (.int .u8 83)
  h4 : w.cell? ⟨1, 4, none⟩ = some (.int .i64 0)
  h5 : w.cell? ⟨1, 5, none⟩ = some (.int .i64 (-1))
  h6 : w.cell? ⟨1, 6, none⟩ = some (.int .u8 69)
  h7 : w.cell? ⟨1, 7, none⟩ = some (.int .i64 1)
  h8 : w.cell? ⟨1, 8, none⟩ = some (.int .i64 1)
  h9 : w.cell? ⟨1, 9, none⟩ = some (.int .u8 87)
  h10 : w.cell? ⟨1, 10, none⟩ = some (.int .i64 1)
  h11 : w.cell? ⟨1, 11, none⟩ = some (.int .i64 (-1))
  pow : Lib.TabIs Tryd.prog w "internal/strconv.uint64pow10" .u64 Lib.pow10Tab
  len : ∃ m, w.cell? ⟨3, 0, none⟩ = some (.int .i64 m)
  size : 9 ≤ w.heap.size

theorem Tabs.below {w w' : World} (t : Tabs w) (h : Below w.heap.size w w') : Tabs w' := by
  have hs := t.size
  have c : ∀ b o, b < 9 → w'.cell? ⟨b, o, none⟩ = w.cell? ⟨b, o, none⟩ := fun b o hb => h.cell (p := ⟨b, o, none⟩) (by show b < _; omega)
  obtain ⟨m, hm⟩ := t.len
  refine ⟨?_, ?_, ?_, ?_, ?_, ?_, ?_, ?_, ?_, ?_, ?_, ?_, ?_, ?_, ?_, ⟨m, ?_⟩, Nat.le_trans hs h.size⟩
  · rw [c _ _ (by decide)]; exact t.f0
  · rw [c _ _ (by decide)]; exact t.f1
  · rw [c _ _ (by decide)]; exact t.h0
  · rw [c _ _ (by decide)]; exact t.h1
  · rw [c _ _ (by decide)]; exact t.h2
  · rw [c _ _ (by decide)]; exact t.h3
  · rw [c _ _ (by decide)]; exact t.h4
  · rw [c _ _ (by decide)]; exact t.h5
  · rw [c _ _ (by decide)]; exact t.h6
  · rw [c _ _ (by decide)]; exact t.h7
  · rw [c _ _ (by decide)]; exact t.h8
  · rw [c _ _ (by decide)]; exact t.h9
  · rw [c _ _ (by decide)]; exact t.h10
  · rw [c _ _ (by decide)]; exact t.h11
  · exact var?_below h gPow (by omega) t.pow
  · rw [c _ _ (by decide)]; exact hm

/-- the degrees and the decimals of an angle from 0 on, as a string -/
def wsz (n : Int) : List UInt8 := if n % 1000000 = 0 then Lib.itoa (n / 1000000) else Lib.itoa (n / 1000000) ++ [46] ++ Lib.trimRightB (Lib.itoa (n % 1000000 + 1000000)).tail 48

theorem itoa_any (n : Int) (h0 : -9223372036854775808 ≤ n) (h1 : n ≤ 9223372036854775807) (w : World) (t : Tabs w) :
    Calls Tryd.prog 92 #[.int .i64 n] w fun e w' => e = .returned (.string ⟨(Lib.itoa n).toArray⟩) ∧ Below w.heap.size w w' := by
  refine (Tryd.strconv_Itoa n h0 h1 w t.pow).mono ?_
  rintro e w' ⟨rfl, k, os, rfl⟩
  exact ⟨rfl, below_grown_sl _ w k os (Nat.le_refl _)⟩

set_option maxHeartbeats 400000 in
theorem writeSize_whole (n : Int) (w : World) (t : Tabs w) (h0 : 0 ≤ n) (h1 : n ≤ 180000000) (hz : n % 1000000 = 0) :
    Calls Tryd.prog 75 #[.int .i64 n] w fun e w' => e = .returned (.string ⟨(Lib.itoa (n / 1000000)).toArray⟩) ∧ Below w.heap.size w w' := by
  have e1 : (n % 1000000 == 0) = true := by simp [hz]
  clear hz
  go_enter Tryd.func75, Tryd.ntmps75
  go_wp2_with fail
  refine (itoa_any (n / 1000000) (by omega) (by omega) _ t).mono ?_
  rintro e w1 ⟨rfl, hb1⟩
  go_wp2_with fail
  go_ret
  exact ⟨rfl, hb1⟩

theorem decDigits_len (k : Nat) : ∀ u : Nat, u < 10^(k+1) → 1 ≤ (Lib.decDigits u).length ∧ (Lib.decDigits u).length ≤ k + 1 := by
  induction k with
  | zero => intro u h; rw [Lib.decDigits, dif_pos (by simpa using h)]; simp
  | succ k ih =>
    intro u h
    by_cases c : u < 10
    · rw [Lib.decDigits, dif_pos c]; simp
    · rw [Lib.decDigits, dif_neg c]
      have := ih (u / 10) (by rw [Nat.pow_succ] at h; omega)
      simp only [List.length_append, List.length_cons, List.length_nil]
      omega
theorem itoa_len (n : Int) (h0 : 0 ≤ n) (h1 : n ≤ 9999999) : 1 ≤ (Lib.itoa n).length ∧ (Lib.itoa n).length ≤ 7 := by
  unfold Lib.itoa
  rw [if_neg (by omega)]
  exact decDigits_len 6 n.toNat (by omega)

set_option maxHeartbeats 400000 in
theorem writeSize_part (n : Int) (w : World) (t : Tabs w) (h0 : 0 ≤ n) (h1 : n ≤ 180000000) (hz : n % 1000000 ≠ 0) :
    Calls Tryd.prog 75 #[.int .i64 n] w fun e w' => e = .returned (.string ⟨(Lib.itoa (n / 1000000) ++ [46] ++ Lib.trimRightB (Lib.itoa (n % 1000000 + 1000000)).tail 48).toArray⟩) ∧ Below w.heap.size w w' := by
  have e1 : (n % 1000000 == 0) = false := by simp [hz]
  clear hz
  go_enter Tryd.func75, Tryd.ntmps75
  go_wp2_with fail
  refine (itoa_any (n / 1000000) (by omega) (by omega) _ t).mono ?_
  rintro e w1 ⟨rfl, hb1⟩
  go_wp2_with fail
  refine (itoa_any (n % 1000000 + 1000000) (by omega) (by omega) _ (t.below hb1)).mono ?_
  rintro e w2 ⟨rfl, hb2⟩
  obtain ⟨a1, a2⟩ := itoa_len (n / 1000000) (by omega) (by omega)
  obtain ⟨c1, c2⟩ := itoa_len (n % 1000000 + 1000000) (by omega) (by omega)
  have hx : ByteArray.extract ⟨(Lib.itoa (n % 1000000 + 1000000)).toArray⟩ 1 (Lib.itoa (n % 1000000 + 1000000)).length = ⟨(Lib.itoa (n % 1000000 + 1000000)).tail.toArray⟩ := by
    apply ByteArray.ext
    simp [ByteArray.data_extract, List.take_of_length_le]
  go_wp2_with fail
  refine (Tryd.strings_TrimRight_one ⟨(Lib.itoa (n % 1000000 + 1000000)).tail.toArray⟩ 48 (by decide) _ ?_).mono ?_
  · simp only [ByteArray.size, List.size_toArray, List.length_tail]; omega
  rintro e w3 ⟨rfl, rfl⟩
  have hx2 : (⟨(Lib.itoa (n % 1000000 + 1000000)).tail.toArray⟩ : ByteArray).data.toList = (Lib.itoa (n % 1000000 + 1000000)).tail := by simp
  rw [hx2]
  have t1 : (Lib.trimRightB (Lib.itoa (n % 1000000 + 1000000)).tail 48).length ≤ 7 := by
    unfold Lib.trimRightB
    have := (List.dropWhile_suffix (fun x : UInt8 => x == 48) (l := (Lib.itoa (n % 1000000 + 1000000)).tail.reverse)).length_le
    simp only [List.length_reverse, List.length_tail] at *
    omega
  go_wp2_with fail
  go_ret
  refine ⟨?_, hb1.trans (hb2.mono hb1.size)⟩
  have e3 : ∀ A T : List UInt8, (⟨A.toArray⟩ ++ ⟨#[46]⟩ ++ ⟨T.toArray⟩ : ByteArray) = ⟨(A ++ [46] ++ T).toArray⟩ := by
    intro A T
    apply ByteArray.ext
    simp
  show Ending.returned (Value.string _) = _
  rw [e3]

theorem writeSize_any (n : Int) (w : World) (t : Tabs w) (h0 : 0 ≤ n) (h1 : n ≤ 180000000) :
    Calls Tryd.prog 75 #[.int .i64 n] w fun e w' => e = .returned (.string ⟨(wsz n).toArray⟩) ∧ Below w.heap.size w w' := by
  by_cases hz : n % 1000000 = 0
  · have e : wsz n = Lib.itoa (n / 1000000) := by unfold wsz; rw [if_pos hz]
    rw [e]; exact writeSize_whole n w t h0 h1 hz
  · have e : wsz n = Lib.itoa (n / 1000000) ++ [46] ++ Lib.trimRightB (Lib.itoa (n % 1000000 + 1000000)).tail 48 := by unfold wsz; rw [if_neg hz]
    rw [e]; exact writeSize_part n w t h0 h1 hz

/-- the four letters, as the array holds them -/
abbrev heads : Value := .agg #[.int .u8 78, .int .i64 0, .int .i64 1, .int .u8 83, .int .i64 0, .int .i64 (-1), .int .u8 69, .int .i64 1, .int .i64 1, .int .u8 87, .int .i64 1, .int .i64 (-1)]
theorem heads0 (w : World) : (Instr.index 82 heads (.int .i64 0)).run Tryd.prog w = .ok (.agg #[.int .u8 78, .int .i64 0, .int .i64 1]) w := by kernel_rfl
theorem heads1 (w : World) : (Instr.index 82 heads (.int .i64 1)).run Tryd.prog w = .ok (.agg #[.int .u8 83, .int .i64 0, .int .i64 (-1)]) w := by kernel_rfl
theorem heads2 (w : World) : (Instr.index 82 heads (.int .i64 2)).run Tryd.prog w = .ok (.agg #[.int .u8 69, .int .i64 1, .int .i64 1]) w := by kernel_rfl
theorem heads3 (w : World) : (Instr.index 82 heads (.int .i64 3)).run Tryd.prog w = .ok (.agg #[.int .u8 87, .int .i64 1, .int .i64 (-1)]) w := by kernel_rfl

/-- which letter an axis and a sign have -/
def LetterOf (axis sign : Int) (m : Nat) (c : UInt8) : Prop := (axis = 0 ∧ sign = 1 ∧ m = 0 ∧ c = 78) ∨ (axis = 0 ∧ sign = -1 ∧ m = 1 ∧ c = 83) ∨ (axis = 1 ∧ sign = 1 ∧ m = 2 ∧ c = 69) ∨ (axis = 1 ∧ sign = -1 ∧ m = 3 ∧ c = 87)

set_option maxHeartbeats 2000000 in
theorem letter_any (axis sign : Int) (m : Nat) (c : UInt8) (w : World) (t : Tabs w) (hl : LetterOf axis sign m c) :
    Calls Tryd.prog 76 #[.int .i64 axis, .int .i64 sign] w fun e w' => e = .returned (.string ⟨#[c]⟩) ∧ Below w.heap.size w w' := by
  obtain ⟨f0, f1, h0, h1, h2, h3, h4, h5, h6, h7, h8, h9, h10, h11, _, _, hs⟩ := t
  have i0 := heads0
  have i1 := heads1
  have i2 := heads2
  have i3 := heads3
  rcases hl with ⟨rfl, rfl, rfl, rfl⟩ | ⟨rfl, rfl, rfl, rfl⟩ | ⟨rfl, rfl, rfl, rfl⟩ | ⟨rfl, rfl, rfl, rfl⟩
  · go_enter Tryd.func76, Tryd.ntmps76
    go_wp2_with fail
    refine wp_loop_rounds 4 ?_
    rw [rounds_succ]
    go_wp2
    go_ret
    exact ⟨by kernel_rfl, (Below.refl _ _).alloc (Nat.le_refl _) _⟩
  · go_enter Tryd.func76, Tryd.ntmps76
    go_wp2_with fail
    refine wp_loop_rounds 4 ?_
    rw [rounds_succ]
    go_wp2
    rw [rounds_succ]
    go_wp2
    go_ret
    refine ⟨by kernel_rfl, ?_⟩
    repeat' (first | exact Below.refl _ _ | refine Below.alloc ?_ ?_ _)
    all_goals (first | (simp; done) | (simp; omega))
  · go_enter Tryd.func76, Tryd.ntmps76
    go_wp2_with fail
    refine wp_loop_rounds 4 ?_
    rw [rounds_succ]
    go_wp2
    rw [rounds_succ]
    go_wp2
    rw [rounds_succ]
    go_wp2
    go_ret
    refine ⟨by kernel_rfl, ?_⟩
    repeat' (first | exact Below.refl _ _ | refine Below.alloc ?_ ?_ _)
    all_goals (first | (simp; done) | (simp; omega))
  · go_enter Tryd.func76, Tryd.ntmps76
    go_wp2_with fail
    refine wp_loop_rounds 4 ?_
    rw [rounds_succ]
    go_wp2
    rw [rounds_succ]
    go_wp2
    rw [rounds_succ]
    go_wp2
    rw [rounds_succ]
    go_wp2
    go_ret
    refine ⟨by kernel_rfl, ?_⟩
    repeat' (first | exact Below.refl _ _ | refine Below.alloc ?_ ?_ _)
    all_goals (first | (simp; done) | (simp; omega))

end Go.Proofs.YtdikelijnachjaaDoor
