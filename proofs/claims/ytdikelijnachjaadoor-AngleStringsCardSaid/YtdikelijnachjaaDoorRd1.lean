/- Digits, and the letters of directions: what the code reads. -/
import Derived.Test.YtdikelijnachjaaDoorWwrt
import Derived.IntWalk
import Derived.Deep.LoopGhost
import Derived.Deep.DrawnRows
import Derived.LoopN
import Derived.BigQuiet
namespace Go.Proofs.YtdikelijnachjaaDoor
set_option linter.unusedSimpArgs false
set_option linter.unusedVariables false
open Go.RowKit
attribute [local go_sem ↓] Go.wp_at_zero Go.wp_at_succ

/-- a decimal digit -/
def digB (c : UInt8) : Bool := decide (48 ≤ c.toNat ∧ c.toNat ≤ 57)

set_option maxHeartbeats 400000 in
theorem isDigit_any (c : UInt8) (w : World) : Calls Tryd.prog 104 #[.int .u8 c.toNat] w fun e w' => e = .returned (.bool (digB c)) ∧ w' = w := by
  unfold digB
  by_cases h0 : 48 ≤ c.toNat
  · have i0 : (48 : Int) ≤ (c.toNat : Int) := by omega
    by_cases h1 : c.toNat ≤ 57
    · have i1 : (c.toNat : Int) ≤ 57 := by omega
      rw [decide_eq_true ⟨h0, h1⟩]
      go_enter Tryd.func104, Tryd.ntmps104
      go_wp2_with fail
      go_ret
      exact ⟨rfl, rfl⟩
    · have i1 : ¬ (c.toNat : Int) ≤ 57 := by omega
      rw [decide_eq_false (fun h => h1 h.2)]
      go_enter Tryd.func104, Tryd.ntmps104
      go_wp2_with fail
      go_ret
      exact ⟨rfl, rfl⟩
  · have i0 : ¬ (48 : Int) ≤ (c.toNat : Int) := by omega
    rw [decide_eq_false (fun h => h0 h.1)]
    go_enter Tryd.func104, Tryd.ntmps104
    go_wp2_with fail
    go_ret
    exact ⟨rfl, rfl⟩

/-- from 1 to most decimal digits -/
def isD (l : List UInt8) (most : Int) : Bool := l.all digB && decide (1 ≤ (l.length : Int) ∧ (l.length : Int) ≤ most)

set_option maxHeartbeats 1000000 in
theorem isDigits_any (l : List UInt8) (most : Int) (w : World) (hl : l.length ≤ 1000) (hm : 0 ≤ most ∧ most ≤ 1000) :
    Calls Tryd.prog 90 #[.string ⟨l.toArray⟩, .int .i64 most] w fun e w' => e = .returned (.bool (isD l most)) ∧ w' = w := by
  go_enter Tryd.func90, Tryd.ntmps90
  go_wp2_with fail
  go_loopg [8] l.length (fun n i' wr => ∃ i : Nat, i ≤ l.length ∧ n = l.length - i ∧ i' = .int .i64 i ∧ Hid ((l.take i).all digB = true) ∧ wr = w)
  case atStart => exact ⟨0, by omega, by omega, rfl, rfl, rfl⟩
  case round =>
    obtain ⟨i, hi, hn0, rfl, ha, rfl⟩ := hrel
    have HN := Lib.hid hn0
    clear hn0
    by_cases hlt : i < l.length
    · have hli : (i : Int) < (l.length : Int) := by omega
      have hsz : i < (⟨l.toArray⟩ : ByteArray).size := by simpa [ByteArray.size] using hlt
      go_wp2_with fail
      refine (isDigit_any _ _).mono ?_
      rintro e w1 ⟨rfl, rfl⟩
      have hb : digB ((⟨l.toArray⟩ : ByteArray)[i]) = digB l[i] := rfl
      rw [hb]
      have ht : (l.take (i+1)).all digB = ((l.take i).all digB && digB l[i]) := by
        rw [List.take_succ_eq_append_getElem hlt, List.all_append]; simp
      cases hd : digB l[i]
      · have hf : isD l most = false := by
          unfold isD
          have : l.all digB = false := by
            rw [List.all_eq_false]
            exact ⟨l[i], List.getElem_mem hlt, by rw [hd]; decide⟩
          rw [this]; rfl
        have HF := Lib.hid hf
        clear hf ht hd hb
        go_wp2_with fail
        go_ret
        exact ⟨by rw [HF.out]; rfl, rfl⟩
      · have ha' : Hid ((l.take (i+1)).all digB = true) := by
          show (l.take (i+1)).all digB = true
          rw [ht, ha, hd]; rfl
        clear ht hd hb
        go_wp2_with fail
        go_roundg (l.length - (i + 1))
        case measure => have := HN.out; omega
        case rel => exact ⟨i + 1, by omega, rfl, by go_num, ha', rfl⟩
    · obtain rfl : i = l.length := by omega
      have hall : l.all digB = true := by
        have := ha
        rw [List.take_length] at this
        exact this
      have HA := Lib.hid hall
      clear hall ha
      by_cases h1 : 1 ≤ (l.length : Int)
      · by_cases h2 : (l.length : Int) ≤ most
        · have hf : isD l most = true := by unfold isD; rw [HA.out, decide_eq_true ⟨h1, h2⟩]; rfl
          have HF := Lib.hid hf
          clear hf
          go_wp2_with fail
          go_ret
          exact ⟨by rw [HF.out]; rfl, rfl⟩
        · have hf : isD l most = false := by unfold isD; rw [decide_eq_false (fun h => h2 h.2)]; simp
          have HF := Lib.hid hf
          clear hf
          go_wp2_with fail
          go_ret
          exact ⟨by rw [HF.out]; rfl, rfl⟩
      · have hf : isD l most = false := by unfold isD; rw [decide_eq_false (fun h => h1 h.1)]; simp
        have HF := Lib.hid hf
        clear hf
        go_wp2_with fail
        go_ret
        exact ⟨by rw [HF.out]; rfl, rfl⟩

/-- what a letter says: its axis, its sign, and whether it is one -/
def dirA (c : UInt8) : Int := if c = 78 then 0 else if c = 83 then 0 else if c = 69 then 1 else if c = 87 then 1 else 0
def dirS (c : UInt8) : Int := if c = 78 then 1 else if c = 83 then -1 else if c = 69 then 1 else if c = 87 then -1 else 0
def dirK (c : UInt8) : Bool := if c = 78 then true else if c = 83 then true else if c = 69 then true else if c = 87 then true else false

theorem u8_ne {c : UInt8} {n : Nat} (hn : n < 256) (h : c ≠ UInt8.ofNat n) : ¬ ((n : Int) = (c.toNat : Int)) := by
  intro e
  apply h
  apply UInt8.toNat_inj.1
  rw [show (UInt8.ofNat n).toNat = n % 256 from rfl]
  omega

theorem below_drewN' {B : Nat} {a w : World} (h : Below B a w) (n : Nat) : Below B a (w.drewN n) := ⟨h.os, h.tape, h.output, h.size, h.block⟩

set_option maxHeartbeats 4000000 in
theorem direction_any (c : UInt8) (w : World) (t : Tabs w) : Calls Tryd.prog 70 #[.int .u8 c.toNat] w fun e w' => e = .returned (.tuple #[.int .i64 (dirA c), .int .i64 (dirS c), .bool (dirK c)]) ∧ Below w.heap.size w w' := by
  obtain ⟨f0, f1, h0, h1, h2, h3, h4, h5, h6, h7, h8, h9, h10, h11, _, _, hs⟩ := t
  have i0 := heads0
  have i1 := heads1
  have i2 := heads2
  have i3 := heads3
  by_cases c0 : c = 78
  · subst c0
    go_enter Tryd.func70, Tryd.ntmps70
    go_wp2_with fail
    refine wp_loop_rounds 5 ?_
    rw [rounds_succ]
    go_wp2_with fail
    go_quiet (fail)
    go_wp2_with fail
    go_ret3
    refine ⟨by kernel_rfl, ?_⟩
    ((repeat' (first | exact Below.refl _ _ | (with_reducible refine below_drewN' ?_ _) | refine Below.alloc ?_ ?_ _)); all_goals (first | (simp; done) | (simp; omega)))
  · by_cases c1 : c = 83
    · subst c1
      go_enter Tryd.func70, Tryd.ntmps70
      go_wp2_with fail
      refine wp_loop_rounds 5 ?_
      rw [rounds_succ]
      go_wp2_with fail
      rw [rounds_succ]
      go_wp2_with fail
      go_quiet (fail)
      go_wp2_with fail
      go_ret3
      refine ⟨by kernel_rfl, ?_⟩
      ((repeat' (first | exact Below.refl _ _ | (with_reducible refine below_drewN' ?_ _) | refine Below.alloc ?_ ?_ _)); all_goals (first | (simp; done) | (simp; omega)))
    · by_cases c2 : c = 69
      · subst c2
        go_enter Tryd.func70, Tryd.ntmps70
        go_wp2_with fail
        refine wp_loop_rounds 5 ?_
        rw [rounds_succ]
        go_wp2_with fail
        rw [rounds_succ]
        go_wp2_with fail
        rw [rounds_succ]
        go_wp2_with fail
        go_quiet (fail)
        go_wp2_with fail
        go_ret3
        refine ⟨by kernel_rfl, ?_⟩
        ((repeat' (first | exact Below.refl _ _ | (with_reducible refine below_drewN' ?_ _) | refine Below.alloc ?_ ?_ _)); all_goals (first | (simp; done) | (simp; omega)))
      · by_cases c3 : c = 87
        · subst c3
          go_enter Tryd.func70, Tryd.ntmps70
          go_wp2_with fail
          refine wp_loop_rounds 5 ?_
          rw [rounds_succ]
          go_wp2_with fail
          rw [rounds_succ]
          go_wp2_with fail
          rw [rounds_succ]
          go_wp2_with fail
          rw [rounds_succ]
          go_wp2_with fail
          go_quiet (fail)
          go_wp2_with fail
          go_ret3
          refine ⟨by kernel_rfl, ?_⟩
          ((repeat' (first | exact Below.refl _ _ | (with_reducible refine below_drewN' ?_ _) | refine Below.alloc ?_ ?_ _)); all_goals (first | (simp; done) | (simp; omega)))
        · have n0 := u8_ne (c := c) (n := 78) (by decide) c0
          have n1 := u8_ne (c := c) (n := 83) (by decide) c1
          have n2 := u8_ne (c := c) (n := 69) (by decide) c2
          have n3 := u8_ne (c := c) (n := 87) (by decide) c3
          have b0 : ((78 : Int) == (c.toNat : Int)) = false := by simpa using n0
          have b1 : ((83 : Int) == (c.toNat : Int)) = false := by simpa using n1
          have b2 : ((69 : Int) == (c.toNat : Int)) = false := by simpa using n2
          have b3 : ((87 : Int) == (c.toNat : Int)) = false := by simpa using n3
          have e : dirA c = 0 ∧ dirS c = 0 ∧ dirK c = false := by
            unfold dirA dirS dirK
            rw [if_neg c0, if_neg c1, if_neg c2, if_neg c3, if_neg c0, if_neg c1, if_neg c2, if_neg c3, if_neg c0, if_neg c1, if_neg c2, if_neg c3]
            exact ⟨rfl, rfl, rfl⟩
          rw [e.1, e.2.1, e.2.2]
          clear e n0 n1 n2 n3 c0 c1 c2 c3
          go_enter Tryd.func70, Tryd.ntmps70
          go_wp2_with fail
          refine wp_loop_rounds 5 ?_
          rw [rounds_succ]
          go_wp2_with fail
          rw [rounds_succ]
          go_wp2_with fail
          rw [rounds_succ]
          go_wp2_with fail
          rw [rounds_succ]
          go_wp2_with fail
          rw [rounds_succ]
          go_wp2_with fail
          go_ret3
          refine ⟨rfl, ?_⟩
          ((repeat' (first | exact Below.refl _ _ | (with_reducible refine below_drewN' ?_ _) | refine Below.alloc ?_ ?_ _)); all_goals (first | (simp; done) | (simp; omega)))
end Go.Proofs.YtdikelijnachjaaDoor
