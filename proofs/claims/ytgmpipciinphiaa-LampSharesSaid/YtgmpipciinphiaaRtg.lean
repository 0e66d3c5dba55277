/- Tangents, as the reference asks of them. -/
import Derived.Test.YtgmpipciinphiaaRsm
namespace Go.Proofs.Ytgmpipciinphiaa
set_option linter.unusedSimpArgs false
set_option linter.unusedVariables false
open Go.RowKit
attribute [local go_sem ↓] Go.wp_at_zero Go.wp_at_succ

/-- the first i numbers ascend -/
def ascN (xs : List Int) (i : Nat) : Bool := (List.range (i - 1)).all fun j => decide (nth xs j < nth xs (j+1))
theorem ascN_succ {xs : List Int} {i : Nat} (h : 0 < i) : ascN xs (i+1) = (ascN xs i && decide (nth xs (i-1) < nth xs i)) := by
  obtain ⟨k, rfl⟩ : ∃ k, i = k + 1 := ⟨i - 1, by omega⟩
  unfold ascN
  simp only [Nat.add_sub_cancel]
  rw [List.range_succ, List.all_append]; simp
theorem ascN_all (xs : List Int) : ascN xs xs.length = ascB xs := by
  rw [Bool.eq_iff_iff, ascB_iff]
  unfold ascN
  simp only [List.all_eq_true, List.mem_range, decide_eq_true_eq]
  constructor
  · intro h j hj; exact h j (by omega)
  · intro h j hj; exact h j (by omega)

set_option maxHeartbeats 4000000 in
theorem rtangents_any (A : Option Addr) (c : Nat) (xs : List Int) (w : World) (h : IntsIn w.heap.size A xs w) :
    Calls Try.prog 75 #[.slice A xs.length c] w fun e w' => e = .returned (.tuple #[.bool (inB xs.length 2 12), .bool (allB xs (-5000) 5000), .bool (ascB xs)]) ∧ ∃ n, w' = w.drewN n := by
  have hm := h.1
  unfold maxLen at hm
  go_enter Try.func75, Try.ntmps75
  go_wp2_with fail
  refine (rin_any _ _ _ _).mono ?_
  rintro e w1 ⟨rfl, rfl⟩
  go_wp2_with fail
  go_loopg [3, 4, 5] xs.length (fun n r' o' i' wr => ∃ i q : Nat, i ≤ xs.length ∧ n = xs.length - i ∧ i' = .int .i64 i ∧ r' = .bool (allB (xs.take i) (-5000) 5000) ∧ o' = .bool (ascN xs i) ∧ wr = w.drewN q)
  case atStart => exact ⟨0, 0, by omega, by omega, rfl, rfl, rfl, rfl⟩
  case round =>
    obtain ⟨i, q, hi, hn0, rfl, rfl, rfl, rfl⟩ := hrel
    have HN := Lib.hid hn0
    clear hn0
    by_cases hlt : i < xs.length
    · obtain ⟨bl, o, rfl, hb, hc⟩ := h.2 (by omega)
      have hci := hc i hlt
      have HC := Lib.hid hc
      clear hc
      have hs := Lib.hid (allB_step (a := -5000) (b := 5000) hlt)
      cases hr : allB (xs.take i) (-5000) 5000
      · have R' : Hid (allB (xs.take (i+1)) (-5000) 5000 = false) := by show allB _ _ _ = false; rw [hs.out, hr]; rfl
        clear hr
        by_cases hz : i = 0
        · subst hz
          have hci0 : w.cell? ⟨bl, o, none⟩ = some (.int .i64 (nth xs 0)) := hci
          have A' : Hid (ascN xs (0+1) = true) := rfl
          have a0 : ascN xs 0 = true := rfl
          rw [a0]
          clear a0
          go_wp2_with fail
          go_quiet (fail)
          go_wp2_with fail
          go_roundg (xs.length - (0 + 1))
          case measure => have := HN.out; omega
          case rel => exact ⟨0 + 1, _, by omega, rfl, by go_num, by rw [R'.out], by rw [A'.out], rfl⟩
        · have i0 : ((i : Int) == 0) = false := by simp; omega
          have hs2 := ascN_succ (xs := xs) (i := i) (by omega)
          have hcj := HC.out (i - 1) (by omega)
          have e1 : IntKind.i64.wrap (↑i - 1) = ((i - 1 : Nat) : Int) := by rw [IntWalk.i64_in _ (by omega)]; omega
          have e2 : (0 : Int) ≤ ((i - 1 : Nat) : Int) := by omega
          have e3 : ((i - 1 : Nat) : Int).toNat = i - 1 := by omega
          cases ho : ascN xs i
          · have A' : Hid (ascN xs (i+1) = false) := by show ascN _ _ = false; rw [hs2, ho]; rfl
            clear ho hs2
            go_wp2_with fail
            go_quiet (fail)
            go_wp2_with fail
            go_roundg (xs.length - (i + 1))
            case measure => have := HN.out; omega
            case rel => exact ⟨i + 1, _, by omega, rfl, by go_num, by rw [R'.out], by rw [A'.out], rfl⟩
          · have A' : Hid (ascN xs (i+1) = decide (nth xs (i-1) < nth xs i)) := by show ascN _ _ = _; rw [hs2, ho]; rfl
            clear ho hs2
            go_wp2_with fail
            go_quiet (fail)
            go_wp2_with fail
            go_roundg (xs.length - (i + 1))
            case measure => have := HN.out; omega
            case rel => exact ⟨i + 1, _, by omega, rfl, by go_num, by rw [R'.out], by rw [A'.out], rfl⟩
      · have R' : Hid (allB (xs.take (i+1)) (-5000) 5000 = inB (nth xs i) (-5000) 5000) := by show allB _ _ _ = _; rw [hs.out, hr]; rfl
        clear hr
        by_cases hz : i = 0
        · subst hz
          have hci0 : w.cell? ⟨bl, o, none⟩ = some (.int .i64 (nth xs 0)) := hci
          have A' : Hid (ascN xs (0+1) = true) := rfl
          have a0 : ascN xs 0 = true := rfl
          rw [a0]
          clear a0
          go_wp2_with fail
          refine (rin_any _ _ _ _).mono ?_
          rintro e w1 ⟨rfl, rfl⟩
          go_wp2_with fail
          go_quiet (fail)
          go_wp2_with fail
          go_roundg (xs.length - (0 + 1))
          case measure => have := HN.out; omega
          case rel => exact ⟨0 + 1, _, by omega, rfl, by go_num, by rw [R'.out], by rw [A'.out], rfl⟩
        · have i0 : ((i : Int) == 0) = false := by simp; omega
          have hs2 := ascN_succ (xs := xs) (i := i) (by omega)
          have hcj := HC.out (i - 1) (by omega)
          have e1 : IntKind.i64.wrap (↑i - 1) = ((i - 1 : Nat) : Int) := by rw [IntWalk.i64_in _ (by omega)]; omega
          have e2 : (0 : Int) ≤ ((i - 1 : Nat) : Int) := by omega
          have e3 : ((i - 1 : Nat) : Int).toNat = i - 1 := by omega
          cases ho : ascN xs i
          · have A' : Hid (ascN xs (i+1) = false) := by show ascN _ _ = false; rw [hs2, ho]; rfl
            clear ho hs2
            go_wp2_with fail
            refine (rin_any _ _ _ _).mono ?_
            rintro e w1 ⟨rfl, rfl⟩
            go_wp2_with fail
            go_quiet (fail)
            go_wp2_with fail
            go_roundg (xs.length - (i + 1))
            case measure => have := HN.out; omega
            case rel => exact ⟨i + 1, _, by omega, rfl, by go_num, by rw [R'.out], by rw [A'.out], rfl⟩
          · have A' : Hid (ascN xs (i+1) = decide (nth xs (i-1) < nth xs i)) := by show ascN _ _ = _; rw [hs2, ho]; rfl
            clear ho hs2
            go_wp2_with fail
            refine (rin_any _ _ _ _).mono ?_
            rintro e w1 ⟨rfl, rfl⟩
            go_wp2_with fail
            go_quiet (fail)
            go_wp2_with fail
            go_roundg (xs.length - (i + 1))
            case measure => have := HN.out; omega
            case rel => exact ⟨i + 1, _, by omega, rfl, by go_num, by rw [R'.out], by rw [A'.out], rfl⟩
    · obtain rfl : i = xs.length := by omega
      have RR : Hid (allB (xs.take xs.length) (-5000) 5000 = allB xs (-5000) 5000) := by show _ = _; rw [List.take_length]
      have AA := Lib.hid (ascN_all xs)
      go_wp2_with fail
      go_ret3
      exact ⟨by rw [RR.out, AA.out]; rfl, q, rfl⟩
end Go.Proofs.Ytgmpipciinphiaa
