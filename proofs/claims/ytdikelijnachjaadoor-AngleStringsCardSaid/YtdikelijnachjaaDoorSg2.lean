/- Decimal digits, as the reference writes them. -/
import Derived.Test.YtdikelijnachjaaDoorSg1
namespace Go.Proofs.YtdikelijnachjaaDoor
set_option linter.unusedSimpArgs false
set_option linter.unusedVariables false
open Go.RowKit
attribute [local go_sem ↓] Go.wp_at_zero Go.wp_at_succ

/-- a figure -/
def dgc (n : Nat) : UInt8 := UInt8.ofNat (48 + n % 10)
/-- the last figures of a number -/
def dgf (n : Nat) : Nat → List UInt8
  | 0 => []
  | i + 1 => dgc (n / 10 ^ i) :: dgf n i
theorem dgf_len (n : Nat) : ∀ i, (dgf n i).length = i
  | 0 => rfl
  | i + 1 => by show (dgf n i).length + 1 = i + 1; rw [dgf_len n i]
theorem dgf_back (n : Nat) : ∀ i, dgf n (i + 1) = dgf (n / 10) i ++ [dgc n]
  | 0 => by
    show dgc (n / 10 ^ 0) :: [] = [] ++ [dgc n]
    rw [Nat.pow_zero, Nat.div_one]; rfl
  | i + 1 => by
    show dgc (n / 10 ^ (i + 1)) :: dgf n (i + 1) = (dgc (n / 10 / 10 ^ i) :: dgf (n / 10) i) ++ [dgc n]
    rw [dgf_back n i, Nat.div_div_eq_div_mul, Nat.pow_succ, Nat.mul_comm 10]; rfl
theorem dgc_toNat (n : Nat) : (dgc n).toNat = 48 + n % 10 := by
  unfold dgc
  rw [UInt8.toNat_ofNat']
  omega

theorem one_cell (w : World) (v : Value) (t : TypeId) : (w.alloc (.cells #[v] t)).cell? ⟨w.heap.size, 0, none⟩ = some v := by
  have := World.cell?_alloc_mark w #[v] t (0, 0) 0
  exact this
theorem one_str (c : UInt8) (l : List UInt8) : (⟨#[c]⟩ ++ ⟨l.toArray⟩ : ByteArray) = ⟨(c :: l).toArray⟩ := by
  apply ByteArray.ext
  simp

/-- how many figures are written -/
def DecOf (n d K : Nat) : Prop := d ≤ K ∧ K ≤ 6 ∧ n / 10 ^ K = 0 ∧ ∀ j, d ≤ j → j < K → n / 10 ^ j ≠ 0

set_option maxRecDepth 20000 in
set_option maxHeartbeats 1000000 in
theorem decimal_any (n d : Nat) (w : World) (hn : n < 1000000) (hd : d ≤ 6) :
    Calls Tryd.prog 77 #[.int .i64 n, .int .i64 d] w fun e w' => (∃ K, DecOf n d K ∧ e = .returned (.string ⟨(dgf n K).toArray⟩)) ∧ Below w.heap.size w w' := by
  have hcv := fun w a cap l h => run_convert_bytes_back (P := Tryd.prog) w 87 9 5 a cap l Tryd.underlying87 Tryd.underlying5 Tryd.underlying9 h
  go_enter Tryd.func77, Tryd.ntmps77
  go_wp2_with fail
  go_loopg [0, 5] 6 (fun m n' s' wr => ∃ i : Nat, i ≤ 6 ∧ Hid (m = 6 - i) ∧ n' = .int .i64 ((n / 10 ^ i : Nat) : Int) ∧ s' = .string ⟨(dgf n i).toArray⟩ ∧ Hid (∀ j, d ≤ j → j < i → n / 10 ^ j ≠ 0) ∧ Below w.heap.size w wr)
  case atStart => exact ⟨0, by omega, rfl, by rw [Nat.pow_zero, Nat.div_one], rfl, fun j _ h => absurd h (by omega), Below.refl _ _⟩
  case round =>
    obtain ⟨i, hi, HN, rfl, rfl, HJ, hbel⟩ := hrel
    have hlen := dgf_len n i
    have e0 : n / 10 ^ (i + 1) = n / 10 ^ i / 10 := by rw [Nat.pow_succ, Nat.div_div_eq_div_mul]
    have e1 : dgf n (i + 1) = dgc (n / 10 ^ i) :: dgf n i := rfl
    have hq6 : i = 6 → n / 10 ^ i = 0 := by rintro rfl; exact Nat.div_eq_of_lt hn
    have hqn : n / 10 ^ i ≤ n := Nat.div_le_self _ _
    obtain ⟨q, hq⟩ : ∃ q, n / 10 ^ i = q := ⟨_, rfl⟩
    obtain ⟨S, hS⟩ : ∃ S, dgf n i = S := ⟨_, rfl⟩
    rw [hq] at hq6 hqn e0 e1
    rw [hS] at hlen e1
    rw [hq, hS]
    have HQ := Lib.hid hq
    have HS := Lib.hid hS
    have E0 := Lib.hid e0
    have E1 := Lib.hid e1
    clear e0 e1 hq hS
    have t1 : (q : Int).tmod 10 = ((q % 10 : Nat) : Int) := rfl
    have t2 : (q : Int).tdiv 10 = ((q / 10 : Nat) : Int) := rfl
    have tc : ((dgc q).toNat : Int) = 48 + ((q % 10 : Nat) : Int) := by rw [dgc_toNat]; rfl
    have wc : IntKind.u8.wrap (48 + ((q % 10 : Nat) : Int)) = ((dgc q).toNat : Int) := by rw [tc]; exact IntWalk.u8_in _ (by omega)
    have w1 : IntKind.i64.wrap (48 + ((q % 10 : Nat) : Int)) = 48 + ((q % 10 : Nat) : Int) := IntWalk.i64_in _ (by omega)
    have w2 : IntKind.i64.wrap ((q / 10 : Nat) : Int) = ((q / 10 : Nat) : Int) := IntWalk.i64_in _ (by omega)
    have w3 : IntKind.i64.wrap ((q % 10 : Nat) : Int) = ((q % 10 : Nat) : Int) := IntWalk.i64_in _ (by omega)
    clear tc
    have w5 : wrap64 ((q : Int) / 10) = (q : Int) / 10 := IntWalk.wrap64_in ((q : Int) / 10) (by omega)
    generalize dgc q = c at *
    generalize q % 10 = r at *
    have hone := one_cell wr (.int .u8 ((c.toNat : Nat) : Int)) 5
    have hrun : Sem.run Tryd.prog (convert 87 9 (.slice (some ⟨wr.heap.size, 0, none⟩) 1 1)) (wr.alloc (.cells #[.int .u8 ((c.toNat : Nat) : Int)] 5)) = .ok (.string ⟨#[c]⟩) (wr.alloc (.cells #[.int .u8 ((c.toNat : Nat) : Int)] 5)) := by
      refine hcv (wr.alloc (.cells #[.int .u8 ((c.toNat : Nat) : Int)] 5)) ⟨wr.heap.size, 0, none⟩ 1 [c] ?_
      intro j hj
      have : j = 0 := by simpa using hj
      subst this
      exact hone
    clear hone
    have hst := one_str c S
    have hb2 : Below w.heap.size w (wr.alloc (.cells #[.int .u8 ((c.toNat : Nat) : Int)] 5)) := hbel.alloc hbel.size _
    by_cases h0 : 0 < q
    · have i0 : (0 : Int) < (q : Int) := by omega
      have hi6 : i + 1 ≤ 6 := by omega
      clear hq6 hqn hcv
      go_wp2_with fail
      go_roundg (6 - (i + 1))
      case measure => have := HN.out; omega
      case rel =>
        refine ⟨i + 1, hi6, rfl, by rw [E0.out]; first | rfl | exact congrArg (Value.int .i64) w5, by rw [E1.out], ?_, hb2⟩
        intro j hj1 hj2
        by_cases hji : j < i
        · exact HJ.out j hj1 hji
        · obtain rfl : j = i := by omega
          rw [HQ.out]; omega
    · have i0 : ¬ (0 : Int) < (q : Int) := by omega
      by_cases h1 : i < d
      · have i1 : (S.length : Int) < (d : Int) := by omega
        have hi6 : i + 1 ≤ 6 := by omega
        clear hq6 hqn hcv
        go_wp2_with fail
        go_roundg (6 - (i + 1))
        case measure => have := HN.out; omega
        case rel =>
          refine ⟨i + 1, hi6, rfl, by rw [E0.out]; first | rfl | exact congrArg (Value.int .i64) w5, by rw [E1.out], ?_, hb2⟩
          intro j hj1 hj2
          by_cases hji : j < i
          · exact HJ.out j hj1 hji
          · obtain rfl : j = i := by omega
            exact absurd hj1 (by omega)
      · have i1 : ¬ (S.length : Int) < (d : Int) := by omega
        have HD : DecOf n d i := ⟨by omega, hi, by rw [HQ.out]; omega, HJ.out⟩
        go_wp2_with fail
        go_ret
        exact ⟨⟨i, HD, by rw [HS.out]; rfl⟩, hbel⟩
end Go.Proofs.YtdikelijnachjaaDoor
