/- Digits of the reference: figures, number, most. -/
import Derived.Test.YtdikelijnachjaaDoorRd2
namespace Go.Proofs.YtdikelijnachjaaDoor
set_option linter.unusedSimpArgs false
set_option linter.unusedVariables false
open Go.RowKit
attribute [local go_sem ↓] Go.wp_at_zero Go.wp_at_succ

/-- how many digits are at the beginning -/
def figN (l : List UInt8) : Nat := (l.takeWhile digB).length
theorem figN_le (l : List UInt8) : figN l ≤ l.length := by
  unfold figN
  exact (List.takeWhile_prefix digB).length_le
theorem figN_is (l : List UInt8) : ∀ i (_ : i ≤ l.length), (l.take i).all digB = true → (∀ h : i < l.length, digB l[i] = false) → figN l = i := by
  induction l with
  | nil => intro i hi _ _; simp at hi; subst hi; rfl
  | cons c l ih =>
    intro i hi ha hb
    unfold figN
    cases i with
    | zero =>
      have hc : digB c = false := hb (by simp)
      rw [List.takeWhile_cons, hc]; rfl
    | succ i =>
      rw [List.take_succ_cons, List.all_cons, Bool.and_eq_true] at ha
      rw [List.takeWhile_cons, ha.1]
      show (l.takeWhile digB).length + 1 = i + 1
      have := ih i (by simpa using hi) ha.2 (fun h => by
        have h2 : i + 1 < (c :: l).length := by rw [List.length_cons]; omega
        have h3 := hb h2
        rw [List.getElem_cons_succ] at h3
        exact h3)
      unfold figN at this
      omega

set_option maxHeartbeats 1000000 in
theorem figures_any (l : List UInt8) (w : World) (hl : l.length ≤ 1000) :
    Calls Tryd.prog 72 #[.string ⟨l.toArray⟩] w fun e w' => e = .returned (.int .i64 (figN l)) ∧ w' = w := by
  go_enter Tryd.func72, Tryd.ntmps72
  go_wp2_with fail
  go_loopg [3] l.length (fun n i' wr => ∃ i : Nat, i ≤ l.length ∧ Hid (n = l.length - i) ∧ i' = .int .i64 i ∧ Hid ((l.take i).all digB = true) ∧ wr = w)
  case atStart => exact ⟨0, by omega, rfl, rfl, rfl, rfl⟩
  case round =>
    obtain ⟨i, hi, HN, rfl, ha, rfl⟩ := hrel
    by_cases hlt : i < l.length
    · have hli : (i : Int) < (l.length : Int) := by omega
      have hsz : i < (⟨l.toArray⟩ : ByteArray).size := by simpa [ByteArray.size] using hlt
      obtain ⟨c, hc⟩ : ∃ c, c = l[i] := ⟨_, rfl⟩
      have hg : ∀ h, (⟨l.toArray⟩ : ByteArray)[i]'h = c := fun h => by rw [hc]; rfl
      have ht : (l.take (i+1)).all digB = ((l.take i).all digB && digB c) := by
        rw [List.take_succ_eq_append_getElem hlt, List.all_append, hc]; simp
      have HC := Lib.hid hc
      clear hc
      by_cases h0 : 48 ≤ c.toNat
      · have i0 : (48 : Int) ≤ (c.toNat : Int) := by omega
        by_cases h1 : c.toNat ≤ 57
        · have i1 : (c.toNat : Int) ≤ 57 := by omega
          have ha' : Hid ((l.take (i+1)).all digB = true) := by
            show (l.take (i+1)).all digB = true
            rw [ht, ha]
            show (true && digB c) = true
            unfold digB
            rw [decide_eq_true ⟨h0, h1⟩]; rfl
          clear ht h0 h1
          go_wp2_with fail
          go_roundg (l.length - (i + 1))
          case measure => have := HN.out; omega
          case rel => exact ⟨i + 1, by omega, rfl, by go_num, ha', rfl⟩
        · have i1 : ¬ (c.toNat : Int) ≤ 57 := by omega
          have hf : figN l = i := figN_is l i hi ha (fun h => by rw [← HC.out]; unfold digB; exact decide_eq_false (fun h => h1 h.2))
          have HF := Lib.hid hf
          clear ht h0 h1 hf
          go_wp2_with fail
          go_ret
          exact ⟨by rw [HF.out]; rfl, rfl⟩
      · have i0 : ¬ (48 : Int) ≤ (c.toNat : Int) := by omega
        have hf : figN l = i := figN_is l i hi ha (fun h => by rw [← HC.out]; unfold digB; exact decide_eq_false (fun h => h0 h.1))
        have HF := Lib.hid hf
        clear ht h0 hf
        go_wp2_with fail
        go_ret
        exact ⟨by rw [HF.out]; rfl, rfl⟩
    · obtain rfl : i = l.length := by omega
      have hf : figN l = l.length := figN_is l _ hi ha (fun h => absurd h (by omega))
      have HF := Lib.hid hf
      clear hf
      go_wp2_with fail
      go_ret
      exact ⟨by rw [HF.out]; rfl, rfl⟩

set_option maxHeartbeats 1000000 in
theorem number_any (l : List UInt8) (w : World) (hl : l.length ≤ 9) (hd : l.all digB = true) :
    Calls Tryd.prog 73 #[.string ⟨l.toArray⟩] w fun e w' => e = .returned (.int .i64 (numV 0 l)) ∧ w' = w := by
  have DA := Lib.hid hd
  clear hd
  go_enter Tryd.func73, Tryd.ntmps73
  go_wp2_with fail
  go_loopg [3, 4] l.length (fun n v' i' wr => ∃ i : Nat, i ≤ l.length ∧ Hid (n = l.length - i) ∧ v' = .int .i64 (numV 0 (l.take i)) ∧ i' = .int .i64 i ∧ wr = w)
  case atStart => exact ⟨0, by omega, rfl, rfl, rfl, rfl⟩
  case round =>
    obtain ⟨i, hi, HN, rfl, rfl, rfl⟩ := hrel
    by_cases hlt : i < l.length
    · have hli : (i : Int) < (l.length : Int) := by omega
      have hsz : i < (⟨l.toArray⟩ : ByteArray).size := by simpa [ByteArray.size] using hlt
      obtain ⟨c, hc⟩ : ∃ c, c = l[i] := ⟨_, rfl⟩
      have hg : ∀ h, (⟨l.toArray⟩ : ByteArray)[i]'h = c := fun h => by rw [hc]; rfl
      have dg : digB c = true := by rw [hc]; exact List.all_eq_true.1 DA.out l[i] (List.getElem_mem hlt)
      have cb := digB_bd dg
      have tk : (l.take i).all digB = true := List.all_eq_true.2 (fun c hm => List.all_eq_true.1 DA.out c (List.mem_of_mem_take hm))
      obtain ⟨v0, v1⟩ := numV_bd (l.take i) 0 (by omega) tk
      have vb : numV 0 (l.take i) < 1000000000 := by
        have h2 : (l.take i).length ≤ 9 := by rw [List.length_take]; omega
        have h3 := ten_pow _ (show (l.take i).length < 10 by omega)
        omega
      have e1 : numV 0 (l.take (i+1)) = 10 * numV 0 (l.take i) + ((c.toNat : Int) - 48) := by
        rw [List.take_succ_eq_append_getElem hlt, numV_append, hc]; rfl
      have HE := Lib.hid e1
      clear e1 tk v1 dg hc
      generalize numV 0 (l.take i) = v at *
      have w1 : IntKind.i64.wrap (10 * v) = 10 * v := IntWalk.i64_in _ (by omega)
      have w2 : IntKind.u8.wrap ((c.toNat : Int) - 48) = (c.toNat : Int) - 48 := IntWalk.u8_in _ (by omega)
      have w3 : IntKind.i64.wrap ((c.toNat : Int) - 48) = (c.toNat : Int) - 48 := IntWalk.i64_in _ (by omega)
      have w4 : IntKind.i64.wrap (10 * v + ((c.toNat : Int) - 48)) = 10 * v + ((c.toNat : Int) - 48) := IntWalk.i64_in _ (by omega)
      go_wp2_with fail
      go_roundg (l.length - (i + 1))
      case measure => have := HN.out; omega
      case rel => exact ⟨i + 1, by omega, rfl, by rw [HE.out], by go_num, rfl⟩
    · obtain rfl : i = l.length := by omega
      rw [List.take_length]
      go_wp2_with fail
      go_ret
      exact ⟨rfl, rfl⟩

theorem most_any (axis : Int) (w : World) :
    Calls Tryd.prog 74 #[.int .i64 axis] w fun e w' => e = .returned (.int .i64 (far axis)) ∧ w' = w := by
  unfold far
  by_cases h : axis = 0
  · subst h
    rw [if_pos rfl]
    go_enter Tryd.func74, Tryd.ntmps74
    go_wp2_with fail
    go_ret
    exact ⟨rfl, rfl⟩
  · have e0 : (axis == 0) = false := beq_no h
    rw [if_neg h]
    go_enter Tryd.func74, Tryd.ntmps74
    go_wp2_with fail
    go_ret
    exact ⟨rfl, rfl⟩
end Go.Proofs.YtdikelijnachjaaDoor
