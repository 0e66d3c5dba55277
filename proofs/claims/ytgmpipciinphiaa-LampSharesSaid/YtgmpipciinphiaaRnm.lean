/- Names, as the reference has them. -/
import Derived.Test.YtgmpipciinphiaaSml
namespace Go.Proofs.Ytgmpipciinphiaa
set_option linter.unusedSimpArgs false
set_option linter.unusedVariables false
open Go.RowKit
attribute [local go_sem ↓] Go.wp_at_zero Go.wp_at_succ

def nmC (c : UInt8) : Bool := letB c || (digB c || decide (c.toNat = 45))
theorem nmB_is {f : Bool} {c : UInt8} (h : f = true → letB c = true) : nmB f c = nmC c := by
  unfold nmB nmC
  cases f
  · rfl
  · rw [h rfl]; rfl
theorem nmC_1 {c : UInt8} (h0 : 97 ≤ c.toNat) (h1 : c.toNat ≤ 122) : nmC c = true := by unfold nmC letB; rw [decide_eq_true ⟨h0, h1⟩]; rfl
theorem nmC_2 {c : UInt8} (h0 : 48 ≤ c.toNat) (h1 : c.toNat ≤ 57) : nmC c = true := by unfold nmC digB; rw [decide_eq_true ⟨h0, h1⟩]; simp
theorem nmC_3 {c : UInt8} (h0 : c.toNat = 45) : nmC c = true := by unfold nmC; rw [decide_eq_true h0]; simp
theorem nmC_0 {c : UInt8} (h0 : ¬ (97 ≤ c.toNat ∧ c.toNat ≤ 122)) (h1 : ¬ (48 ≤ c.toNat ∧ c.toNat ≤ 57)) (h2 : ¬ c.toNat = 45) : nmC c = false := by
  unfold nmC letB digB; rw [decide_eq_false h0, decide_eq_false h1, decide_eq_false h2]; rfl
theorem nameB_short {s : ByteArray} (h : s.size < 1 ∨ 24 < s.size) : nameB s = false := by
  unfold nameB
  rcases h with h | h
  · rw [decide_eq_false (p := 1 ≤ (s.size : Int)) (by omega)]; simp
  · rw [decide_eq_false (p := (s.size : Int) ≤ 24) (by omega)]; simp
theorem nameB_all {s : ByteArray} (h0 : 1 ≤ s.size) (h1 : s.size ≤ 24) : nameB s = nmAll s s.size := by
  unfold nameB
  rw [decide_eq_true (p := 1 ≤ (s.size : Int)) (by omega), decide_eq_true (p := (s.size : Int) ≤ 24) (by omega)]; simp

set_option maxHeartbeats 2000000 in
theorem rname_any (s : ByteArray) (w : World) (hs : s.size ≤ maxLen) :
    Calls Try.prog 19 #[.string s] w fun e w' => e = .returned (.bool (nameB s)) ∧ w = w' := by
  unfold maxLen at hs
  by_cases h0 : s.size < 1
  · have HF := Lib.hid (nameB_short (.inl h0))
    go_enter Try.func19, Try.ntmps19
    go_wp2_with fail
    go_ret
    exact ⟨by rw [HF.out]; rfl, rfl⟩
  · by_cases h1 : 24 < s.size
    · have HF := Lib.hid (nameB_short (.inr h1))
      go_enter Try.func19, Try.ntmps19
      go_wp2_with fail
      go_ret
      exact ⟨by rw [HF.out]; rfl, rfl⟩
    · have HA := Lib.hid (nameB_all (s := s) (by omega) (by omega))
      have hp : 0 < s.size := by omega
      have g0 := get_of hp
      have a1 := nmAll_succ s 0
      rw [g0] at a1
      have hbad : letB s[0] = false → Hid (nameB s = false) := fun hl => by
        show nameB s = false
        rw [HA.out]
        refine nmAll_le (n := 0 + 1) ?_ (by omega)
        rw [a1]; unfold nmB; rw [hl]; simp
      have HB := Lib.hid hbad
      clear hbad a1 g0
      by_cases c0 : s[0].toNat < 97
      · have HF : Hid (nameB s = false) := HB.out (by unfold letB; rw [decide_eq_false]; omega)
        go_enter Try.func19, Try.ntmps19
        go_wp2_with fail
        go_ret
        exact ⟨by rw [HF.out]; rfl, rfl⟩
      · by_cases c1 : 122 < s[0].toNat
        · have HF : Hid (nameB s = false) := HB.out (by unfold letB; rw [decide_eq_false]; omega)
          go_enter Try.func19, Try.ntmps19
          go_wp2_with fail
          go_ret
          exact ⟨by rw [HF.out]; rfl, rfl⟩
        · have HL : Hid (letB s[0] = true) := by show letB s[0] = true; unfold letB; rw [decide_eq_true]; omega
          go_enter Try.func19, Try.ntmps19
          go_wp2_with fail
          go_loopg [3] s.size (fun n i' wr => ∃ i : Nat, i ≤ s.size ∧ n = s.size - i ∧ i' = .int .i64 i ∧ Hid (nmAll s i = true) ∧ w = wr)
          case atStart => exact ⟨0, by omega, by omega, rfl, rfl, rfl⟩
          case round =>
            obtain ⟨i, hi, hn0, rfl, ha, rfl⟩ := hrel
            have HN := Lib.hid hn0
            clear hn0
            by_cases hlt : i < s.size
            · have hs1 := nmAll_succ s i
              rw [get_of hlt, nmB_is (c := s[i]) (fun h => by have h' : i = 0 := (by simpa using h); subst h'; exact HL.out), ha] at hs1
              have HO : nmC s[i] = true → Hid (nmAll s (i+1) = true) := fun h => by show nmAll s (i+1) = true; rw [hs1, h]; rfl
              have HF : nmC s[i] = false → Hid (nameB s = false) := fun h => by
                show nameB s = false
                rw [HA.out]
                exact nmAll_le (n := i + 1) (by rw [hs1, h]; rfl) (by omega)
              have HO := Lib.hid HO
              have HF := Lib.hid HF
              clear hs1
              by_cases k1 : 97 ≤ s[i].toNat
              · by_cases k2 : s[i].toNat ≤ 122
                · have ha' := HO.out (nmC_1 k1 k2)
                  clear HO HF ha
                  go_wp2_with fail
                  go_roundg (s.size - (i + 1))
                  case measure => have := HN.out; omega
                  case rel => exact ⟨i + 1, by omega, rfl, by go_num, ha', rfl⟩
                · have HF' := HF.out (nmC_0 (by omega) (by omega) (by omega))
                  have c45 : ((s[i].toNat : Int) == 45) = false := by simp; omega
                  first | have d1 : decide ((s[i].toNat : Int) ≤ 122) = false := (decide_eq_false (by omega)) | skip
                  first | have d2 : decide ((s[i].toNat : Int) ≤ 57) = false := (decide_eq_false (by omega)) | skip
                  first | have d3 : decide ((97:Int) ≤ (s[i].toNat : Int)) = false := (decide_eq_false (by omega)) | skip
                  first | have d4 : decide ((48:Int) ≤ (s[i].toNat : Int)) = false := (decide_eq_false (by omega)) | skip
                  clear HO HF ha
                  go_wp2_with fail
                  go_ret
                  exact ⟨by rw [HF'.out]; rfl, rfl⟩
              · by_cases k2 : 48 ≤ s[i].toNat
                · by_cases k3 : s[i].toNat ≤ 57
                  · have ha' := HO.out (nmC_2 k2 k3)
                    clear HO HF ha
                    go_wp2_with fail
                    go_roundg (s.size - (i + 1))
                    case measure => have := HN.out; omega
                    case rel => exact ⟨i + 1, by omega, rfl, by go_num, ha', rfl⟩
                  · have HF' := HF.out (nmC_0 (by omega) (by omega) (by omega))
                    have c45 : ((s[i].toNat : Int) == 45) = false := by simp; omega
                    first | have d1 : decide ((s[i].toNat : Int) ≤ 122) = false := (decide_eq_false (by omega)) | skip
                    first | have d2 : decide ((s[i].toNat : Int) ≤ 57) = false := (decide_eq_false (by omega)) | skip
                    first | have d3 : decide ((97:Int) ≤ (s[i].toNat : Int)) = false := (decide_eq_false (by omega)) | skip
                    first | have d4 : decide ((48:Int) ≤ (s[i].toNat : Int)) = false := (decide_eq_false (by omega)) | skip
                    clear HO HF ha
                    go_wp2_with fail
                    go_ret
                    exact ⟨by rw [HF'.out]; rfl, rfl⟩
                · by_cases k3 : s[i].toNat = 45
                  · have ha' := HO.out (nmC_3 k3)
                    clear HO HF ha
                    have c45 : ((s[i].toNat : Int) == 45) = true := by simp; omega
                    go_wp2_with fail
                    go_roundg (s.size - (i + 1))
                    case measure => have := HN.out; omega
                    case rel => exact ⟨i + 1, by omega, rfl, by go_num, ha', rfl⟩
                  · have HF' := HF.out (nmC_0 (by omega) (by omega) (by omega))
                    clear HO HF ha
                    have c45 : ((s[i].toNat : Int) == 45) = false := by simp; omega
                    go_wp2_with fail
                    go_ret
                    exact ⟨by rw [HF'.out]; rfl, rfl⟩
            · obtain rfl : i = s.size := by omega
              have HF : Hid (nameB s = true) := by show nameB s = true; rw [HA.out]; exact ha
              go_wp2_with fail
              go_ret
              exact ⟨by rw [HF.out]; rfl, rfl⟩
end Go.Proofs.Ytgmpipciinphiaa
