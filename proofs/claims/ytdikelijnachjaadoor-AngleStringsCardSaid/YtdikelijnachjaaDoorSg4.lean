/- Write of the reference. -/
import Derived.Test.YtdikelijnachjaaDoorSg3
namespace Go.Proofs.YtdikelijnachjaaDoor
set_option linter.unusedSimpArgs false
set_option linter.unusedVariables false
open Go.RowKit
attribute [local go_sem ↓] Go.wp_at_zero Go.wp_at_succ

theorem most0 (w : World) : Calls Tryd.prog 74 #[.int .i64 0] w fun e w' => e = .returned (.int .i64 90000000) ∧ w' = w := most_any 0 w
theorem most1 (w : World) : Calls Tryd.prog 74 #[.int .i64 1] w fun e w' => e = .returned (.int .i64 180000000) ∧ w' = w := most_any 1 w
theorem dec1 (n : Nat) (w : World) (hn : n < 1000000) : Calls Tryd.prog 77 #[.int .i64 n, .int .i64 1] w fun e w' => (∃ K, DecOf n 1 K ∧ e = .returned (.string ⟨(dgf n K).toArray⟩)) ∧ Below w.heap.size w w' := decimal_any n 1 w hn (by omega)
theorem dec6 (n : Nat) (w : World) (hn : n < 1000000) : Calls Tryd.prog 77 #[.int .i64 n, .int .i64 6] w fun e w' => e = .returned (.string ⟨(dgf n 6).toArray⟩) ∧ Below w.heap.size w w' := by
  refine (decimal_any n 6 w hn (by omega)).mono ?_
  rintro e w' ⟨⟨K, hK, rfl⟩, hb⟩
  obtain rfl : K = 6 := by have := hK.1; have := hK.2.1; omega
  exact ⟨rfl, hb⟩

set_option maxHeartbeats 400000 in
theorem rwrite_arg (a axis : Int) (w : World) (h0 : axis ≠ 0) (h1 : axis ≠ 1) :
    Calls Tryd.prog 41 #[.int .i64 a, .int .i64 axis] w fun e w' => e = .returned (strE [] 2) ∧ w' = w := by
  have e0 : (axis == 0) = false := beq_no h0
  have e1 : (axis == 1) = false := beq_no h1
  have n0 : (axis != 0) = true := by simp [h0]
  have n1 : (axis != 1) = true := by simp [h1]
  go_enter Tryd.func41, Tryd.ntmps41
  go_wp2
  go_ret2
  exact ⟨rfl, rfl⟩

set_option maxHeartbeats 1000000 in
theorem rwrite_range0 (a : Int) (w : World) (h : a < -90000000 ∨ 90000000 < a) :
    Calls Tryd.prog 41 #[.int .i64 a, .int .i64 0] w fun e w' => e = .returned (strE [] 7) ∧ w' = w := by
  by_cases c : a < -90000000
  · go_enter Tryd.func41, Tryd.ntmps41
    go_wp2_with fail
    refine (most0 _).mono ?_
    rintro e w1 ⟨rfl, rfl⟩
    go_wp2_with fail
    go_ret2
    exact ⟨rfl, rfl⟩
  · have c2 : 90000000 < a := by omega
    go_enter Tryd.func41, Tryd.ntmps41
    go_wp2_with fail
    refine (most0 _).mono ?_
    rintro e w1 ⟨rfl, rfl⟩
    go_wp2_with fail
    refine (most0 _).mono ?_
    rintro e w1 ⟨rfl, rfl⟩
    go_wp2_with fail
    go_ret2
    exact ⟨rfl, rfl⟩
set_option maxHeartbeats 1000000 in
theorem rwrite_range1 (a : Int) (w : World) (h : a < -180000000 ∨ 180000000 < a) :
    Calls Tryd.prog 41 #[.int .i64 a, .int .i64 1] w fun e w' => e = .returned (strE [] 7) ∧ w' = w := by
  by_cases c : a < -180000000
  · go_enter Tryd.func41, Tryd.ntmps41
    go_wp2_with fail
    refine (most1 _).mono ?_
    rintro e w1 ⟨rfl, rfl⟩
    go_wp2_with fail
    go_ret2
    exact ⟨rfl, rfl⟩
  · have c2 : 180000000 < a := by omega
    go_enter Tryd.func41, Tryd.ntmps41
    go_wp2_with fail
    refine (most1 _).mono ?_
    rintro e w1 ⟨rfl, rfl⟩
    go_wp2_with fail
    refine (most1 _).mono ?_
    rintro e w1 ⟨rfl, rfl⟩
    go_wp2_with fail
    go_ret2
    exact ⟨rfl, rfl⟩

theorem decW (n : Nat) (w : World) (hn : n ≤ 180000000) : Calls Tryd.prog 77 #[.int .i64 ((n : Int) / 1000000), .int .i64 1] w fun e w' => (∃ K, DecOf (n / 1000000) 1 K ∧ e = .returned (.string ⟨(dgf (n / 1000000) K).toArray⟩)) ∧ Below w.heap.size w w' := dec1 (n / 1000000) w (by omega)
theorem decR (n : Nat) (w : World) : Calls Tryd.prog 77 #[.int .i64 ((n : Int) % 1000000), .int .i64 6] w fun e w' => e = .returned (.string ⟨(dgf (n % 1000000) 6).toArray⟩) ∧ Below w.heap.size w w' := dec6 (n % 1000000) w (by omega)
theorem str_three (A B : List UInt8) (c : UInt8) : (⟨A.toArray⟩ ++ ⟨#[46]⟩ ++ ⟨B.toArray⟩ ++ ⟨#[c]⟩ : ByteArray) = ⟨(A ++ [46] ++ B ++ [c]).toArray⟩ := by
  apply ByteArray.ext
  simp

set_option maxRecDepth 20000 in
set_option maxHeartbeats 2000000 in
theorem rwrite_0p (n : Nat) (w : World) (hn : n ≤ 90000000) :
    Calls Tryd.prog 41 #[.int .i64 (n : Int), .int .i64 0] w fun e w' => e = .returned (strE (wsz n ++ [78]) 0) ∧ Below w.heap.size w w' := by
  have c1 : ¬ (n : Int) < -90000000 := by omega
  have c2 : ¬ 90000000 < (n : Int) := by omega
  have c3 : ¬ (n : Int) < 0 := by omega
  go_enter Tryd.func41, Tryd.ntmps41
  go_wp2_with fail
  refine (most0 _).mono ?_
  rintro e w1 ⟨rfl, rfl⟩
  go_wp2_with fail
  refine (most0 _).mono ?_
  rintro e w1 ⟨rfl, rfl⟩
  go_wp2_with fail
  refine (decW n _ (by omega)).mono ?_
  rintro e w2 ⟨⟨K, hK, rfl⟩, hb2⟩
  have HW := Lib.hid (rsz_is hK)
  have HK := Lib.hid hK
  clear hK
  go_wp2_with fail
  refine (decR n _).mono ?_
  rintro e w3 ⟨rfl, hb3⟩
  go_wp2_with fail
  have hbel : Below w1.heap.size w1 w3 := (((Below.refl _ w1).alloc (Nat.le_refl _) _).trans (hb2.mono (by simp))).trans (hb3.mono (Nat.le_trans (by simp) hb2.size))
  have HT := Lib.hid (trim_zero (n % 1000000) (by omega))
  have L0 := dgf_len (n % 1000000) 6
  have LA : (dgf (n / 1000000) K).length ≤ 6 := by rw [dgf_len]; exact HK.out.2.1
  unfold rsz at HW
  generalize dgf (n % 1000000) 6 = R0 at *
  generalize dgf (n / 1000000) K = A at *
  clear hb2 hb3 c1 c2 c3
  go_loopg [9] 6 (fun m r' wr => ∃ R : List UInt8, R.length ≤ 6 ∧ Hid (m = R.length) ∧ r' = .string ⟨R.toArray⟩ ∧ Hid (Lib.trimRightB R 48 = Lib.trimRightB R0 48) ∧ wr = w3)
  case atStart => exact ⟨R0, by omega, L0.symm, rfl, rfl, rfl⟩
  case round =>
    obtain ⟨R, hR, HM, rfl, HE, rfl⟩ := hrel
    clear L0
    rcases R.eq_nil_or_concat with hR0 | ⟨B, c, hR0⟩
    · subst hR0
      have hz : n % 1000000 = 0 := HT.out.1 HE.out.symm
      have hs : wsz n = A := by rw [← HW.out, if_pos hz]
      have HS := Lib.hid hs
      clear hz hs
      go_wp2_with fail
      go_ret2
      refine ⟨?_, hbel⟩
      rw [HS.out]
      show Ending.returned (Value.tuple #[Value.string _, _]) = _
      rw [str_snoc]; rfl
    · rw [List.concat_eq_append] at hR0
      subst hR0
      have hBl : B.length ≤ 5 := by rw [List.length_append] at hR; simp at hR; omega
      have hlen : (⟨(B ++ [c]).toArray⟩ : ByteArray).size = B.length + 1 := by simp [ByteArray.size]
      have hcc : ∀ h, ((⟨(B ++ [c]).toArray⟩ : ByteArray)[B.length]'h) = c := by
        intro h
        show (B ++ [c]).toArray[B.length]'_ = c
        simp
      have hie : (B ++ [c]).isEmpty = false := by simp
      have hx2 : ByteArray.extract ⟨(B ++ [c]).toArray⟩ 0 B.length = ⟨B.toArray⟩ := by
        apply ByteArray.ext
        simp [ByteArray.data_extract]
      have hw1 : IntKind.i64.wrap ((B.length : Int) + 1 - 1) = (B.length : Int) := by rw [show (B.length : Int) + 1 - 1 = B.length by omega]; exact IntWalk.i64_in _ (by omega)
      have hw2 : IntKind.i64.wrap (B.length : Int) = (B.length : Int) := IntWalk.i64_in _ (by omega)
      have hw3 : wrap64 (B.length : Int) = (B.length : Int) := IntWalk.wrap64_in _ (by omega)
      by_cases hc : c = 48
      · subst hc
        go_wp2_with fail
        go_roundg B.length
        case measure => have := HM.out; rw [List.length_append] at this; simp at this; omega
        case rel =>
          refine ⟨B, by omega, rfl, rfl, ?_, rfl⟩
          have h1 := HE.out
          rw [trim_snoc_zero] at h1
          exact h1
      · have hn48 : ¬ ((c.toNat : Int) = 48) := by
          intro e
          apply hc
          apply UInt8.toNat_inj.1
          have : (48 : UInt8).toNat = 48 := rfl
          omega
        have hn49 : ((c.toNat : Int) == 48) = false := beq_no hn48
        have hz : n % 1000000 ≠ 0 := by
          intro e
          have h1 := HT.out.2 e
          rw [← HE.out, trim_snoc_other B c hc] at h1
          simp at h1
        have hs : wsz n = A ++ [46] ++ (B ++ [c]) := by rw [← HW.out, if_neg hz, ← HE.out, trim_snoc_other B c hc]
        have HS := Lib.hid hs
        clear hz hs hc
        go_wp2_with fail
        go_ret2
        refine ⟨?_, hbel⟩
        rw [HS.out]
        show Ending.returned (Value.tuple #[Value.string _, _]) = _
        rw [str_three]
        rfl

set_option maxRecDepth 20000 in
set_option maxHeartbeats 2000000 in
theorem rwrite_0n (n : Nat) (w : World) (hn : n ≤ 90000000) (hp : 0 < n) :
    Calls Tryd.prog 41 #[.int .i64 (-(n : Int)), .int .i64 0] w fun e w' => e = .returned (strE (wsz n ++ [83]) 0) ∧ Below w.heap.size w w' := by
  obtain ⟨x, hx⟩ : ∃ x : Int, x = -(n : Int) := ⟨_, rfl⟩
  rw [← hx]
  have c1 : ¬ x < -90000000 := by omega
  have c2 : ¬ 90000000 < x := by omega
  have c3 : x < 0 := by omega
  have c4 : IntKind.i64.wrap (-x) = (n : Int) := by rw [hx, Int.neg_neg]; exact IntWalk.i64_in _ (by omega)
  have c5 : wrap64 (-x) = (n : Int) := by rw [hx, Int.neg_neg]; exact IntWalk.wrap64_in _ (by omega)
  have c6 : -x = (n : Int) := by omega
  clear hx hp
  go_enter Tryd.func41, Tryd.ntmps41
  go_wp2_with fail
  refine (most0 _).mono ?_
  rintro e w1 ⟨rfl, rfl⟩
  go_wp2_with fail
  refine (most0 _).mono ?_
  rintro e w1 ⟨rfl, rfl⟩
  go_wp2_with fail
  refine (decW n _ (by omega)).mono ?_
  rintro e w2 ⟨⟨K, hK, rfl⟩, hb2⟩
  have HW := Lib.hid (rsz_is hK)
  have HK := Lib.hid hK
  clear hK
  go_wp2_with fail
  refine (decR n _).mono ?_
  rintro e w3 ⟨rfl, hb3⟩
  go_wp2_with fail
  have hbel : Below w1.heap.size w1 w3 := (((Below.refl _ w1).alloc (Nat.le_refl _) _).trans (hb2.mono (by simp))).trans (hb3.mono (Nat.le_trans (by simp) hb2.size))
  have HT := Lib.hid (trim_zero (n % 1000000) (by omega))
  have L0 := dgf_len (n % 1000000) 6
  have LA : (dgf (n / 1000000) K).length ≤ 6 := by rw [dgf_len]; exact HK.out.2.1
  unfold rsz at HW
  generalize dgf (n % 1000000) 6 = R0 at *
  generalize dgf (n / 1000000) K = A at *
  clear hb2 hb3 c1 c2 c3 c4 c5 c6
  go_loopg [9] 6 (fun m r' wr => ∃ R : List UInt8, R.length ≤ 6 ∧ Hid (m = R.length) ∧ r' = .string ⟨R.toArray⟩ ∧ Hid (Lib.trimRightB R 48 = Lib.trimRightB R0 48) ∧ wr = w3)
  case atStart => exact ⟨R0, by omega, L0.symm, rfl, rfl, rfl⟩
  case round =>
    obtain ⟨R, hR, HM, rfl, HE, rfl⟩ := hrel
    clear L0
    rcases R.eq_nil_or_concat with hR0 | ⟨B, c, hR0⟩
    · subst hR0
      have hz : n % 1000000 = 0 := HT.out.1 HE.out.symm
      have hs : wsz n = A := by rw [← HW.out, if_pos hz]
      have HS := Lib.hid hs
      clear hz hs
      go_wp2_with fail
      go_ret2
      refine ⟨?_, hbel⟩
      rw [HS.out]
      show Ending.returned (Value.tuple #[Value.string _, _]) = _
      rw [str_snoc]; rfl
    · rw [List.concat_eq_append] at hR0
      subst hR0
      have hBl : B.length ≤ 5 := by rw [List.length_append] at hR; simp at hR; omega
      have hlen : (⟨(B ++ [c]).toArray⟩ : ByteArray).size = B.length + 1 := by simp [ByteArray.size]
      have hcc : ∀ h, ((⟨(B ++ [c]).toArray⟩ : ByteArray)[B.length]'h) = c := by
        intro h
        show (B ++ [c]).toArray[B.length]'_ = c
        simp
      have hie : (B ++ [c]).isEmpty = false := by simp
      have hx2 : ByteArray.extract ⟨(B ++ [c]).toArray⟩ 0 B.length = ⟨B.toArray⟩ := by
        apply ByteArray.ext
        simp [ByteArray.data_extract]
      have hw1 : IntKind.i64.wrap ((B.length : Int) + 1 - 1) = (B.length : Int) := by rw [show (B.length : Int) + 1 - 1 = B.length by omega]; exact IntWalk.i64_in _ (by omega)
      have hw2 : IntKind.i64.wrap (B.length : Int) = (B.length : Int) := IntWalk.i64_in _ (by omega)
      have hw3 : wrap64 (B.length : Int) = (B.length : Int) := IntWalk.wrap64_in _ (by omega)
      by_cases hc : c = 48
      · subst hc
        go_wp2_with fail
        go_roundg B.length
        case measure => have := HM.out; rw [List.length_append] at this; simp at this; omega
        case rel =>
          refine ⟨B, by omega, rfl, rfl, ?_, rfl⟩
          have h1 := HE.out
          rw [trim_snoc_zero] at h1
          exact h1
      · have hn48 : ¬ ((c.toNat : Int) = 48) := by
          intro e
          apply hc
          apply UInt8.toNat_inj.1
          have : (48 : UInt8).toNat = 48 := rfl
          omega
        have hn49 : ((c.toNat : Int) == 48) = false := beq_no hn48
        have hz : n % 1000000 ≠ 0 := by
          intro e
          have h1 := HT.out.2 e
          rw [← HE.out, trim_snoc_other B c hc] at h1
          simp at h1
        have hs : wsz n = A ++ [46] ++ (B ++ [c]) := by rw [← HW.out, if_neg hz, ← HE.out, trim_snoc_other B c hc]
        have HS := Lib.hid hs
        clear hz hs hc
        go_wp2_with fail
        go_ret2
        refine ⟨?_, hbel⟩
        rw [HS.out]
        show Ending.returned (Value.tuple #[Value.string _, _]) = _
        rw [str_three]
        rfl

set_option maxRecDepth 20000 in
set_option maxHeartbeats 2000000 in
theorem rwrite_1p (n : Nat) (w : World) (hn : n ≤ 180000000) :
    Calls Tryd.prog 41 #[.int .i64 (n : Int), .int .i64 1] w fun e w' => e = .returned (strE (wsz n ++ [69]) 0) ∧ Below w.heap.size w w' := by
  have c1 : ¬ (n : Int) < -180000000 := by omega
  have c2 : ¬ 180000000 < (n : Int) := by omega
  have c3 : ¬ (n : Int) < 0 := by omega
  go_enter Tryd.func41, Tryd.ntmps41
  go_wp2_with fail
  refine (most1 _).mono ?_
  rintro e w1 ⟨rfl, rfl⟩
  go_wp2_with fail
  refine (most1 _).mono ?_
  rintro e w1 ⟨rfl, rfl⟩
  go_wp2_with fail
  refine (decW n _ (by omega)).mono ?_
  rintro e w2 ⟨⟨K, hK, rfl⟩, hb2⟩
  have HW := Lib.hid (rsz_is hK)
  have HK := Lib.hid hK
  clear hK
  go_wp2_with fail
  refine (decR n _).mono ?_
  rintro e w3 ⟨rfl, hb3⟩
  go_wp2_with fail
  have hbel : Below w1.heap.size w1 w3 := (((Below.refl _ w1).alloc (Nat.le_refl _) _).trans (hb2.mono (by simp))).trans (hb3.mono (Nat.le_trans (by simp) hb2.size))
  have HT := Lib.hid (trim_zero (n % 1000000) (by omega))
  have L0 := dgf_len (n % 1000000) 6
  have LA : (dgf (n / 1000000) K).length ≤ 6 := by rw [dgf_len]; exact HK.out.2.1
  unfold rsz at HW
  generalize dgf (n % 1000000) 6 = R0 at *
  generalize dgf (n / 1000000) K = A at *
  clear hb2 hb3 c1 c2 c3
  go_loopg [9] 6 (fun m r' wr => ∃ R : List UInt8, R.length ≤ 6 ∧ Hid (m = R.length) ∧ r' = .string ⟨R.toArray⟩ ∧ Hid (Lib.trimRightB R 48 = Lib.trimRightB R0 48) ∧ wr = w3)
  case atStart => exact ⟨R0, by omega, L0.symm, rfl, rfl, rfl⟩
  case round =>
    obtain ⟨R, hR, HM, rfl, HE, rfl⟩ := hrel
    clear L0
    rcases R.eq_nil_or_concat with hR0 | ⟨B, c, hR0⟩
    · subst hR0
      have hz : n % 1000000 = 0 := HT.out.1 HE.out.symm
      have hs : wsz n = A := by rw [← HW.out, if_pos hz]
      have HS := Lib.hid hs
      clear hz hs
      go_wp2_with fail
      go_ret2
      refine ⟨?_, hbel⟩
      rw [HS.out]
      show Ending.returned (Value.tuple #[Value.string _, _]) = _
      rw [str_snoc]; rfl
    · rw [List.concat_eq_append] at hR0
      subst hR0
      have hBl : B.length ≤ 5 := by rw [List.length_append] at hR; simp at hR; omega
      have hlen : (⟨(B ++ [c]).toArray⟩ : ByteArray).size = B.length + 1 := by simp [ByteArray.size]
      have hcc : ∀ h, ((⟨(B ++ [c]).toArray⟩ : ByteArray)[B.length]'h) = c := by
        intro h
        show (B ++ [c]).toArray[B.length]'_ = c
        simp
      have hie : (B ++ [c]).isEmpty = false := by simp
      have hx2 : ByteArray.extract ⟨(B ++ [c]).toArray⟩ 0 B.length = ⟨B.toArray⟩ := by
        apply ByteArray.ext
        simp [ByteArray.data_extract]
      have hw1 : IntKind.i64.wrap ((B.length : Int) + 1 - 1) = (B.length : Int) := by rw [show (B.length : Int) + 1 - 1 = B.length by omega]; exact IntWalk.i64_in _ (by omega)
      have hw2 : IntKind.i64.wrap (B.length : Int) = (B.length : Int) := IntWalk.i64_in _ (by omega)
      have hw3 : wrap64 (B.length : Int) = (B.length : Int) := IntWalk.wrap64_in _ (by omega)
      by_cases hc : c = 48
      · subst hc
        go_wp2_with fail
        go_roundg B.length
        case measure => have := HM.out; rw [List.length_append] at this; simp at this; omega
        case rel =>
          refine ⟨B, by omega, rfl, rfl, ?_, rfl⟩
          have h1 := HE.out
          rw [trim_snoc_zero] at h1
          exact h1
      · have hn48 : ¬ ((c.toNat : Int) = 48) := by
          intro e
          apply hc
          apply UInt8.toNat_inj.1
          have : (48 : UInt8).toNat = 48 := rfl
          omega
        have hn49 : ((c.toNat : Int) == 48) = false := beq_no hn48
        have hz : n % 1000000 ≠ 0 := by
          intro e
          have h1 := HT.out.2 e
          rw [← HE.out, trim_snoc_other B c hc] at h1
          simp at h1
        have hs : wsz n = A ++ [46] ++ (B ++ [c]) := by rw [← HW.out, if_neg hz, ← HE.out, trim_snoc_other B c hc]
        have HS := Lib.hid hs
        clear hz hs hc
        go_wp2_with fail
        go_ret2
        refine ⟨?_, hbel⟩
        rw [HS.out]
        show Ending.returned (Value.tuple #[Value.string _, _]) = _
        rw [str_three]
        rfl

set_option maxRecDepth 20000 in
set_option maxHeartbeats 2000000 in
theorem rwrite_1n (n : Nat) (w : World) (hn : n ≤ 180000000) (hp : 0 < n) :
    Calls Tryd.prog 41 #[.int .i64 (-(n : Int)), .int .i64 1] w fun e w' => e = .returned (strE (wsz n ++ [87]) 0) ∧ Below w.heap.size w w' := by
  obtain ⟨x, hx⟩ : ∃ x : Int, x = -(n : Int) := ⟨_, rfl⟩
  rw [← hx]
  have c1 : ¬ x < -180000000 := by omega
  have c2 : ¬ 180000000 < x := by omega
  have c3 : x < 0 := by omega
  have c4 : IntKind.i64.wrap (-x) = (n : Int) := by rw [hx, Int.neg_neg]; exact IntWalk.i64_in _ (by omega)
  have c5 : wrap64 (-x) = (n : Int) := by rw [hx, Int.neg_neg]; exact IntWalk.wrap64_in _ (by omega)
  have c6 : -x = (n : Int) := by omega
  clear hx hp
  go_enter Tryd.func41, Tryd.ntmps41
  go_wp2_with fail
  refine (most1 _).mono ?_
  rintro e w1 ⟨rfl, rfl⟩
  go_wp2_with fail
  refine (most1 _).mono ?_
  rintro e w1 ⟨rfl, rfl⟩
  go_wp2_with fail
  refine (decW n _ (by omega)).mono ?_
  rintro e w2 ⟨⟨K, hK, rfl⟩, hb2⟩
  have HW := Lib.hid (rsz_is hK)
  have HK := Lib.hid hK
  clear hK
  go_wp2_with fail
  refine (decR n _).mono ?_
  rintro e w3 ⟨rfl, hb3⟩
  go_wp2_with fail
  have hbel : Below w1.heap.size w1 w3 := (((Below.refl _ w1).alloc (Nat.le_refl _) _).trans (hb2.mono (by simp))).trans (hb3.mono (Nat.le_trans (by simp) hb2.size))
  have HT := Lib.hid (trim_zero (n % 1000000) (by omega))
  have L0 := dgf_len (n % 1000000) 6
  have LA : (dgf (n / 1000000) K).length ≤ 6 := by rw [dgf_len]; exact HK.out.2.1
  unfold rsz at HW
  generalize dgf (n % 1000000) 6 = R0 at *
  generalize dgf (n / 1000000) K = A at *
  clear hb2 hb3 c1 c2 c3 c4 c5 c6
  go_loopg [9] 6 (fun m r' wr => ∃ R : List UInt8, R.length ≤ 6 ∧ Hid (m = R.length) ∧ r' = .string ⟨R.toArray⟩ ∧ Hid (Lib.trimRightB R 48 = Lib.trimRightB R0 48) ∧ wr = w3)
  case atStart => exact ⟨R0, by omega, L0.symm, rfl, rfl, rfl⟩
  case round =>
    obtain ⟨R, hR, HM, rfl, HE, rfl⟩ := hrel
    clear L0
    rcases R.eq_nil_or_concat with hR0 | ⟨B, c, hR0⟩
    · subst hR0
      have hz : n % 1000000 = 0 := HT.out.1 HE.out.symm
      have hs : wsz n = A := by rw [← HW.out, if_pos hz]
      have HS := Lib.hid hs
      clear hz hs
      go_wp2_with fail
      go_ret2
      refine ⟨?_, hbel⟩
      rw [HS.out]
      show Ending.returned (Value.tuple #[Value.string _, _]) = _
      rw [str_snoc]; rfl
    · rw [List.concat_eq_append] at hR0
      subst hR0
      have hBl : B.length ≤ 5 := by rw [List.length_append] at hR; simp at hR; omega
      have hlen : (⟨(B ++ [c]).toArray⟩ : ByteArray).size = B.length + 1 := by simp [ByteArray.size]
      have hcc : ∀ h, ((⟨(B ++ [c]).toArray⟩ : ByteArray)[B.length]'h) = c := by
        intro h
        show (B ++ [c]).toArray[B.length]'_ = c
        simp
      have hie : (B ++ [c]).isEmpty = false := by simp
      have hx2 : ByteArray.extract ⟨(B ++ [c]).toArray⟩ 0 B.length = ⟨B.toArray⟩ := by
        apply ByteArray.ext
        simp [ByteArray.data_extract]
      have hw1 : IntKind.i64.wrap ((B.length : Int) + 1 - 1) = (B.length : Int) := by rw [show (B.length : Int) + 1 - 1 = B.length by omega]; exact IntWalk.i64_in _ (by omega)
      have hw2 : IntKind.i64.wrap (B.length : Int) = (B.length : Int) := IntWalk.i64_in _ (by omega)
      have hw3 : wrap64 (B.length : Int) = (B.length : Int) := IntWalk.wrap64_in _ (by omega)
      by_cases hc : c = 48
      · subst hc
        go_wp2_with fail
        go_roundg B.length
        case measure => have := HM.out; rw [List.length_append] at this; simp at this; omega
        case rel =>
          refine ⟨B, by omega, rfl, rfl, ?_, rfl⟩
          have h1 := HE.out
          rw [trim_snoc_zero] at h1
          exact h1
      · have hn48 : ¬ ((c.toNat : Int) = 48) := by
          intro e
          apply hc
          apply UInt8.toNat_inj.1
          have : (48 : UInt8).toNat = 48 := rfl
          omega
        have hn49 : ((c.toNat : Int) == 48) = false := beq_no hn48
        have hz : n % 1000000 ≠ 0 := by
          intro e
          have h1 := HT.out.2 e
          rw [← HE.out, trim_snoc_other B c hc] at h1
          simp at h1
        have hs : wsz n = A ++ [46] ++ (B ++ [c]) := by rw [← HW.out, if_neg hz, ← HE.out, trim_snoc_other B c hc]
        have HS := Lib.hid hs
        clear hz hs hc
        go_wp2_with fail
        go_ret2
        refine ⟨?_, hbel⟩
        rw [HS.out]
        show Ending.returned (Value.tuple #[Value.string _, _]) = _
        rw [str_three]
        rfl

theorem rwrite_any (a axis : Int) (w : World) :
    Calls Tryd.prog 41 #[.int .i64 a, .int .i64 axis] w fun e w' => e = .returned (strE (wS a axis) (wE a axis)) ∧ Below w.heap.size w w' := by
  by_cases c : axis ≠ 0 ∧ axis ≠ 1
  · have e1 : wE a axis = 2 := by unfold wE; rw [if_pos c]
    have e2 : wS a axis = [] := by unfold wS; rw [e1, if_neg (by decide)]
    rw [e1, e2]
    refine (rwrite_arg a axis w c.1 c.2).mono ?_
    rintro e w' ⟨rfl, rfl⟩
    exact ⟨rfl, Below.refl _ _⟩
  · have hf : (axis = 0 ∧ far axis = 90000000) ∨ (axis = 1 ∧ far axis = 180000000) := by
      unfold far
      by_cases h : axis = 0
      · exact Or.inl ⟨h, if_pos h⟩
      · exact Or.inr ⟨by omega, if_neg h⟩
    by_cases r : a < - far axis ∨ a > far axis
    · have e1 : wE a axis = 7 := by unfold wE; rw [if_neg c, if_pos r]
      have e2 : wS a axis = [] := by unfold wS; rw [e1, if_neg (by decide)]
      rw [e1, e2]
      rcases hf with ⟨rfl, h⟩ | ⟨rfl, h⟩
      · refine (rwrite_range0 a w (by omega)).mono ?_
        rintro e w' ⟨rfl, rfl⟩
        exact ⟨rfl, Below.refl _ _⟩
      · refine (rwrite_range1 a w (by omega)).mono ?_
        rintro e w' ⟨rfl, rfl⟩
        exact ⟨rfl, Below.refl _ _⟩
    · have e1 : wE a axis = 0 := by unfold wE; rw [if_neg c, if_neg r]
      by_cases n : a < 0
      · have e2 : wS a axis = wsz (a.natAbs) ++ [if axis = 0 then 83 else 87] := by
          unfold wS wLetter; rw [e1, if_pos rfl, if_pos n, if_pos n]
        have ea : a = -(a.natAbs : Int) := by omega
        rw [e1, e2]
        generalize a.natAbs = k at *
        subst ea
        rcases hf with ⟨rfl, h⟩ | ⟨rfl, h⟩
        · rw [if_pos rfl]; exact rwrite_0n k w (by omega) (by omega)
        · rw [if_neg (by decide)]; exact rwrite_1n k w (by omega) (by omega)
      · have e2 : wS a axis = wsz (a.natAbs) ++ [if axis = 0 then 78 else 69] := by
          unfold wS wLetter; rw [e1, if_pos rfl, if_neg n, if_neg n]
        have ea : a = (a.natAbs : Int) := by omega
        rw [e1, e2]
        generalize a.natAbs = k at *
        subst ea
        rcases hf with ⟨rfl, h⟩ | ⟨rfl, h⟩
        · rw [if_pos rfl]; exact rwrite_0p k w (by omega)
        · rw [if_neg (by decide)]; exact rwrite_1p k w (by omega)
end Go.Proofs.YtdikelijnachjaaDoor
