/- What is written is read again: plain facts about digits. -/
import Derived.Test.YtdikelijnachjaaDoorRd3
namespace Go.Proofs.YtdikelijnachjaaDoor
set_option linter.unusedSimpArgs false
set_option linter.unusedVariables false
open Go.RowKit

theorem pre_one (b : UInt8) (l : List UInt8) : ([46] : List UInt8).isPrefixOf (b :: l) = (46 == b) := by
  simp [List.isPrefixOf]
theorem index_no : ∀ (A : List UInt8), (∀ c ∈ A, c ≠ 46) → Lib.index A [46] = -1
  | [], _ => rfl
  | b :: l, h => by
    have hb : (46 == b) = false := by
      rw [beq_eq_false_iff_ne]; exact Ne.symm (h b (by simp))
    unfold Lib.index
    rw [pre_one, hb, index_no l (fun c hc => h c (by simp [hc]))]
    rfl
theorem index_at : ∀ (A B : List UInt8), (∀ c ∈ A, c ≠ 46) → Lib.index (A ++ 46 :: B) [46] = (A.length : Int)
  | [], B, _ => by
    show Lib.index (46 :: B) [46] = 0
    unfold Lib.index
    rw [pre_one]
    rfl
  | b :: l, B, h => by
    have hb : (46 == b) = false := by
      rw [beq_eq_false_iff_ne]; exact Ne.symm (h b (by simp))
    show Lib.index (b :: (l ++ 46 :: B)) [46] = _
    unfold Lib.index
    rw [pre_one, hb, index_at l B (fun c hc => h c (by simp [hc]))]
    have : (((l.length : Nat) : Int) == -1) = false := by rw [beq_eq_false_iff_ne]; omega
    rw [this]
    simp
theorem dig_ne {c : UInt8} (h : digB c = true) : c ≠ 46 := by
  intro e
  subst e
  exact absurd h (by decide)
theorem digs_ne {A : List UInt8} (h : A.all digB = true) : ∀ c ∈ A, c ≠ 46 := fun c hc => dig_ne (List.all_eq_true.1 h c hc)
theorem cut_no (A : List UInt8) (h : A.all digB = true) : rsW A = A ∧ rsP A = [] ∧ rsH A = false := by
  have e := index_no A (digs_ne h)
  unfold rsW rsP rsH Lib.cut
  rw [e, if_neg (by decide)]
  exact ⟨rfl, rfl, rfl⟩
theorem cut_at (A B : List UInt8) (h : A.all digB = true) : rsW (A ++ [46] ++ B) = A ∧ rsP (A ++ [46] ++ B) = B ∧ rsH (A ++ [46] ++ B) = true := by
  have e := index_at A B (digs_ne h)
  have e2 : A ++ [46] ++ B = A ++ 46 :: B := by simp
  rw [e2]
  unfold rsW rsP rsH Lib.cut
  rw [e, if_pos (by omega)]
  refine ⟨?_, ?_, rfl⟩
  · show (A ++ 46 :: B).take ((A.length : Int).toNat) = A
    rw [Int.toNat_natCast]
    simp
  · show (A ++ 46 :: B).drop ((A.length : Int).toNat + 1) = B
    rw [Int.toNat_natCast, ← List.drop_drop]
    simp

/-- the digits of a number -/
theorem numV_lin (l : List UInt8) : ∀ v : Int, numV v l = v * 10 ^ l.length + numV 0 l := by
  induction l with
  | nil => intro v; show v = v * 1 + 0; omega
  | cons c l ih =>
    intro v
    rw [numV_cons, numV_cons, ih (10 * v + ((c.toNat : Int) - 48)), ih (10 * 0 + ((c.toNat : Int) - 48)), List.length_cons, Int.pow_succ]
    generalize (10 : Int) ^ l.length = p
    generalize numV 0 l = q
    generalize ((c.toNat : Int) - 48) = d
    rw [Int.add_mul, Int.add_mul, Int.mul_comm p 10, ← Int.mul_assoc v, Int.mul_comm v 10]
    omega
theorem dec_dig (k : Nat) (h : k < 10) : digB (UInt8.ofNat (48 + k)) = true ∧ ((UInt8.ofNat (48 + k)).toNat : Int) - 48 = k := by
  rcases (by omega : k = 0 ∨ k = 1 ∨ k = 2 ∨ k = 3 ∨ k = 4 ∨ k = 5 ∨ k = 6 ∨ k = 7 ∨ k = 8 ∨ k = 9) with rfl | rfl | rfl | rfl | rfl | rfl | rfl | rfl | rfl | rfl <;> exact ⟨by decide, by decide⟩
theorem dec_all (k : Nat) : ∀ u : Nat, u < 10 ^ (k+1) → (Lib.decDigits u).all digB = true ∧ numV 0 (Lib.decDigits u) = u := by
  induction k with
  | zero =>
    intro u h
    have hu : u < 10 := by simpa using h
    rw [Lib.decDigits, dif_pos hu]
    have := dec_dig u hu
    refine ⟨by rw [List.all_cons, this.1]; rfl, ?_⟩
    show 10 * 0 + _ = _
    omega
  | succ k ih =>
    intro u h
    by_cases c : u < 10
    · rw [Lib.decDigits, dif_pos c]
      have := dec_dig u c
      refine ⟨by rw [List.all_cons, this.1]; rfl, ?_⟩
      show 10 * 0 + _ = _
      omega
    · rw [Lib.decDigits, dif_neg c]
      obtain ⟨a, b⟩ := ih (u / 10) (by rw [Nat.pow_succ] at h; omega)
      have d := dec_dig (u % 10) (by omega)
      refine ⟨by rw [List.all_append, a, List.all_cons, d.1]; rfl, ?_⟩
      rw [numV_append, b]
      show 10 * _ + _ = _
      omega
theorem itoa_dig (n : Int) (h0 : 0 ≤ n) (h1 : n ≤ 9999999) : (Lib.itoa n).all digB = true ∧ numV 0 (Lib.itoa n) = n := by
  unfold Lib.itoa
  rw [if_neg (by omega)]
  obtain ⟨a, b⟩ := dec_all 6 n.toNat (by omega)
  exact ⟨a, by omega⟩

/-- zeros at the end -/
theorem while_zeros : ∀ l : List UInt8, l.takeWhile (· == 48) = List.replicate (l.length - (l.dropWhile (· == 48)).length) 48
  | [] => rfl
  | c :: l => by
    by_cases h : c = 48
    · subst h
      have ih := while_zeros l
      have hle := (List.dropWhile_suffix (fun x : UInt8 => x == 48) (l := l)).length_le
      rw [List.takeWhile_cons, List.dropWhile_cons, if_pos (by decide), if_pos (by decide), ih]
      rw [show (48 :: l).length - (l.dropWhile (· == 48)).length = (l.length - (l.dropWhile (· == 48)).length) + 1 by simp only [List.length_cons]; omega]
      rfl
    · have hf : (c == 48) = false := by rw [beq_eq_false_iff_ne]; exact h
      rw [List.takeWhile_cons, List.dropWhile_cons, hf, if_neg (by decide), if_neg (by decide)]
      simp
theorem trim_back (l : List UInt8) : Lib.trimRightB l 48 ++ List.replicate (l.length - (Lib.trimRightB l 48).length) 48 = l := by
  unfold Lib.trimRightB
  have h := while_zeros l.reverse
  have e : l.reverse.takeWhile (· == 48) ++ l.reverse.dropWhile (· == 48) = l.reverse := List.takeWhile_append_dropWhile
  have e2 := congrArg List.reverse e
  rw [List.reverse_append, List.reverse_reverse, h, List.reverse_replicate] at e2
  rw [List.length_reverse] at *
  exact e2
theorem num_zeros : ∀ k, numV 0 (List.replicate k 48) = 0
  | 0 => rfl
  | k + 1 => by
    rw [List.replicate_succ, numV_cons]
    exact num_zeros k

/-- what writeSize writes is read as it was -/
theorem wsz_read (n : Int) (h0 : 0 ≤ n) (h1 : n ≤ 180000000) : rsK (wsz n) = true ∧ rsN (wsz n) = n := by
  obtain ⟨d1, d2⟩ := itoa_dig (n / 1000000) (by omega) (by omega)
  obtain ⟨l1, l2⟩ := decDigits_len 2 (n / 1000000).toNat (by omega)
  have hl : Lib.itoa (n / 1000000) = Lib.decDigits (n / 1000000).toNat := by unfold Lib.itoa; rw [if_neg (by omega)]
  rw [← hl] at l1 l2
  have p6 : (10 : Int) ^ 6 = 1000000 := by decide
  by_cases hz : n % 1000000 = 0
  · have e : wsz n = Lib.itoa (n / 1000000) := by unfold wsz; rw [if_pos hz]
    rw [e]
    generalize Lib.itoa (n / 1000000) = A at *
    have hA : isD A 3 = true := by
      unfold isD
      rw [d1, decide_eq_true (by omega)]
      rfl
    obtain ⟨c1, c2, c3⟩ := cut_no A d1
    have hk : rsK A = true := by unfold rsK; rw [c1, c3, hA]; rfl
    refine ⟨hk, ?_⟩
    unfold rsN rsD
    rw [if_pos hk, c1, c2, numV_append, d2]
    show numV (n / 1000000) (List.replicate 6 48) = n
    rw [numV_lin, num_zeros, List.length_replicate, p6]
    omega
  · have e : wsz n = Lib.itoa (n / 1000000) ++ [46] ++ Lib.trimRightB (Lib.itoa (n % 1000000 + 1000000)).tail 48 := by unfold wsz; rw [if_neg hz]
    rw [e]
    obtain ⟨q1, q2⟩ := itoa_dig (n % 1000000 + 1000000) (by omega) (by omega)
    have hq : Lib.itoa (n % 1000000 + 1000000) = Lib.decDigits (n % 1000000 + 1000000).toNat := by unfold Lib.itoa; rw [if_neg (by omega)]
    obtain ⟨m1, m2⟩ := decDigits_len 6 (n % 1000000 + 1000000).toNat (by omega)
    rw [← hq] at m1 m2
    generalize Lib.itoa (n / 1000000) = A at *
    generalize Lib.itoa (n % 1000000 + 1000000) = B at *
    have hA : isD A 3 = true := by
      unfold isD
      rw [d1, decide_eq_true (by omega)]
      rfl
    cases B with
    | nil => exact absurd m1 (by simp)
    | cons h Q =>
      rw [List.all_cons, Bool.and_eq_true] at q1
      simp only [List.length_cons] at m2
      obtain ⟨v0, v1⟩ := numV_bd Q 0 (by omega) q1.2
      have hb := digB_bd q1.1
      rw [numV_cons, numV_lin] at q2
      have len6 : Q.length = 6 := by
        rcases (by omega : Q.length = 0 ∨ Q.length = 1 ∨ Q.length = 2 ∨ Q.length = 3 ∨ Q.length = 4 ∨ Q.length = 5 ∨ Q.length = 6) with k | k | k | k | k | k | k
        all_goals first
          | exact k
          | (rw [k] at q2 v1; exfalso; have : (10:Int)^0 = 1 := by decide
             have : (10:Int)^1 = 10 := by decide
             have : (10:Int)^2 = 100 := by decide
             have : (10:Int)^3 = 1000 := by decide
             have : (10:Int)^4 = 10000 := by decide
             have : (10:Int)^5 = 100000 := by decide
             omega)
      rw [len6, p6] at q2 v1
      have hr : numV 0 Q = n % 1000000 := by omega
      have tb := trim_back Q
      have hT : (Lib.trimRightB Q 48).all digB = true ∧ (Lib.trimRightB Q 48).length ≤ 6 := by
        have ha := q1.2
        have hlen := congrArg List.length tb
        rw [← tb, List.all_append, Bool.and_eq_true] at ha
        rw [List.length_append, List.length_replicate, len6] at hlen
        exact ⟨ha.1, by omega⟩
      have hne : 1 ≤ (Lib.trimRightB Q 48).length := by
        by_cases k : (Lib.trimRightB Q 48).length = 0
        · exfalso
          have k0 : Lib.trimRightB Q 48 = [] := List.length_eq_zero_iff.1 k
          rw [k0, List.nil_append] at tb
          rw [← tb, num_zeros] at hr
          omega
        · omega
      rw [len6] at tb
      show rsK (A ++ [46] ++ Lib.trimRightB Q 48) = true ∧ rsN (A ++ [46] ++ Lib.trimRightB Q 48) = n
      generalize Lib.trimRightB Q 48 = T at *
      obtain ⟨c1, c2, c3⟩ := cut_at A T d1
      have hTD : isD T 6 = true := by
        unfold isD
        rw [hT.1, decide_eq_true (by omega)]
        rfl
      have hk : rsK (A ++ [46] ++ T) = true := by unfold rsK; rw [c1, c2, c3, hA, hTD]; rfl
      refine ⟨hk, ?_⟩
      unfold rsN rsD
      rw [if_pos hk, c1, c2, tb, numV_append, d2, numV_lin, hr, len6, p6]
      omega

/-- what Write writes is read again -/
theorem read_written (a axis : Int) (h : wE a axis = 0) : reE (wS a axis) = 0 ∧ reA (wS a axis) = a ∧ reX (wS a axis) = axis := by
  have hx : axis = 0 ∨ axis = 1 := by
    unfold wE at h
    by_cases c : axis ≠ 0 ∧ axis ≠ 1
    · rw [if_pos c] at h; exact absurd h (by decide)
    · omega
  have hf : - far axis ≤ a ∧ a ≤ far axis := by
    unfold wE at h
    rw [if_neg (by omega)] at h
    by_cases c : a < - far axis ∨ a > far axis
    · rw [if_pos c] at h; exact absurd h (by decide)
    · omega
  have fb : 0 < far axis ∧ far axis ≤ 180000000 := by unfold far; split <;> omega
  have hn : ((a.natAbs : Nat) : Int) ≤ far axis := by omega
  obtain ⟨k1, k2⟩ := wsz_read (a.natAbs : Int) (by omega) (by omega)
  have hl := wsz_len (a.natAbs : Int) (by omega) (by omega)
  have hd : dirK (wLetter a axis) = true ∧ dirA (wLetter a axis) = axis ∧ dirS (wLetter a axis) = (if a < 0 then -1 else 1) := by
    unfold wLetter
    rcases hx with rfl | rfl
    · by_cases c : a < 0
      · rw [if_pos rfl, if_pos c, if_pos c]; exact ⟨by decide, by decide, by decide⟩
      · rw [if_pos rfl, if_neg c, if_neg c]; exact ⟨by decide, by decide, by decide⟩
    · by_cases c : a < 0
      · rw [if_neg (by decide), if_pos c, if_pos c]; exact ⟨by decide, by decide, by decide⟩
      · rw [if_neg (by decide), if_neg c, if_neg c]; exact ⟨by decide, by decide, by decide⟩
  have e : wS a axis = wsz a.natAbs ++ [wLetter a axis] := by unfold wS; rw [if_pos h]
  rw [e]
  generalize wsz (a.natAbs : Int) = W at *
  generalize wLetter a axis = c at *
  have e1 : (W ++ [c]).getLast? = some c := by simp
  have e2 : (W ++ [c]).dropLast = W := by simp
  have nl : ¬ 20 < (W ++ [c]).length := by simp; omega
  have r : rdE W c = 0 := by
    unfold rdE
    rw [hd.1, k1, if_pos (by rfl), hd.2.1, k2, if_neg (by omega)]
  unfold reE reA reX
  rw [if_neg nl, if_neg nl, if_neg nl, e1, e2]
  show rdE W c = 0 ∧ rdA W c = a ∧ rdX W c = axis
  refine ⟨r, ?_, ?_⟩
  · unfold rdA
    rw [if_pos r, hd.2.2, k2]
    split <;> omega
  · unfold rdX
    rw [if_pos r, hd.2.1]

/-- what is read can be written -/
theorem write_read (l : List UInt8) (h : reE l = 0) : wE (reA l) (reX l) = 0 := by
  unfold reE at h
  by_cases hl : 20 < l.length
  · rw [if_pos hl] at h; exact absurd h (by decide)
  · rw [if_neg hl] at h
    rcases List.eq_nil_or_concat l with rfl | ⟨b, c, rfl⟩
    · exact absurd h (by decide)
    · simp only [List.concat_eq_append] at h hl ⊢
      have e1 : (b ++ [c]).getLast? = some c := by simp
      have e2 : (b ++ [c]).dropLast = b := by simp
      rw [e1, e2] at h
      have r : rdE b c = 0 := h
      unfold reA reX
      rw [if_neg hl, if_neg hl, e1, e2]
      show wE (rdA b c) (rdX b c) = 0
      unfold rdA rdX
      rw [if_pos r, if_pos r]
      have hr : rsN b ≤ far (dirA c) := by
        unfold rdE at r
        cases k : (dirK c && rsK b)
        · rw [k, if_neg (by decide)] at r; exact absurd r (by decide)
        · rw [k, if_pos rfl] at r
          by_cases q : far (dirA c) < rsN b
          · rw [if_pos q] at r; exact absurd r (by decide)
          · omega
      have d := dir_bd c
      have nb := rsN_bd b
      unfold wE
      rw [if_neg (by omega), if_neg]
      rcases d.2 with g | g | g <;> rw [g] <;> omega
end Go.Proofs.YtdikelijnachjaaDoor
