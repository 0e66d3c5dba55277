/- The reference reads as the code does. -/
import Derived.Test.YtdikelijnachjaaDoorSg6
namespace Go.Proofs.YtdikelijnachjaaDoor
set_option linter.unusedSimpArgs false
set_option linter.unusedVariables false
open Go.RowKit

theorem cut_no' (A : List UInt8) (h : ∀ c ∈ A, c ≠ 46) : rsW A = A ∧ rsP A = [] ∧ rsH A = false := by
  have e := index_no A h
  unfold rsW rsP rsH Lib.cut
  rw [e, if_neg (by decide)]
  exact ⟨rfl, rfl, rfl⟩
theorem cut_at' (A B : List UInt8) (h : ∀ c ∈ A, c ≠ 46) : rsW (A ++ 46 :: B) = A ∧ rsP (A ++ 46 :: B) = B ∧ rsH (A ++ 46 :: B) = true := by
  have e := index_at A B h
  unfold rsW rsP rsH Lib.cut
  rw [e, if_pos (by omega)]
  refine ⟨?_, ?_, rfl⟩
  · show (A ++ 46 :: B).take ((A.length : Int).toNat) = A
    rw [Int.toNat_natCast]
    simp
  · show (A ++ 46 :: B).drop ((A.length : Int).toNat + 1) = B
    rw [Int.toNat_natCast, ← List.drop_drop]
    simp
theorem split46 : ∀ b : List UInt8, (∀ c ∈ b, c ≠ 46) ∨ ∃ A B, b = A ++ 46 :: B ∧ ∀ c ∈ A, c ≠ 46
  | [] => Or.inl (fun c h => by simp at h)
  | d :: b => by
    by_cases hd : d = 46
    · exact Or.inr ⟨[], b, by rw [hd]; rfl, fun c h => by simp at h⟩
    · rcases split46 b with h | ⟨A, B, h, hA⟩
      · refine Or.inl (fun c hc => ?_)
        rcases List.mem_cons.1 hc with rfl | hc
        · exact hd
        · exact h c hc
      · refine Or.inr ⟨d :: A, B, by rw [h]; rfl, fun c hc => ?_⟩
        rcases List.mem_cons.1 hc with rfl | hc
        · exact hd
        · exact hA c hc
theorem figN_app (A rest : List UInt8) (hA : A.all digB = true) (h : ∀ c T, rest = c :: T → digB c = false) : figN (A ++ rest) = A.length := by
  induction A with
  | nil =>
    cases rest with
    | nil => rfl
    | cons c T =>
      show (List.takeWhile digB (c :: T)).length = 0
      rw [List.takeWhile_cons, h c T rfl]; rfl
  | cons a A ih =>
    rw [List.all_cons, Bool.and_eq_true] at hA
    show (List.takeWhile digB (a :: (A ++ rest))).length = A.length + 1
    rw [List.takeWhile_cons, hA.1]
    have := ih hA.2
    unfold figN at this
    show (List.takeWhile digB (A ++ rest)).length + 1 = _
    rw [this]
theorem tw_all : ∀ l : List UInt8, (l.takeWhile digB).all digB = true
  | [] => rfl
  | c :: l => by
    rw [List.takeWhile_cons]
    cases h : digB c
    · rfl
    · show (c :: l.takeWhile digB).all digB = true
      rw [List.all_cons, h, tw_all l]; rfl
theorem fig_split (l : List UInt8) : ∃ W rest, l = W ++ rest ∧ W.length = figN l ∧ W.all digB = true :=
  ⟨l.takeWhile digB, l.dropWhile digB, (List.takeWhile_append_dropWhile).symm, rfl, tw_all l⟩
theorem dirK_dig {c : UInt8} (h : dirK c = true) : digB c = false ∧ c ≠ 46 := by
  unfold dirK at h
  by_cases h1 : c = 78
  · subst h1; decide
  · by_cases h2 : c = 83
    · subst h2; decide
    · by_cases h3 : c = 69
      · subst h3; decide
      · by_cases h4 : c = 87
        · subst h4; decide
        · rw [if_neg h1, if_neg h2, if_neg h3, if_neg h4] at h
          exact absurd h (by decide)
theorem isD_of {l : List UInt8} {m : Int} (h : isD l m = true) : l.all digB = true ∧ 1 ≤ l.length ∧ (l.length : Int) ≤ m := by
  unfold isD at h
  rw [Bool.and_eq_true] at h
  have := of_decide_eq_true h.2
  exact ⟨h.1, by omega, this.2⟩
theorem isD_mk {l : List UInt8} {m : Int} (h : l.all digB = true) (h1 : 1 ≤ l.length) (h2 : (l.length : Int) ≤ m) : isD l m = true := by
  unfold isD
  rw [h, decide_eq_true ⟨by omega, h2⟩]; rfl
theorem take_six (B : List UInt8) (h : B.length ≤ 6) : (B ++ [48, 48, 48, 48, 48, 48]).take 6 = B ++ List.replicate (6 - B.length) 48 := by
  rw [List.take_append, List.take_of_length_le h]
  rw [show ([48, 48, 48, 48, 48, 48] : List UInt8) = List.replicate 6 48 from rfl, List.take_replicate]
  rw [show min (6 - B.length) 6 = 6 - B.length by omega]

theorem p6 : (10 : Int) ^ 6 = 1000000 := by decide
/-- whole degrees alone -/
theorem plain_one (A : List UInt8) (hA : A.all digB = true) (h1 : 1 ≤ A.length) (h3 : A.length ≤ 3) : rsK A = true ∧ rsN A = numV 0 A * 1000000 := by
  obtain ⟨c1, c2, c3⟩ := cut_no' A (digs_ne hA)
  have hk : rsK A = true := by unfold rsK; rw [c1, c3, isD_mk hA h1 (by omega)]; rfl
  refine ⟨hk, ?_⟩
  unfold rsN rsD
  rw [if_pos hk, c1, c2, numV_append]
  show numV (numV 0 A) (List.replicate 6 48) = _
  rw [numV_lin, num_zeros, List.length_replicate, p6]
  omega
/-- with decimals -/
theorem plain_two (A B : List UInt8) (hA : A.all digB = true) (h1 : 1 ≤ A.length) (h3 : A.length ≤ 3) (hB : B.all digB = true) (k1 : 1 ≤ B.length) (k6 : B.length ≤ 6) :
    rsK (A ++ 46 :: B) = true ∧ rsN (A ++ 46 :: B) = numV 0 A * 1000000 + numV 0 ((B ++ [48, 48, 48, 48, 48, 48]).take 6) := by
  obtain ⟨c1, c2, c3⟩ := cut_at' A B (digs_ne hA)
  have hk : rsK (A ++ 46 :: B) = true := by unfold rsK; rw [c1, c2, c3, isD_mk hA h1 (by omega), isD_mk hB k1 (by omega)]; rfl
  refine ⟨hk, ?_⟩
  unfold rsN rsD
  rw [if_pos hk, c1, c2, numV_append, take_six B k6, numV_lin]
  have q6 : (B ++ List.replicate (6 - B.length) (48 : UInt8)).length = 6 := by rw [List.length_append, List.length_replicate]; omega
  rw [q6, p6]
/-- what the code takes -/
theorem good (b : List UInt8) (hk : rsK b = true) : (b.all digB = true ∧ 1 ≤ b.length ∧ b.length ≤ 3) ∨ ∃ A B, b = A ++ 46 :: B ∧ A.all digB = true ∧ 1 ≤ A.length ∧ A.length ≤ 3 ∧ B.all digB = true ∧ 1 ≤ B.length ∧ B.length ≤ 6 := by
  unfold rsK at hk
  rcases split46 b with h | ⟨A, B, rfl, hA⟩
  · obtain ⟨c1, c2, c3⟩ := cut_no' b h
    rw [c1, c3, Bool.and_eq_true] at hk
    obtain ⟨a1, a2, a3⟩ := isD_of hk.1
    exact Or.inl ⟨a1, a2, by omega⟩
  · obtain ⟨c1, c2, c3⟩ := cut_at' A B hA
    rw [c1, c2, c3, Bool.and_eq_true] at hk
    obtain ⟨a1, a2, a3⟩ := isD_of hk.1
    obtain ⟨d1, d2, d3⟩ := isD_of (l := B) (m := 6) (by simpa using hk.2)
    exact Or.inr ⟨A, B, rfl, a1, a2, by omega, d1, d2, by omega⟩
/-- what is read of any text -/
def reV (l : List UInt8) : Value := read3 (reA l) (reX l) (reE l)
theorem reV_six (l : List UInt8) (h : l.length ≤ 20) (hn : ∀ b c, l = b ++ [c] → dirK c = true → rsK b = true → False) : reV l = read3 0 0 6 := by
  unfold reV reA reX reE
  rw [if_neg (by omega), if_neg (by omega), if_neg (by omega)]
  rcases List.eq_nil_or_concat l with rfl | ⟨b, c, hl⟩
  · rfl
  · rw [List.concat_eq_append] at hl
    subst hl
    have e1 : (b ++ [c]).getLast? = some c := by simp
    have e2 : (b ++ [c]).dropLast = b := by simp
    rw [e1, e2]
    have hf : (dirK c && rsK b) = false := by
      cases h1 : dirK c
      · rfl
      · cases h2 : rsK b
        · rfl
        · exact (hn b c rfl h1 h2).elim
    show read3 (rdA b c) (rdX b c) (rdE b c) = _
    unfold rdA rdX rdE
    rw [hf]; rfl
theorem reV_out (b : List UInt8) (c : UInt8) (h : b.length ≤ 19) (hk : rsK b = true) : reV (b ++ [c]) = outV [c] (rsN b) := by
  unfold reV reA reX reE
  have hl : ¬ 20 < (b ++ [c]).length := by simp; omega
  rw [if_neg hl, if_neg hl, if_neg hl]
  have e1 : (b ++ [c]).getLast? = some c := by simp
  have e2 : (b ++ [c]).dropLast = b := by simp
  rw [e1, e2]
  show read3 (rdA b c) (rdX b c) (rdE b c) = if dirK c then (if far (dirA c) < rsN b then read3 0 0 7 else read3 (dirS c * rsN b) (dirA c) 0) else read3 0 0 6
  unfold rdA rdX rdE
  rw [hk]
  cases hc : dirK c
  · rfl
  · rw [Bool.and_self, if_pos rfl, if_pos rfl]
    by_cases k : far (dirA c) < rsN b
    · rw [if_pos k, if_pos k]; rfl
    · rw [if_neg k, if_neg k]; rfl
theorem fig_good (b : List UInt8) (c : UInt8) (hc : dirK c = true) (hk : rsK b = true) :
    (1 ≤ figN (b ++ [c]) ∧ figN (b ++ [c]) ≤ 3) ∧ ∀ W rest, b ++ [c] = W ++ rest → W.length = figN (b ++ [c]) → (rest = [c] ∨ ∃ B, rest = 46 :: (B ++ [c]) ∧ B.all digB = true ∧ 1 ≤ B.length ∧ B.length ≤ 6) := by
  obtain ⟨d1, d2⟩ := dirK_dig hc
  rcases good b hk with ⟨a1, a2, a3⟩ | ⟨A, B, rfl, a1, a2, a3, b1, b2, b3⟩
  · have hf := figN_app b [c] a1 (fun x T e => by injection e with e1 e2; rw [← e1]; exact d1)
    rw [hf]
    refine ⟨⟨a2, a3⟩, fun W rest e hl => Or.inl ?_⟩
    exact (List.append_inj e hl.symm).2.symm
  · have e0 : A ++ 46 :: B ++ [c] = A ++ 46 :: (B ++ [c]) := by simp
    have hf := figN_app A (46 :: (B ++ [c])) a1 (fun x T e => by injection e with e1 e2; rw [← e1]; decide)
    rw [e0, hf]
    refine ⟨⟨a2, a3⟩, fun W rest e hl => Or.inr ⟨B, ?_, b1, b2, b3⟩⟩
    exact (List.append_inj e hl.symm).2.symm

theorem outV_long (R : List UInt8) (A : Int) (h : ∀ c, R ≠ [c]) : outV R A = read3 0 0 6 := by
  rcases R with _ | ⟨c, _ | ⟨d, R⟩⟩
  · rfl
  · exact absurd rfl (h c)
  · rfl

theorem rread_any (l : List UInt8) (w : World) (hs : l.length ≤ 9223372036854775807) :
    Calls Tryd.prog 39 #[.string ⟨l.toArray⟩] w fun e w' => e = .returned (reV l) ∧ Below w.heap.size w w' := by
  by_cases h : 20 < l.length
  · have : reV l = read3 0 0 3 := by unfold reV reA reX reE; rw [if_pos h, if_pos h, if_pos h]
    rw [this]
    exact rread_long l w h hs
  · by_cases hb : figN l < 1 ∨ 3 < figN l
    · have : reV l = read3 0 0 6 := reV_six l (by omega) (by
        rintro b c rfl hc hk
        have := (fig_good b c hc hk).1
        omega)
      rw [this]
      exact rread_bad l w (by omega) hb
    · obtain ⟨W, rest, e, hW, hd⟩ := fig_split l
      have hl : W.length + rest.length ≤ 20 := by rw [e, List.length_append] at h; omega
      have N1 := fun w => number_any W w (by omega) hd
      obtain ⟨v0, v1⟩ := numV_bd W 0 (by omega) hd
      have t3 : (10 : Int) ^ W.length ≤ 1000 := by
        rcases (by omega : W.length = 1 ∨ W.length = 2 ∨ W.length = 3) with q | q | q <;> rw [q] <;> decide
      have hg : 0 ≤ numV 0 W ∧ numV 0 W ≤ 999 := by omega
      have hfig : figN (W ++ rest) = W.length := by rw [← e, hW]
      by_cases hdot : ∃ T, rest = 46 :: T
      · obtain ⟨T, rfl⟩ := hdot
        by_cases hb2 : figN T < 1 ∨ 6 < figN T
        · have : reV l = read3 0 0 6 := reV_six l (by omega) (by
            rintro b c hbc hc hk
            subst hbc
            rcases (fig_good b c hc hk).2 W _ e hW with q | ⟨B, q, q1, q2, q3⟩
            · injection q with q4 q5
              exact (dirK_dig hc).2 q4.symm
            · injection q with q4 q5
              have := figN_app B [c] q1 (fun x T e => by injection e with e1 e2; rw [← e1]; exact (dirK_dig hc).1)
              rw [← q5] at this
              omega)
          rw [this, e]
          exact rread_dot W T _ w (by omega) hfig (by rw [← e]; omega) hg N1 hb2
        · obtain ⟨P, R, e2, hP, hpd⟩ := fig_split T
          have hD : ((P ++ [48, 48, 48, 48, 48, 48]).take 6).all digB = true := by
            rw [take_six P (by omega), List.all_append, hpd]
            simp [List.all_replicate]
            right; decide
          have hDl : ((P ++ [48, 48, 48, 48, 48, 48]).take 6).length = 6 := by rw [take_six P (by omega)]; simp; omega
          obtain ⟨u0, u1⟩ := numV_bd _ 0 (by omega) hD
          rw [hDl, p6] at u1
          have hv : reV l = outV R (numV 0 W * 1000000 + numV 0 ((P ++ [48, 48, 48, 48, 48, 48]).take 6)) := by
            by_cases hR : ∃ c, R = [c]
            · obtain ⟨c, rfl⟩ := hR
              obtain ⟨k1, k2⟩ := plain_two W P hd (by omega) (by omega) hpd (by omega) (by omega)
              have e3 : l = (W ++ 46 :: P) ++ [c] := by rw [e, e2]; simp
              rw [e3, ← k2]
              refine reV_out _ c ?_ k1
              rw [e3] at h
              simp at h
              simp
              omega
            · rw [outV_long R _ (fun c q => hR ⟨c, q⟩)]
              refine reV_six l (by omega) ?_
              rintro b c hbc hc hk
              subst hbc
              rcases (fig_good b c hc hk).2 W _ e hW with q | ⟨B, q, q1, q2, q3⟩
              · injection q with q4 q5
                exact (dirK_dig hc).2 q4.symm
              · injection q with q4 q5
                have hf := figN_app B [c] q1 (fun x T e => by injection e with e1 e2; rw [← e1]; exact (dirK_dig hc).1)
                rw [← q5, ← hP] at hf
                rw [q5] at e2
                exact hR ⟨c, (List.append_inj e2 hf.symm).2.symm⟩
          rw [e]
          rw [e2] at hfig hl ⊢
          refine rread_go W (46 :: (P ++ R)) R (numV 0 W) (numV 0 W * 1000000) (numV 0 W * 1000000 + numV 0 ((P ++ [48, 48, 48, 48, 48, 48]).take 6)) _ w (by omega) hfig hl hg rfl (by omega) N1 (Or.inr ⟨P, _, _, rfl, by rw [← e2, hP], by omega, by omega, u0, by omega, rfl, rfl, fun w => number_any _ w (by rw [hDl]; omega) hD⟩) ?_
          show reV _ = _
          rw [← e2, ← e]
          exact hv
      · have hv : reV l = outV rest (numV 0 W * 1000000) := by
          by_cases hR : ∃ c, rest = [c]
          · obtain ⟨c, rfl⟩ := hR
            obtain ⟨k1, k2⟩ := plain_one W hd (by omega) (by omega)
            rw [e, ← k2]
            refine reV_out _ c ?_ k1
            rw [e] at h
            simp at h
            omega
          · rw [outV_long rest _ (fun c q => hR ⟨c, q⟩)]
            refine reV_six l (by omega) ?_
            rintro b c hbc hc hk
            subst hbc
            rcases (fig_good b c hc hk).2 W _ e hW with q | ⟨B, q, q1, q2, q3⟩
            · exact hR ⟨c, q⟩
            · exact hdot ⟨_, q⟩
        rw [e]
        refine rread_go W rest rest (numV 0 W) (numV 0 W * 1000000) (numV 0 W * 1000000) _ w (by omega) hfig hl hg rfl (by omega) N1 (Or.inl ⟨rfl, rfl, fun c T q q2 => hdot ⟨T, by rw [q, q2]⟩⟩) ?_
        show reV _ = _
        rw [← e]
        exact hv
end Go.Proofs.YtdikelijnachjaaDoor
