/- Read of the reference: the good way. -/
import Derived.Test.YtdikelijnachjaaDoorSg5
namespace Go.Proofs.YtdikelijnachjaaDoor
set_option linter.unusedSimpArgs false
set_option linter.unusedVariables false
open Go.RowKit
attribute [local go_sem ↓] Go.wp_at_zero Go.wp_at_succ

theorem outV_far {c : UInt8} {A : Int} (hk : dirK c = true) (h : far (dirA c) < A) : outV [c] A = read3 0 0 7 := by
  show (if dirK c then (if far (dirA c) < A then read3 0 0 7 else read3 (dirS c * A) (dirA c) 0) else read3 0 0 6) = _
  rw [if_pos hk, if_pos h]
theorem outV_ok {c : UInt8} {A x B : Int} (hk : dirK c = true) (h : ¬ far (dirA c) < A) (hx : dirA c = x) (hB : dirS c * A = B) : outV [c] A = read3 B x 0 := by
  show (if dirK c then (if far (dirA c) < A then read3 0 0 7 else read3 (dirS c * A) (dirA c) 0) else read3 0 0 6) = _
  rw [if_pos hk, if_neg h, hx, hB]
theorem outV_no {c : UInt8} {A : Int} (hk : dirK c = false) : outV [c] A = read3 0 0 6 := by
  show (if dirK c then (if far (dirA c) < A then read3 0 0 7 else read3 (dirS c * A) (dirA c) 0) else read3 0 0 6) = _
  rw [hk]; rfl

set_option maxRecDepth 20000 in
set_option maxHeartbeats 2000000 in
theorem rread_go (W rest R : List UInt8) (g G A : Int) (v : Value) (w : World) (hW : 1 ≤ W.length ∧ W.length ≤ 3) (hfig : figN (W ++ rest) = W.length) (hl : W.length + rest.length ≤ 20) (hg : 0 ≤ g ∧ g ≤ 999) (hG : G = g * 1000000) (hA : 0 ≤ A ∧ A ≤ 1000000000)
    (N1 : ∀ w, Calls Tryd.prog 73 #[.string ⟨W.toArray⟩] w fun e w' => e = .returned (.int .i64 g) ∧ w' = w)
    (H : Hid ((R = rest ∧ A = G ∧ (∀ c T, rest = c :: T → c ≠ 46)) ∨ ∃ (P D : List UInt8) (h : Int), rest = 46 :: (P ++ R) ∧ figN (P ++ R) = P.length ∧ 1 ≤ P.length ∧ P.length ≤ 6 ∧ 0 ≤ h ∧ h ≤ 999999 ∧ A = G + h ∧ D = (P ++ [48, 48, 48, 48, 48, 48]).take 6 ∧
      ∀ w, Calls Tryd.prog 73 #[.string ⟨D.toArray⟩] w fun e w' => e = .returned (.int .i64 h) ∧ w' = w))
    (hv : Hid (v = outV R A)) :
    Calls Tryd.prog 39 #[.string ⟨(W ++ rest).toArray⟩] w fun e w' => e = .returned v ∧ Below w.heap.size w w' := by
  have F := Lib.hid (fun w => figures_any (W ++ rest) w (by rw [List.length_append]; omega))
  have N1' := Lib.hid N1
  clear N1
  rw [hfig] at F
  have hsz : (⟨(W ++ rest).toArray⟩ : ByteArray).size = W.length + rest.length := by simp [ByteArray.size]
  have x1 := ext_lo W rest
  have x2 := ext_hi W rest
  have i0 : ¬ (20 : Int) < (W.length : Int) + (rest.length : Int) := by omega
  have i1 : ¬ (W.length : Int) < 1 := by omega
  have i2 : ¬ 3 < (W.length : Int) := by omega
  have wm : IntKind.i64.wrap (g * 1000000) = G := by rw [hG]; exact IntWalk.i64_in _ (by omega)
  clear hfig
  go_enter Tryd.func39, Tryd.ntmps39
  go_wp2_with fail
  refine (F.out _).mono ?_
  rintro e w1 ⟨rfl, rfl⟩
  go_wp2_with fail
  go_quiet ((with_reducible refine Calls.quiet_of_same (N1'.out _)))
  clear x1 x2 F N1' hsz wm
  rcases H.out with ⟨hR, hAg, h46⟩ | ⟨P, D, h, hrest, hfP, hP1, hP6, h0, h9, hAg, hD, N2⟩
  · clear H
    subst hR
    have wn : IntKind.i64.wrap (-A) = -A := IntWalk.i64_in _ (by omega)
    have wn2 : wrap64 (-A) = -A := IntWalk.wrap64_in _ (by omega)
    subst hAg
    rcases R with _ | ⟨c, _ | ⟨d, R⟩⟩
    · have hvv : Hid (v = read3 0 0 6) := hv
      clear hv
      go_wp2_with fail
      go_ret3
      exact ⟨by rw [hvv.out]; first | rfl | (rw [hG]; rfl) | (rw [hAg, hG]; rfl), below_drewN' (Below.refl _ _) _⟩
    · have c46 : c ≠ 46 := h46 c [] rfl
      have c47 : ¬ ((c.toNat : Int) = 46) := by
        intro e
        apply c46
        apply UInt8.toNat_inj.1
        have : (46 : UInt8).toNat = 46 := rfl
        omega
      have c48 : ((c.toNat : Int) == 46) = false := beq_no c47
      have g0 : ∀ h, ((⟨#[c]⟩ : ByteArray)[0]'h) = c := fun h => rfl
      clear h46 c46
      by_cases c78 : c = 78
      · subst c78
        by_cases hr : 90000000 < A
        · have hvv : Hid (v = read3 0 0 7) := by
            show v = _
            rw [hv.out]
            exact outV_far (by decide) hr
          clear hv
          go_wp2_with fail
          refine (most0 _).mono ?_
          rintro e w9 ⟨rfl, rfl⟩
          go_wp2_with fail
          go_ret3
          exact ⟨by rw [hvv.out]; first | rfl | (rw [hG]; rfl), below_drewN' (Below.refl _ _) _⟩
        · have hvv : Hid (v = read3 (A) 0 0) := by
            show v = _
            rw [hv.out]
            exact outV_ok (by decide) hr rfl (show 1 * A = A by omega)
          clear hv
          go_wp2_with fail
          refine (most0 _).mono ?_
          rintro e w9 ⟨rfl, rfl⟩
          go_wp2_with fail
          go_ret3
          exact ⟨by rw [hvv.out]; first | rfl | (rw [hG]; rfl) | (rw [hAg, hG]; rfl), below_drewN' (Below.refl _ _) _⟩
      · by_cases c83 : c = 83
        · subst c83
          by_cases hr : 90000000 < A
          · have hvv : Hid (v = read3 0 0 7) := by
              show v = _
              rw [hv.out]
              exact outV_far (by decide) hr
            clear hv
            go_wp2_with fail
            refine (most0 _).mono ?_
            rintro e w9 ⟨rfl, rfl⟩
            go_wp2_with fail
            go_ret3
            exact ⟨by rw [hvv.out]; first | rfl | (rw [hG]; rfl), below_drewN' (Below.refl _ _) _⟩
          · have hvv : Hid (v = read3 (-A) 0 0) := by
              show v = _
              rw [hv.out]
              exact outV_ok (by decide) hr rfl (show -1 * A = -A by omega)
            clear hv
            go_wp2_with fail
            refine (most0 _).mono ?_
            rintro e w9 ⟨rfl, rfl⟩
            go_wp2_with fail
            go_ret3
            exact ⟨by rw [hvv.out]; first | rfl | (rw [hG]; rfl) | (rw [hAg, hG]; rfl), below_drewN' (Below.refl _ _) _⟩
        · by_cases c69 : c = 69
          · subst c69
            by_cases hr : 180000000 < A
            · have hvv : Hid (v = read3 0 0 7) := by
                show v = _
                rw [hv.out]
                exact outV_far (by decide) hr
              clear hv
              go_wp2_with fail
              refine (most1 _).mono ?_
              rintro e w9 ⟨rfl, rfl⟩
              go_wp2_with fail
              go_ret3
              exact ⟨by rw [hvv.out]; first | rfl | (rw [hG]; rfl), below_drewN' (Below.refl _ _) _⟩
            · have hvv : Hid (v = read3 (A) 1 0) := by
                show v = _
                rw [hv.out]
                exact outV_ok (by decide) hr rfl (show 1 * A = A by omega)
              clear hv
              go_wp2_with fail
              refine (most1 _).mono ?_
              rintro e w9 ⟨rfl, rfl⟩
              go_wp2_with fail
              go_ret3
              exact ⟨by rw [hvv.out]; first | rfl | (rw [hG]; rfl) | (rw [hAg, hG]; rfl), below_drewN' (Below.refl _ _) _⟩
          · by_cases c87 : c = 87
            · subst c87
              by_cases hr : 180000000 < A
              · have hvv : Hid (v = read3 0 0 7) := by
                  show v = _
                  rw [hv.out]
                  exact outV_far (by decide) hr
                clear hv
                go_wp2_with fail
                refine (most1 _).mono ?_
                rintro e w9 ⟨rfl, rfl⟩
                go_wp2_with fail
                go_ret3
                exact ⟨by rw [hvv.out]; first | rfl | (rw [hG]; rfl), below_drewN' (Below.refl _ _) _⟩
              · have hvv : Hid (v = read3 (-A) 1 0) := by
                  show v = _
                  rw [hv.out]
                  exact outV_ok (by decide) hr rfl (show -1 * A = -A by omega)
                clear hv
                go_wp2_with fail
                refine (most1 _).mono ?_
                rintro e w9 ⟨rfl, rfl⟩
                go_wp2_with fail
                go_ret3
                exact ⟨by rw [hvv.out]; first | rfl | (rw [hG]; rfl) | (rw [hAg, hG]; rfl), below_drewN' (Below.refl _ _) _⟩
            · have hvv : Hid (v = read3 0 0 6) := by
                show v = _
                rw [hv.out]
                exact outV_no (by unfold dirK; rw [if_neg c78, if_neg c83, if_neg c69, if_neg c87])
              have b78 : (c == 78) = false := beq_eq_false_iff_ne.2 c78
              have b83 : (c == 83) = false := beq_eq_false_iff_ne.2 c83
              have b69 : (c == 69) = false := beq_eq_false_iff_ne.2 c69
              have b87 : (c == 87) = false := beq_eq_false_iff_ne.2 c87
              clear hv
              go_wp2_with fail
              go_ret3
              exact ⟨by rw [hvv.out]; first | rfl | (rw [hG]; rfl) | (rw [hAg, hG]; rfl), below_drewN' (Below.refl _ _) _⟩
    · have c46 : c ≠ 46 := h46 c (d :: R) rfl
      have c47 : ¬ ((c.toNat : Int) = 46) := by
        intro e
        apply c46
        apply UInt8.toNat_inj.1
        have : (46 : UInt8).toNat = 46 := rfl
        omega
      have c48 : ((c.toNat : Int) == 46) = false := beq_no c47
      have g0 : ∀ h, ((⟨(c :: d :: R).toArray⟩ : ByteArray)[0]'h) = c := fun h => rfl
      have hvv : Hid (v = read3 0 0 6) := hv
      clear h46 c46 hv
      go_wp2_with fail
      go_ret3
      exact ⟨by rw [hvv.out]; rfl, below_drewN' (Below.refl _ _) _⟩
  · clear H
    subst hrest
    have F2 := Lib.hid (fun w => figures_any (P ++ R) w (by simp at hl; simp; omega))
    rw [hfP] at F2
    have N2' := Lib.hid N2
    have y0 : ∀ h, ((⟨(46 :: (P ++ R)).toArray⟩ : ByteArray)[0]'h) = 46 := fun h => rfl
    have y1 : (⟨(46 :: (P ++ R)).toArray⟩ : ByteArray).size = P.length + R.length + 1 := by simp [ByteArray.size]
    have y2 : ByteArray.extract ⟨(46 :: (P ++ R)).toArray⟩ 1 (P.length + R.length + 1) = ⟨(P ++ R).toArray⟩ := by
      apply ByteArray.ext
      simp [ByteArray.data_extract]
      exact List.take_of_length_le (by simp)
    have y3 : ByteArray.extract ⟨(46 :: (P ++ R)).toArray⟩ 1 (1 + P.length) = ⟨P.toArray⟩ := by
      apply ByteArray.ext
      simp [ByteArray.data_extract, Nat.add_comm]
    have y4 : ByteArray.extract ⟨(46 :: (P ++ R)).toArray⟩ (1 + P.length) (P.length + R.length + 1) = ⟨R.toArray⟩ := by
      apply ByteArray.ext
      simp [ByteArray.data_extract, Nat.add_comm]
    have y5 : ByteArray.extract (⟨P.toArray⟩ ++ ⟨#[48, 48, 48, 48, 48, 48]⟩) 0 6 = ⟨D.toArray⟩ := by
      rw [hD]
      apply ByteArray.ext
      simp [ByteArray.data_extract]
    have j1 : ¬ (P.length : Int) < 1 := by omega
    have j2 : ¬ 6 < (P.length : Int) := by omega
    have w3 : IntKind.i64.wrap (1 + (P.length : Int)) = 1 + (P.length : Int) := IntWalk.i64_in _ (by omega)
    have w4 : IntKind.i64.wrap (G + h) = A := by rw [hAg]; exact IntWalk.i64_in _ (by omega)
    have w5 : IntKind.i64.wrap (g * 1000000 + h) = A := by rw [hAg, hG]; exact IntWalk.i64_in _ (by omega)
    have tn : (1 + (P.length : Int)).toNat = 1 + P.length := by omega
    have b1 : (1 : Int) ≤ 1 + (P.length : Int) := by omega
    have b0 : (0 : Int) ≤ 1 + (P.length : Int) := by omega
    have b2 : 1 + (P.length : Int) ≤ (P.length : Int) + (R.length : Int) + 1 := by omega
    have y6 : (⟨P.toArray⟩ ++ ⟨#[48, 48, 48, 48, 48, 48]⟩ : ByteArray).size = P.length + 6 := by simp [ByteArray.size]
    have k1 : ¬ (9223372036854775807 < P.length + 6) := by omega
    have k2 : P.length + 6 ≤ 9223372036854775807 := by omega
    have k3 : (Nat.lt 9223372036854775807 (P.length + 6)) = False := by simp only [eq_iff_iff, iff_false]; exact k1
    have hcat : ∀ w, Sem.run Tryd.prog (Op.stringOp .add ⟨P.toArray⟩ ⟨#[48, 48, 48, 48, 48, 48]⟩) w = .ok (.string (⟨P.toArray⟩ ++ ⟨#[48, 48, 48, 48, 48, 48]⟩)) w := fun w => run_string_add_sum w _ _ (by simp [ByteArray.size]; omega)
    have b3 : (6 : Int) ≤ (P.length : Int) + 6 := by omega
    have hPR : P.length + R.length ≤ 20 := by simp at hl; omega
    clear hfP hD N2 hl
    go_wp2_with fail
    refine (F2.out _).mono ?_
    rintro e w2 ⟨rfl, rfl⟩
    go_wp2_with fail
    go_quiet ((with_reducible refine Calls.mono (N2'.out _) (fun e w9 hh => ⟨hh.1, _, hh.2⟩)))
    clear y0 y1 y2 y3 y4 y5 F2 N2'
    have wn : IntKind.i64.wrap (-A) = -A := IntWalk.i64_in _ (by omega)
    have wn2 : wrap64 (-A) = -A := IntWalk.wrap64_in _ (by omega)
    rcases R with _ | ⟨c, _ | ⟨d, R⟩⟩
    · have hvv : Hid (v = read3 0 0 6) := hv
      clear hv
      go_wp2_with fail
      go_ret3
      exact ⟨by rw [hvv.out]; first | rfl | (rw [hG]; rfl) | (rw [hAg, hG]; rfl), (by first | exact below_drewN' (Below.refl _ _) _ | exact below_drewN' (below_drewN' (Below.refl _ _) _) _)⟩
    · by_cases c78 : c = 78
      · subst c78
        by_cases hr : 90000000 < A
        · have hvv : Hid (v = read3 0 0 7) := by
            show v = _
            rw [hv.out]
            exact outV_far (by decide) hr
          clear hv
          go_wp2_with fail
          refine (most0 _).mono ?_
          rintro e w9 ⟨rfl, rfl⟩
          go_wp2_with fail
          go_ret3
          exact ⟨by rw [hvv.out]; first | rfl | (rw [hG]; rfl), (by first | exact below_drewN' (Below.refl _ _) _ | exact below_drewN' (below_drewN' (Below.refl _ _) _) _)⟩
        · have hvv : Hid (v = read3 (A) 0 0) := by
            show v = _
            rw [hv.out]
            exact outV_ok (by decide) hr rfl (show 1 * A = A by omega)
          clear hv
          go_wp2_with fail
          refine (most0 _).mono ?_
          rintro e w9 ⟨rfl, rfl⟩
          go_wp2_with fail
          go_ret3
          exact ⟨by rw [hvv.out]; first | rfl | (rw [hG]; rfl) | (rw [hAg, hG]; rfl), (by first | exact below_drewN' (Below.refl _ _) _ | exact below_drewN' (below_drewN' (Below.refl _ _) _) _)⟩
      · by_cases c83 : c = 83
        · subst c83
          by_cases hr : 90000000 < A
          · have hvv : Hid (v = read3 0 0 7) := by
              show v = _
              rw [hv.out]
              exact outV_far (by decide) hr
            clear hv
            go_wp2_with fail
            refine (most0 _).mono ?_
            rintro e w9 ⟨rfl, rfl⟩
            go_wp2_with fail
            go_ret3
            exact ⟨by rw [hvv.out]; first | rfl | (rw [hG]; rfl), (by first | exact below_drewN' (Below.refl _ _) _ | exact below_drewN' (below_drewN' (Below.refl _ _) _) _)⟩
          · have hvv : Hid (v = read3 (-A) 0 0) := by
              show v = _
              rw [hv.out]
              exact outV_ok (by decide) hr rfl (show -1 * A = -A by omega)
            clear hv
            go_wp2_with fail
            refine (most0 _).mono ?_
            rintro e w9 ⟨rfl, rfl⟩
            go_wp2_with fail
            go_ret3
            exact ⟨by rw [hvv.out]; first | rfl | (rw [hG]; rfl) | (rw [hAg, hG]; rfl), (by first | exact below_drewN' (Below.refl _ _) _ | exact below_drewN' (below_drewN' (Below.refl _ _) _) _)⟩
        · by_cases c69 : c = 69
          · subst c69
            by_cases hr : 180000000 < A
            · have hvv : Hid (v = read3 0 0 7) := by
                show v = _
                rw [hv.out]
                exact outV_far (by decide) hr
              clear hv
              go_wp2_with fail
              refine (most1 _).mono ?_
              rintro e w9 ⟨rfl, rfl⟩
              go_wp2_with fail
              go_ret3
              exact ⟨by rw [hvv.out]; first | rfl | (rw [hG]; rfl), (by first | exact below_drewN' (Below.refl _ _) _ | exact below_drewN' (below_drewN' (Below.refl _ _) _) _)⟩
            · have hvv : Hid (v = read3 (A) 1 0) := by
                show v = _
                rw [hv.out]
                exact outV_ok (by decide) hr rfl (show 1 * A = A by omega)
              clear hv
              go_wp2_with fail
              refine (most1 _).mono ?_
              rintro e w9 ⟨rfl, rfl⟩
              go_wp2_with fail
              go_ret3
              exact ⟨by rw [hvv.out]; first | rfl | (rw [hG]; rfl) | (rw [hAg, hG]; rfl), (by first | exact below_drewN' (Below.refl _ _) _ | exact below_drewN' (below_drewN' (Below.refl _ _) _) _)⟩
          · by_cases c87 : c = 87
            · subst c87
              by_cases hr : 180000000 < A
              · have hvv : Hid (v = read3 0 0 7) := by
                  show v = _
                  rw [hv.out]
                  exact outV_far (by decide) hr
                clear hv
                go_wp2_with fail
                refine (most1 _).mono ?_
                rintro e w9 ⟨rfl, rfl⟩
                go_wp2_with fail
                go_ret3
                exact ⟨by rw [hvv.out]; first | rfl | (rw [hG]; rfl), (by first | exact below_drewN' (Below.refl _ _) _ | exact below_drewN' (below_drewN' (Below.refl _ _) _) _)⟩
              · have hvv : Hid (v = read3 (-A) 1 0) := by
                  show v = _
                  rw [hv.out]
                  exact outV_ok (by decide) hr rfl (show -1 * A = -A by omega)
                clear hv
                go_wp2_with fail
                refine (most1 _).mono ?_
                rintro e w9 ⟨rfl, rfl⟩
                go_wp2_with fail
                go_ret3
                exact ⟨by rw [hvv.out]; first | rfl | (rw [hG]; rfl) | (rw [hAg, hG]; rfl), (by first | exact below_drewN' (Below.refl _ _) _ | exact below_drewN' (below_drewN' (Below.refl _ _) _) _)⟩
            · have hvv : Hid (v = read3 0 0 6) := by
                show v = _
                rw [hv.out]
                exact outV_no (by unfold dirK; rw [if_neg c78, if_neg c83, if_neg c69, if_neg c87])
              have b78 : (c == 78) = false := beq_eq_false_iff_ne.2 c78
              have b83 : (c == 83) = false := beq_eq_false_iff_ne.2 c83
              have b69 : (c == 69) = false := beq_eq_false_iff_ne.2 c69
              have b87 : (c == 87) = false := beq_eq_false_iff_ne.2 c87
              clear hv
              go_wp2_with fail
              go_ret3
              exact ⟨by rw [hvv.out]; first | rfl | (rw [hG]; rfl) | (rw [hAg, hG]; rfl), (by first | exact below_drewN' (Below.refl _ _) _ | exact below_drewN' (below_drewN' (Below.refl _ _) _) _)⟩
    · have hvv : Hid (v = read3 0 0 6) := hv
      clear hv
      go_wp2_with fail
      go_ret3
      exact ⟨by rw [hvv.out]; first | rfl | (rw [hG]; rfl) | (rw [hAg, hG]; rfl), (by first | exact below_drewN' (Below.refl _ _) _ | exact below_drewN' (below_drewN' (Below.refl _ _) _) _)⟩
end Go.Proofs.YtdikelijnachjaaDoor
