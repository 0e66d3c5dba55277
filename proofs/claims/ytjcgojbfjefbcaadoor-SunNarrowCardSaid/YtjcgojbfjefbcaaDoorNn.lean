/- SunNarrow returns true, for all numbers. -/
import Derived.Test.YtjcgojbfjefbcaaDoorNr
namespace Go.Proofs.YtjcgojbfjefbcaaDoor
set_option linter.unusedSimpArgs false
set_option linter.unusedVariables false
open Go.RowKit SineNear Nw

theorem ni_bd {la lo zo day : Int} {alt : P2} (ok : okB la lo zo alt = true) (d0 : 0 ≤ day) (d1 : day ≤ 39999) : (-1000000000000 ≤ (niP alt la lo zo day).1 ∧ (niP alt la lo zo day).1 ≤ 1000000000000) ∧ (-1000000000000 ≤ (niP alt la lo zo day).2 ∧ (niP alt la lo zo day).2 ≤ 1000000000000) := by
  obtain ⟨b1, b2, b3, b4⟩ := ok_bd ok
  have N1 := pa_wi (rise := false) b1.1 b1.2 d0 (show day ≤ 40001 by omega) b2.1 b2.2 (a := alt) b4 (show Wi alt alt from ⟨Int.le_refl _, b4.2.1, Int.le_refl _⟩)
  have N2 := pa_wi (rise := true) b1.1 b1.2 (show 0 ≤ day + 1 by omega) (by omega) b2.1 b2.2 (a := alt) b4 (show Wi alt alt from ⟨Int.le_refl _, b4.2.1, Int.le_refl _⟩)
  have W1 : -172800 ≤ (wiP day lo false).1 ∧ (wiP day lo false).1 ≤ (wiP day lo false).2 ∧ (wiP day lo false).2 ≤ 4000000000 ∧ (wiP day lo false).2 - (wiP day lo false).1 ≤ 172800 := wi_spn (rise := false) (lon := lo) d0 (show day ≤ 40001 by omega) b2.1 b2.2
  have W2 : -172800 ≤ (wiP (day + 1) lo true).1 ∧ (wiP (day + 1) lo true).1 ≤ (wiP (day + 1) lo true).2 ∧ (wiP (day + 1) lo true).2 ≤ 4000000000 ∧ (wiP (day + 1) lo true).2 - (wiP (day + 1) lo true).1 ≤ 172800 := wi_spn (rise := true) (lon := lo) (show 0 ≤ day + 1 by omega) (show day + 1 ≤ 40001 by omega) b2.1 b2.2
  have p1 := N1.pin
  have p2 := N2.pin
  unfold Wi at p1 p2
  clear N1 N2 ok b4
  unfold niP dkP loP adP onP
  generalize paM alt la lo day false = p at *
  generalize paM alt la lo (day + 1) true = q at *
  generalize wiP day lo false = U at *
  generalize wiP (day + 1) lo true = V at *
  split
  · simp
  · simp only
    refine ⟨⟨?_, ?_⟩, ?_, ?_⟩ <;> split <;> omega

theorem narrow_any (ea : Addr) (la lo zo a0 a1 day u v : Int) (w : World) (td : TabD ea w) (te : TabE w) (tm : TabM w) (u0 : 0 ≤ u) (u1 : u ≤ 255) (v0 : 0 ≤ v) (v1 : v ≤ 255) :
    Calls Tryd.prog 11 #[cv la lo zo (a0, a1), .int .i64 day, .agg #[.int .u8 u, .int .u8 v]] w fun e w' => e = .returned (.bool true) ∧ Below w.heap.size w w' := by
  have C1 := check_T la lo zo (a0, a1)
  unfold chE at C1
  cases ok : okB la lo zo (a0, a1)
  · rw [ok] at C1
    exact narrow_no ea la lo zo a0 a1 day u v w td te tm (Lib.hid C1)
  · rw [ok] at C1
    obtain ⟨g1, g2, g3, g4⟩ := ok_bd ok
    have ha : Alt (a0, a1) := g4
    simp only at g4
    obtain ⟨_, _, _, _, m4, m5, m6⟩ := part_small g4.2.1 (show a1 - a0 ≤ 7200000000 by omega) u0 u1 v0 v1
    obtain ⟨b0, eb0⟩ : ∃ b, b = a0 + (a1 - a0) * min u v / 255 := ⟨_, rfl⟩
    obtain ⟨b1, eb1⟩ : ∃ b, b = a0 + (a1 - a0) * max u v / 255 := ⟨_, rfl⟩
    have hw : Wi (b0, b1) (a0, a1) := by unfold Wi; simp only; omega
    have okb : okB la lo zo (b0, b1) = true := by
      unfold okB at ok ⊢
      simp only [Bool.and_eq_true] at ok ⊢
      exact ⟨ok.1, decide_eq_true (by unfold Wi at hw; simp only at hw; omega)⟩
    have S1 := fun W te => set_any la lo zo (a0, a1) day W te
    have S2 := fun W te => set_any la lo zo (b0, b1) day W te
    have N1 := fun W te tm => Night_any la lo zo (a0, a1) day W te tm
    have N2 := fun W te tm => Night_any la lo zo (b0, b1) day W te tm
    have e1 : erE la lo zo (b0, b1) day 40000 = erE la lo zo (a0, a1) day 40000 := by unfold erE; rw [ok, okb]
    have e2 : erE la lo zo (b0, b1) day 39999 = erE la lo zo (a0, a1) day 39999 := by unfold erE; rw [ok, okb]
    rw [e1] at S2
    rw [e2] at N2
    have NB : ∀ alt, okB la lo zo alt = true → (-1000000000000 ≤ (ntP la lo zo alt day).1 ∧ (ntP la lo zo alt day).1 ≤ 1000000000000) ∧ (-1000000000000 ≤ (ntP la lo zo alt day).2 ∧ (ntP la lo zo alt day).2 ≤ 1000000000000) := by
      intro alt hk
      unfold ntP
      cases f : frB day 0 39999
      · simp
      · rw [hk]
        have := frB_yes f
        exact ni_bd hk this.1 this.2
    have NF : ((ntP la lo zo (b0, b1) day).1 = 0 ∧ (ntP la lo zo (b0, b1) day).2 = 0 ∧ 0 ≤ (ntP la lo zo (a0, a1) day).2 - (ntP la lo zo (a0, a1) day).1) ∨ (¬ (ntP la lo zo (b0, b1) day).1 = 0 ∧ (ntP la lo zo (a0, a1) day).1 ≤ (ntP la lo zo (b0, b1) day).1 ∧ (ntP la lo zo (b0, b1) day).2 ≤ (ntP la lo zo (a0, a1) day).2 ∧ (ntP la lo zo (b0, b1) day).2 - (ntP la lo zo (b0, b1) day).1 ≤ (ntP la lo zo (a0, a1) day).2 - (ntP la lo zo (a0, a1) day).1) ∨ ((ntP la lo zo (b0, b1) day).1 = 0 ∧ ¬ (ntP la lo zo (b0, b1) day).2 = 0 ∧ (ntP la lo zo (a0, a1) day).1 ≤ 0 ∧ (ntP la lo zo (b0, b1) day).2 ≤ (ntP la lo zo (a0, a1) day).2 ∧ (ntP la lo zo (b0, b1) day).2 ≤ (ntP la lo zo (a0, a1) day).2 - (ntP la lo zo (a0, a1) day).1) := by
      unfold ntP
      rw [ok, okb]
      cases f : frB day 0 39999
      · simp
      · have fd := frB_yes f
        have nw := night_wi (zo := zo) g1.1 g1.2 fd.1 (show day ≤ 40000 by omega) g2.1 g2.2 ha hw
        simp only [Bool.true_and, if_true]
        obtain ⟨x, y⟩ := nw
        rcases x with x | ⟨x1, x2⟩
        · exact Or.inl ⟨by rw [x], by rw [x], by rw [x] at y; simpa using y⟩
        · omega
    have B1 := NB _ ok
    have B2 := NB _ okb
    generalize ntP la lo zo (a0, a1) day = m at *
    generalize ntP la lo zo (b0, b1) day = n at *
    obtain ⟨m0, m1⟩ := m
    obtain ⟨n0, n1⟩ := n
    simp only at NF B1 B2
    have K := pa_wi (rise := false) g1.1 g1.2 (day := day) (lon := lo) (a := (a0, a1)) (b := (b0, b1))
    cases hx : frB day 0 40000
    · have X : erE la lo zo (a0, a1) day 40000 = 7 := by unfold erE; rw [ok, hx]; rfl
      exact narrow_e ea la lo zo a0 a1 b0 b1 day u v _ _ _ _ _ _ _ _ m0 m1 n0 n1 w td te tm (Lib.hid C1) u0 u1 v0 v1 g4 eb0 eb1 (Lib.hid S1) (Lib.hid S2) (Lib.hid N1) (Lib.hid N2) B1 B2 NF X
    · have X : erE la lo zo (a0, a1) day 40000 = 0 := by unfold erE; rw [ok, hx]; rfl
      have fd := frB_yes hx
      have K := K fd.1 (by omega) g2.1 g2.2 ha hw
      have k1 : psK la lo zo (a0, a1) day false = (paM (a0, a1) la lo day false).1 := by unfold psK; rw [ok, hx]; rfl
      have k2 : psK la lo zo (b0, b1) day false = (paM (b0, b1) la lo day false).1 := by unfold psK; rw [okb, hx]; rfl
      by_cases hk : psK la lo zo (a0, a1) day false = 0
      · obtain ⟨l0, lw⟩ := K.pass (k1 ▸ hk)
        have p1 : psP la lo zo (a0, a1) day false = loP zo day (paM (a0, a1) la lo day false).2 := by unfold psP; rw [ok, hx, if_pos (show (true && true) = true from rfl), if_pos (k1 ▸ hk)]
        have p2 : psP la lo zo (b0, b1) day false = loP zo day (paM (b0, b1) la lo day false).2 := by unfold psP; rw [okb, hx, if_pos (show (true && true) = true from rfl), if_pos l0]
        have wi : (psP la lo zo (a0, a1) day false).1 ≤ (psP la lo zo (b0, b1) day false).1 ∧ (psP la lo zo (b0, b1) day false).2 ≤ (psP la lo zo (a0, a1) day false).2 := by
          rw [p1, p2]
          unfold Wi at lw
          unfold loP adP onP
          simp only
          omega
        have WI := win_T (psP la lo zo (b0, b1) day false) (psP la lo zo (a0, a1) day false) wi.1 wi.2
        exact narrow_w ea la lo zo a0 a1 b0 b1 day u v _ _ _ _ _ _ _ _ m0 m1 n0 n1 w td te tm (Lib.hid C1) u0 u1 v0 v1 g4 eb0 eb1 (Lib.hid S1) (Lib.hid S2) (Lib.hid N1) (Lib.hid N2) B1 B2 NF X hk (k2.trans l0) (Lib.hid WI)
      · exact narrow_k ea la lo zo a0 a1 b0 b1 day u v _ _ _ _ _ _ _ _ m0 m1 n0 n1 w td te tm (Lib.hid C1) u0 u1 v0 v1 g4 eb0 eb1 (Lib.hid S1) (Lib.hid S2) (Lib.hid N1) (Lib.hid N2) B1 B2 NF X (by simp [hk])
end Go.Proofs.YtjcgojbfjefbcaaDoor
