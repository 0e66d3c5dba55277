/- The reference's arithmetic: what it asks of its arguments. -/
import Derived.Test.YtdikelijnachjaaDoorAri
import Derived.Deep.QuietTactic
namespace Go.Proofs.YtdikelijnachjaaDoor
set_option linter.unusedSimpArgs false
set_option linter.unusedVariables false
open Go.RowKit SineNear

theorem own_dN {B : Nat} {a w : World} (h : Own B a w) (n : Nat) : Own B a (w.drewN n) := ⟨⟨h.below.os, h.below.tape, h.below.output, h.below.size, h.below.block⟩, Nat.le_trans h.drawn (Nat.le_add_right _ _)⟩

theorem valB_parts (a b : Int) : (valB a b = true ∧ ¬ b < a ∧ ¬ a < -3000000000 ∧ ¬ 3000000000 < b) ∨ (valB a b = false ∧ b < a) ∨ (valB a b = false ∧ ¬ b < a ∧ a < -3000000000) ∨ (valB a b = false ∧ ¬ b < a ∧ ¬ a < -3000000000 ∧ 3000000000 < b) := by
  have h : valB a b = decide (-3000000000 ≤ a ∧ a ≤ b ∧ b ≤ 3000000000) := rfl
  rw [h]
  by_cases c : -3000000000 ≤ a ∧ a ≤ b ∧ b ≤ 3000000000
  · exact .inl ⟨decide_eq_true c, by omega, by omega, by omega⟩
  · rw [decide_eq_false c]
    have : b < a ∨ (¬ b < a ∧ a < -3000000000) ∨ (¬ b < a ∧ ¬ a < -3000000000 ∧ 3000000000 < b) := by omega
    rcases this with h | h | h
    · exact .inr (.inl ⟨rfl, h⟩)
    · exact .inr (.inr (.inl ⟨rfl, h⟩))
    · exact .inr (.inr (.inr ⟨rfl, h⟩))

set_option maxRecDepth 100000 in
set_option maxHeartbeats 1000000 in
theorem valued_any (n c b : Nat) (f g : Nat → Int) (E : Int) (w : World) (hn : n ≤ 10) (hn0 : 0 < n) (hb : b < w.heap.size)
    (hf : ∀ j, j < n → w.cell? ⟨b, j*2, none⟩ = some (.int .i64 (f j))) (hg : ∀ j, j < n → w.cell? ⟨b, j*2+1, none⟩ = some (.int .i64 (g j)))
    (hE : (E = 0 ∧ ∀ j, j < n → valB (f j) (g j) = true) ∨ (E = 7 ∧ ∃ j, j < n ∧ valB (f j) (g j) = false)) :
    Calls Tryd.prog 57 #[.slice (some ⟨b, 0, none⟩) n c] w fun e w' => e = .returned (.int .i64 E) ∧ Own w.heap.size w w' := by
  have HE := Lib.hid hE
  clear hE
  go_enter Tryd.func57, Tryd.ntmps57
  go_wp2_with fail
  go_loopw [3] (fun i wr => ∃ k : Nat, k ≤ n ∧ i = .int .i64 k ∧ Own w.heap.size w wr ∧ ∀ j, j < k → valB (f j) (g j) = true) (fun i _ => n - (intOf i).toNat)
  case atStart => exact ⟨0, by omega, rfl, Own.refl _ _, fun j hj => by omega⟩
  case round =>
    obtain ⟨k, hk, rfl, hbw, hall⟩ := hrel
    have HA := Lib.hid hall
    clear hall
    by_cases hlt : k < n
    · have e1 : wr.cell? ⟨b, k*2, none⟩ = some (.int .i64 (f k)) := by rw [hbw.cell (p := ⟨b, k*2, none⟩) hb]; exact hf k hlt
      have e2 : wr.cell? ⟨b, k*2+1, none⟩ = some (.int .i64 (g k)) := by rw [hbw.cell (p := ⟨b, k*2+1, none⟩) hb]; exact hg k hlt
      have i0 : (0 : Int) ≤ (k : Int) := by omega
      have i1 : (k : Int) < (n : Int) := by omega
      clear hf hg
      rcases valB_parts (f k) (g k) with ⟨v, v1, v2, v3⟩ | ⟨v, v1⟩ | ⟨v, v1, v2⟩ | ⟨v, v1, v2, v3⟩
      · have HV := Lib.hid v
        clear v
        go_wp2_with fail
        have d1 : decide (g k < f k) = false := decide_eq_false (by omega)
        have d2 : decide (f k < -3000000000) = false := decide_eq_false (by omega)
        have d3 : decide (3000000000 < g k) = false := decide_eq_false (by omega)
        go_quiet (fail)
        clear d1 d2 d3
        go_wp2_with fail
        go_roundw
        case rel => exact ⟨k + 1, by omega, by go_num, own_dN hbw _, fun j hj => by
          by_cases c : j = k
          · rw [c]; exact HV.out
          · exact HA.out j (by omega)⟩
        case measure => simp [intOf]; omega
      · have hr : E = 7 := by
          rcases HE.out with ⟨h1, h2⟩ | ⟨h1, _⟩
          · have := h2 k hlt; rw [v] at this; cases this
          · exact h1
        clear v
        subst hr
        go_wp2_with fail
        have d1 : decide (g k < f k) = true := decide_eq_true (by omega)
        go_quiet (fail)
        clear d1
        go_wp2_with fail
        go_ret
        exact ⟨rfl, own_dN hbw _⟩
      · have hr : E = 7 := by
          rcases HE.out with ⟨h1, h2⟩ | ⟨h1, _⟩
          · have := h2 k hlt; rw [v] at this; cases this
          · exact h1
        clear v
        subst hr
        go_wp2_with fail
        have d1 : decide (g k < f k) = false := decide_eq_false (by omega)
        have d2 : decide (f k < -3000000000) = true := decide_eq_true (by omega)
        go_quiet (fail)
        clear d1 d2
        go_wp2_with fail
        go_ret
        exact ⟨rfl, own_dN hbw _⟩
      · have hr : E = 7 := by
          rcases HE.out with ⟨h1, h2⟩ | ⟨h1, _⟩
          · have := h2 k hlt; rw [v] at this; cases this
          · exact h1
        clear v
        subst hr
        go_wp2_with fail
        have d1 : decide (g k < f k) = false := decide_eq_false (by omega)
        have d2 : decide (f k < -3000000000) = false := decide_eq_false (by omega)
        have d3 : decide (3000000000 < g k) = true := decide_eq_true (by omega)
        go_quiet (fail)
        clear d1 d2 d3
        go_wp2_with fail
        go_ret
        exact ⟨rfl, own_dN hbw _⟩
    · obtain rfl : k = n := by omega
      have hr : E = 0 := by
        rcases HE.out with ⟨h1, _⟩ | ⟨_, j, h2, h3⟩
        · exact h1
        · have := HA.out j h2; rw [h3] at this; cases this
      subst hr
      go_wp2_with fail
      go_ret
      exact ⟨rfl, hbw⟩

/-- of one enclosure, and of two, in a list of the call's own -/
theorem valued_one (l h : Int) (b c : Nat) (w : World) (hb : b < w.heap.size) (h0 : w.cell? ⟨b, 0, none⟩ = some (.int .i64 l)) (h1 : w.cell? ⟨b, 1, none⟩ = some (.int .i64 h)) :
    Calls Tryd.prog 57 #[.slice (some ⟨b, 0, none⟩) 1 c] w fun e w' => e = .returned (.int .i64 (vE l h)) ∧ Own w.heap.size w w' := by
  refine valued_any 1 c b (fun _ => l) (fun _ => h) (vE l h) w (by omega) (by omega) hb (fun j hj => by (obtain rfl : j = 0 := by omega); exact h0) (fun j hj => by (obtain rfl : j = 0 := by omega); exact h1) ?_
  unfold vE
  cases hv : valB l h
  · exact .inr ⟨rfl, 0, by omega, rfl⟩
  · exact .inl ⟨rfl, fun _ _ => rfl⟩
def arE (x0 x1 y0 y1 : Int) : Int := if valB x0 x1 && valB y0 y1 then 0 else 7
theorem valued_two (x0 x1 y0 y1 : Int) (b c : Nat) (w : World) (hb : b < w.heap.size) (h0 : w.cell? ⟨b, 0, none⟩ = some (.int .i64 x0)) (h1 : w.cell? ⟨b, 1, none⟩ = some (.int .i64 x1)) (h2 : w.cell? ⟨b, 2, none⟩ = some (.int .i64 y0)) (h3 : w.cell? ⟨b, 3, none⟩ = some (.int .i64 y1)) :
    Calls Tryd.prog 57 #[.slice (some ⟨b, 0, none⟩) 2 c] w fun e w' => e = .returned (.int .i64 (arE x0 x1 y0 y1)) ∧ Own w.heap.size w w' := by
  refine valued_any 2 c b (fun j => match j with | 0 => x0 | _ => y0) (fun j => match j with | 0 => x1 | _ => y1) (arE x0 x1 y0 y1) w (by omega) (by omega) hb ?_ ?_ ?_
  · intro j hj
    have : j = 0 ∨ j = 1 := by omega
    rcases this with rfl | rfl
    · exact h0
    · exact h2
  · intro j hj
    have : j = 0 ∨ j = 1 := by omega
    rcases this with rfl | rfl
    · exact h1
    · exact h3
  · unfold arE
    cases hx : valB x0 x1 <;> cases hy : valB y0 y1
    · exact .inr ⟨rfl, 0, by omega, hx⟩
    · exact .inr ⟨rfl, 0, by omega, hx⟩
    · exact .inr ⟨rfl, 1, by omega, hy⟩
    · refine .inl ⟨rfl, fun j hj => ?_⟩
      have : j = 0 ∨ j = 1 := by omega
      rcases this with rfl | rfl
      · exact hx
      · exact hy

set_option maxHeartbeats 1000000 in
theorem result_any (l h : Int) : Ret1 59 #[.int .i64 l, .int .i64 h] (resE l h) := by
  intro w
  have V := Lib.hid (valued_one l h)
  unfold vE at V
  cases hv : valB l h
  · rw [hv] at V
    have e : resE l h = enclE 0 0 7 := by simp [resE, vLo, vHi, vE, hv]
    rw [e]
    go_enter Tryd.func59, Tryd.ntmps59
    go_wp2_with fail
    refine Calls.mono (V.out _ _ _ ?c1 ?c2 ?c3) ?c4
    case c1 => simp
    case c2 => simp [go_sem]
    case c3 => simp [go_sem]
    rintro e' w1 ⟨rfl, hb1⟩
    obtain ⟨hc, hf⟩ := bcell hb1
    have hz1 : w.heap.size + 1 + 1 < w1.heap.size := by have := hb1.size; simp at this; omega
    have z1 : w.heap.size < w1.heap.size := by omega
    have hbw : Own w.heap.size w w1 := ((((Own.refl _ _).alloc (Nat.le_refl _) _).alloc (by simp) _).alloc (by simp; omega) _).trans (hb1.mono (by simp; omega))
    have c0 : w1.cell? ⟨w.heap.size, 0, none⟩ = some (.int .i64 0) := by rw [hc _ _ (by simp; omega)]; simp [go_sem]
    have c1 : w1.cell? ⟨w.heap.size, 1, none⟩ = some (.int .i64 0) := by rw [hc _ _ (by simp; omega)]; simp [go_sem]
    have f0 : w1.frozen? ⟨w.heap.size, 0, none⟩ = false := by rw [hf _ _ (by simp; omega)]; simp [go_sem]
    have f1 : w1.frozen? ⟨w.heap.size, 1, none⟩ = false := by rw [hf _ _ (by simp; omega)]; simp [go_sem]
    clear hc hf
    go_wp2_with fail
    refine bodyPost_ret (v := enclE 0 0 7) (by simp [results, Tryd.results59, go_sem, c0, c1]) rfl ⟨rfl, ?_⟩
    exact (hbw.setCell (by simp) _).setCell (by simp) _
  · rw [hv] at V
    have e : resE l h = enclE l h 0 := by simp [resE, vLo, vHi, vE, hv]
    rw [e]
    go_enter Tryd.func59, Tryd.ntmps59
    go_wp2_with fail
    refine Calls.mono (V.out _ _ _ ?d1 ?d2 ?d3) ?d4
    case d1 => simp
    case d2 => simp [go_sem]
    case d3 => simp [go_sem]
    rintro e' w1 ⟨rfl, hb1⟩
    obtain ⟨hc, hf⟩ := bcell hb1
    have hz1 : w.heap.size + 1 + 1 < w1.heap.size := by have := hb1.size; simp at this; omega
    have z1 : w.heap.size < w1.heap.size := by omega
    have z2 : w.heap.size + 1 < w1.heap.size := by omega
    have hbw : Own w.heap.size w w1 := ((((Own.refl _ _).alloc (Nat.le_refl _) _).alloc (by simp) _).alloc (by simp; omega) _).trans (hb1.mono (by simp; omega))
    have c0 : w1.cell? ⟨w.heap.size, 0, none⟩ = some (.int .i64 0) := by rw [hc _ _ (by simp; omega)]; simp [go_sem]
    have c1 : w1.cell? ⟨w.heap.size, 1, none⟩ = some (.int .i64 0) := by rw [hc _ _ (by simp; omega)]; simp [go_sem]
    have f0 : w1.frozen? ⟨w.heap.size, 0, none⟩ = false := by rw [hf _ _ (by simp; omega)]; simp [go_sem]
    have f1 : w1.frozen? ⟨w.heap.size, 1, none⟩ = false := by rw [hf _ _ (by simp; omega)]; simp [go_sem]
    have g0 : w1.cell? ⟨w.heap.size + 1, 0, none⟩ = some (.int .i64 l) := by rw [hc _ _ (by simp)]; simp [go_sem]
    have g1 : w1.cell? ⟨w.heap.size + 1, 1, none⟩ = some (.int .i64 h) := by rw [hc _ _ (by simp)]; simp [go_sem]
    clear hc hf
    go_wp2_with fail
    refine bodyPost_ret (v := enclE l h 0) (by simp [results, Tryd.results59, go_sem, c0, c1]) rfl ⟨rfl, ?_⟩
    exact (hbw.setCell (by simp) _).setCell (by simp) _

set_option maxHeartbeats 400000 in
theorem rdown_any (a b : Int) (w : World) (hb : 0 < b) (hb1 : b ≤ 9100000000000000000) (h0 : -9100000000000000000 ≤ a) (h1 : a ≤ 9100000000000000000) :
    Calls Tryd.prog 88 #[.int .i64 a, .int .i64 b] w fun e w' => e = .returned (.int .i64 (a / b)) ∧ w = w' := by
  by_cases ha : 0 ≤ a
  · obtain ⟨q, r, e1, e2, e3, e4, _⟩ := pos_parts a b hb
    have b1 := q_bd a b hb h0 h1
    rw [e1] at b1
    have hr : ¬ a < 0 := by omega
    have H1 : Hid (a / b = q) := e1
    clear e1
    go_enter Tryd.func88, Tryd.ntmps88
    go_wp2
    go_ret
    exact ⟨rfl, rfl⟩
  · obtain ⟨q, r, e1, e2, e3, e4, e5, e6⟩ := neg_parts a b hb
    have b1 := q_bd a b hb h0 h1
    have t1 : a.tdiv b = -q := by rw [← e1, ← Int.tdiv_eq_ediv_of_nonneg (by omega), Int.neg_tdiv, Int.neg_neg]
    have t2 : a.tmod b = -r := by rw [← e2, ← Int.tmod_eq_emod_of_nonneg (by omega), Int.neg_tmod, Int.neg_neg]
    have hne : b ≠ 0 := by omega
    have hlt : a < 0 := by omega
    rw [e6] at b1 ⊢
    clear e1 e2 e5 e6
    by_cases hr : 0 < r
    · rw [if_pos hr] at b1 ⊢
      have hn : (-r == 0) = false := beq_no (by omega)
      go_enter Tryd.func88, Tryd.ntmps88
      go_wp2
      all_goals go_ret
      all_goals exact ⟨rfl, rfl⟩
    · rw [if_neg hr] at b1 ⊢
      obtain rfl : r = 0 := by omega
      go_enter Tryd.func88, Tryd.ntmps88
      go_wp2
      go_ret
      exact ⟨rfl, rfl⟩

set_option maxHeartbeats 400000 in
theorem negative_any (l h : Int) (h0 : -9100000000000000000 ≤ l) (h1 : l ≤ 9100000000000000000) (h2 : -9100000000000000000 ≤ h) (h3 : h ≤ 9100000000000000000) : Ret1 69 #[encl l h] (encl (-h) (-l)) := by
  intro w
  go_enter Tryd.func69, Tryd.ntmps69
  go_wp2
  refine bodyPost_ret (v := encl (-h) (-l)) (by simp [results, Tryd.results69, go_sem]) rfl ⟨rfl, ?_⟩
  exact ((Own.refl _ _).alloc (Nat.le_refl _) _).alloc (by simp) _
end Go.Proofs.YtdikelijnachjaaDoor
