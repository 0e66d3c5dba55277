/- Root of the code. -/
import Derived.Test.YtdikelijnachjaaDoorRoo
import Derived.Test.YtdikelijnachjaaDoorWarc
import Derived.Deep.DrawnRows
namespace Go.Proofs.YtdikelijnachjaaDoor
set_option linter.unusedSimpArgs false
set_option linter.unusedVariables false
open Go.RowKit SineNear
attribute [local go_sem ↓] Go.wp_at_zero Go.wp_at_succ

theorem rt_mono {a b : Int} (h0 : 0 ≤ a) (h : a ≤ b) : rt a ≤ rt b := by
  obtain ⟨a0, a1, a2⟩ := rt_is h0
  obtain ⟨b0, b1, b2⟩ := rt_is (show 0 ≤ b by omega)
  by_cases c : rt a ≤ rt b
  · exact c
  · have := (sq_bd (show 0 ≤ rt b + 1 by omega) (show rt b + 1 ≤ rt a by omega)).2; omega
theorem rtU_is {a : Int} (h0 : 0 ≤ a) : rt a ≤ rtU a ∧ rtU a ≤ rt a + 1 ∧ a ≤ rtU a * rtU a ∧ (rtU a = 0 ∨ (rtU a - 1) * (rtU a - 1) < a) := by
  obtain ⟨a0, a1, a2⟩ := rt_is h0
  unfold rtU
  split
  · refine ⟨by omega, by omega, by omega, ?_⟩
    by_cases c : rt a = 0
    · exact .inl c
    · right
      have e : (rt a - 1) * (rt a - 1) = rt a * rt a - 2 * rt a + 1 := by simp only [Int.sub_mul, Int.mul_sub]; omega
      omega
  · refine ⟨by omega, by omega, by omega, .inr ?_⟩
    rw [Int.add_sub_cancel]
    omega
theorem rtU_mono {a b : Int} (h0 : 0 ≤ a) (h : a ≤ b) : rtU a ≤ rtU b := by
  obtain ⟨a0, a1, a2, a3⟩ := rtU_is h0
  obtain ⟨b0, b1, b2, b3⟩ := rtU_is (show 0 ≤ b by omega)
  have rb := (rt_is (show 0 ≤ b by omega)).1
  by_cases c : rtU a ≤ rtU b
  · exact c
  · exfalso
    rcases a3 with h1 | h1
    · omega
    · have := (sq_bd (show 0 ≤ rtU b by omega) (show rtU b ≤ rtU a - 1 by omega)).2; omega

set_option maxRecDepth 100000 in
set_option maxHeartbeats 1000000 in
theorem rootA_yes (lo hi : Int) (w : World) (h : inB lo hi 0 3000000000 = true) :
    Calls Tryd.prog 28 #[encl lo hi] w fun e w' => e = .returned (enclE (rt (lo * 100000000)) (rtU (hi * 100000000)) 0) ∧ Own w.heap.size w w' := by
  obtain ⟨i1, i2, i3⟩ := inB_bd h
  have hw1 : IntKind.i64.wrap (lo * 100000000) = lo * 100000000 := IntWalk.i64_in _ (by omega)
  have hw2 : IntKind.i64.wrap (hi * 100000000) = hi * 100000000 := IntWalk.i64_in _ (by omega)
  have m1 := rt_mono (show 0 ≤ lo * 100000000 by omega) (show lo * 100000000 ≤ hi * 100000000 by omega)
  have m2 := rtU_mono (show 0 ≤ lo * 100000000 by omega) (show lo * 100000000 ≤ hi * 100000000 by omega)
  have J1 : jLo (rt (lo * 100000000)) (fun _ => rt (hi * 100000000)) 1 = rt (lo * 100000000) := by
    show (if _ < _ then _ else _) = _
    rw [if_neg (by show ¬ rt (hi * 100000000) < rt (lo * 100000000); omega)]; rfl
  have J2 : jHi (rtU (lo * 100000000)) (fun _ => rtU (hi * 100000000)) 1 = rtU (hi * 100000000) := by
    show (if rtU (lo * 100000000) < rtU (hi * 100000000) then rtU (hi * 100000000) else rtU (lo * 100000000)) = _
    split <;> omega
  have JJ : ∀ (b : Nat) (w : World) (hb : b < w.heap.size) (hf : w.cell? ⟨b, 0, none⟩ = some (.int .i64 (rt (hi * 100000000)))) (hg : w.cell? ⟨b, 1, none⟩ = some (.int .i64 (rtU (hi * 100000000)))),
      Calls Tryd.prog 55 #[encl (rt (lo * 100000000)) (rtU (lo * 100000000)), .slice (some ⟨b, 0, none⟩) 1 1] w fun e w' => e = .returned (encl (rt (lo * 100000000)) (rtU (hi * 100000000))) ∧ Own w.heap.size w w' := by
    intro b w hb hf hg
    have := join_any (rt (lo * 100000000)) (rtU (lo * 100000000)) 1 b (fun _ => rt (hi * 100000000)) (fun _ => rtU (hi * 100000000)) w (by omega) hb (fun j hj => by (obtain rfl : j = 0 := by omega); exact hf) (fun j hj => by (obtain rfl : j = 0 := by omega); exact hg)
    rw [J1, J2] at this
    exact this
  have HJ := Lib.hid JJ
  clear m1 m2 J1 J2 JJ
  go_enter Tryd.func28, Tryd.ntmps28
  go_wp2_with fail
  refine (isWithin_any lo hi 0 3000000000 _).mono ?_
  rintro e w1 ⟨rfl, hb1⟩
  obtain ⟨hc, hf⟩ := bcell hb1
  have hz1 : w.heap.size + 1 < w1.heap.size := by have := hb1.size; simp at this; omega
  have hbw : Own w.heap.size w w1 := (((Own.refl _ _).alloc (Nat.le_refl _) _).alloc (by simp) _).trans (hb1.mono (by simp; omega))
  have hS : Kp4 w w.heap.size (w.heap.size + 1) lo hi w1 := by
    refine ⟨?_, ?_, rd_of (n := 0) ?_, rd_of (n := 0) ?_, ?_, ?_, ⟨by omega, hz1⟩, hbw⟩ <;> simp [hc, hf, go_sem]
  rw [h]
  go_wp2_with fail
  clear hc hf
  go_region_held3 (fun w' => w'.cell? ⟨w.heap.size, 0, none⟩ = some (.int .i64 lo) ∧ w'.cell? ⟨w.heap.size, 1, none⟩ = some (.int .i64 hi) ∧ w'.cell? ⟨w.heap.size + 1, 0, none⟩ = some (.int .i64 (rd w' (w.heap.size + 1) 0)) ∧ w'.cell? ⟨w.heap.size + 1, 1, none⟩ = some (.int .i64 (rd w' (w.heap.size + 1) 1)) ∧ w'.frozen? ⟨w.heap.size + 1, 0, none⟩ = false ∧ w'.frozen? ⟨w.heap.size + 1, 1, none⟩ = false ∧ (w.heap.size < w'.heap.size ∧ w.heap.size + 1 < w'.heap.size) ∧ Own w.heap.size w w')
    (first | exact Kp4.call hS (Own.refl _ _).drew | (refine Kp4.call ?_ hbq; assumption) | (refine Kp4.call ?_ hbj; assumption) | (refine Kp4.call ?_ ((Own.refl _ _).alloc (Nat.le_refl _) _); assumption) | (refine Kp4.store ?_ (by omega) (by omega) _ _; assumption))
    (first | (go_at_call 56; (with_reducible refine (root_any _ _ ?_ ?_).mono ?_); omega; omega; rintro e wq ⟨rfl, hbq⟩; have hcq := (bcell hbq).1; have hzq := hbq.size) | (go_at_call 55; refine Calls.mono (HJ.out _ _ ?c1 ?c2 ?c3) ?c4; (case c1 => (first | (simp; done) | (simp at hzq ⊢; omega))); (case c2 => simp [go_sem, hcq]); (case c3 => simp [go_sem, hcq]); rintro e wj ⟨rfl, hbj⟩; have kj : Kp4 w w.heap.size (w.heap.size + 1) lo hi wj := by (refine Kp4.call ?_ hbj; assumption)))
  all_goals go_wp2
  all_goals
    obtain ⟨_, _, k2, k3, k4, k5, _, k6⟩ := kj
    refine bodyPost_ret (v := enclE (rt (lo * 100000000)) (rtU (hi * 100000000)) 0) (by simp [results, Tryd.results28, go_sem, k2, k3]) rfl ⟨rfl, ?_⟩
    exact (k6.setCell (by simp) _).setCell (by simp) _

set_option maxHeartbeats 400000 in
theorem rootA_no (lo hi : Int) (w : World) (h : inB lo hi 0 3000000000 = false) :
    Calls Tryd.prog 28 #[encl lo hi] w fun e w' => e = .returned (enclE 0 0 7) ∧ Own w.heap.size w w' := by
  go_enter Tryd.func28, Tryd.ntmps28
  go_wp2_with fail
  refine (isWithin_any lo hi 0 3000000000 _).mono ?_
  rintro e w1 ⟨rfl, hb1⟩
  obtain ⟨hc, hf⟩ := bcell hb1
  have hz1 : w.heap.size + 1 < w1.heap.size := by have := hb1.size; simp at this; omega
  have hbw : Own w.heap.size w w1 := (((Own.refl _ _).alloc (Nat.le_refl _) _).alloc (by simp) _).trans (hb1.mono (by simp; omega))
  rw [h]
  go_wp2_with fail
  refine bodyPost_ret (v := enclE 0 0 7) (by simp [results, Tryd.results28, go_sem, hc]) rfl ⟨rfl, ?_⟩
  exact (hbw.setCell (by simp) _).setCell (by simp) _

/-- what Root returns -/
noncomputable def roLo (lo hi : Int) : Int := if inB lo hi 0 3000000000 then rt (lo * 100000000) else 0
noncomputable def roHi (lo hi : Int) : Int := if inB lo hi 0 3000000000 then rtU (hi * 100000000) else 0
def roE (lo hi : Int) : Int := if inB lo hi 0 3000000000 then 0 else 7
theorem rootA_any (lo hi : Int) : Ret1 28 #[encl lo hi] (enclE (roLo lo hi) (roHi lo hi) (roE lo hi)) := by
  intro w
  unfold roLo roHi roE
  cases h : inB lo hi 0 3000000000
  · rw [if_neg (by decide), if_neg (by decide), if_neg (by decide)]; exact rootA_no lo hi w h
  · rw [if_pos rfl, if_pos rfl, if_pos rfl]; exact rootA_yes lo hi w h
end Go.Proofs.YtdikelijnachjaaDoor
