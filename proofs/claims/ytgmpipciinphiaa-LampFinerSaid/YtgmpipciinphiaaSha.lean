/- Share of the code: Join of two and of four, the squares of a span. -/
import Derived.Test.YtgmpipciinphiaaShm
import Derived.RegionTactic
import Derived.Deep.RegionHeld3
import Derived.Deep.DeepCutAuto
import Derived.Deep.DrawnRows
namespace Go.Proofs.Ytgmpipciinphiaa
set_option linter.unusedSimpArgs false
set_option linter.unusedVariables false
open Go.RowKit
attribute [local go_sem ↓] Go.wp_at_zero Go.wp_at_succ

theorem jLo_min (l : Int) (f : Nat → Int) (n : Nat) : jLo l f (n + 1) = min (jLo l f n) (f n) := by
  show (if f n < jLo l f n then f n else jLo l f n) = _
  split <;> omega
theorem jHi_max (l : Int) (f : Nat → Int) (n : Nat) : jHi l f (n + 1) = max (jHi l f n) (f n) := by
  show (if jHi l f n < f n then f n else jHi l f n) = _
  split <;> omega
theorem join1 (l h x y : Int) (g : Nat) (w : World) (hg : g < w.heap.size) (c0 : w.cell? ⟨g, 0, none⟩ = some (.int .i64 x)) (c1 : w.cell? ⟨g, 1, none⟩ = some (.int .i64 y)) :
    Calls Try.prog 87 #[.agg #[.int .i64 l, .int .i64 h], .slice (some ⟨g, 0, none⟩) 1 1] w fun e w' => e = .returned (.agg #[.int .i64 (min l x), .int .i64 (max h y)]) ∧ Own w.heap.size w w' := by
  have := join_off l h 1 1 g 0 (fun _ => x) (fun _ => y) w (by decide) hg (fun j hj => by obtain rfl : j = 0 := by omega
                                                                                          exact c0) (fun j hj => by obtain rfl : j = 0 := by omega
                                                                                                                    exact c1)
  have e0 : jLo l (fun _ => x) 1 = min l x := by unfold jLo jLo; split <;> omega
  have e1 : jHi h (fun _ => y) 1 = max h y := by unfold jHi jHi; split <;> omega
  rw [e0, e1] at this
  exact this
/-- the third number of a list of three, and so on -/
def of3 (x y z : Int) : Nat → Int
  | 0 => x
  | 1 => y
  | _ => z
theorem join3 (l h x0 y0 x1 y1 x2 y2 : Int) (g : Nat) (w : World) (hg : g < w.heap.size) (c0 : w.cell? ⟨g, 0, none⟩ = some (.int .i64 x0)) (c1 : w.cell? ⟨g, 1, none⟩ = some (.int .i64 y0))
    (c2 : w.cell? ⟨g, 2, none⟩ = some (.int .i64 x1)) (c3 : w.cell? ⟨g, 3, none⟩ = some (.int .i64 y1)) (c4 : w.cell? ⟨g, 4, none⟩ = some (.int .i64 x2)) (c5 : w.cell? ⟨g, 5, none⟩ = some (.int .i64 y2)) :
    Calls Try.prog 87 #[.agg #[.int .i64 l, .int .i64 h], .slice (some ⟨g, 0, none⟩) 3 3] w fun e w' => e = .returned (.agg #[.int .i64 (min (min (min l x0) x1) x2), .int .i64 (max (max (max h y0) y1) y2)]) ∧ Own w.heap.size w w' := by
  have := join_off l h 3 3 g 0 (of3 x0 x1 x2) (of3 y0 y1 y2) w (by decide) hg (fun j hj => by
    rcases (show j = 0 ∨ j = 1 ∨ j = 2 by omega) with rfl | rfl | rfl
    · exact c0
    · exact c2
    · exact c4) (fun j hj => by
    rcases (show j = 0 ∨ j = 1 ∨ j = 2 by omega) with rfl | rfl | rfl
    · exact c1
    · exact c3
    · exact c5)
  have e0 : jLo l (of3 x0 x1 x2) 3 = min (min (min l x0) x1) x2 := by rw [jLo_min, jLo_min, jLo_min]; rfl
  have e1 : jHi h (of3 y0 y1 y2) 3 = max (max (max h y0) y1) y2 := by rw [jHi_max, jHi_max, jHi_max]; rfl
  rw [e0, e1] at this
  exact this

/-- a new box behind a call, a new row, and a call -/
theorem box2 {X W1 W2 : World} {o : Obj} {t : TypeId} (h1 : Own (X.alloc (.cells #[.int .i64 0, .int .i64 0] t)).heap.size (X.alloc (.cells #[.int .i64 0, .int .i64 0] t)) W1) (h2 : Own (W1.alloc o).heap.size (W1.alloc o) W2) : Bq X.heap.size 0 0 W2 :=
  (((Bq.fresh X 0 0 t).keep h1.below (by simp)).keep (below_new W1 o) (by have := h1.size; simp at this; omega)).keep h2.below (by have := h1.size; simp at this; simp; omega)

theorem box3 {W1 W2 : World} {o : Obj} {t : TypeId} (h2 : Own ((W1.alloc o).alloc (.cells #[.int .i64 0, .int .i64 0] t)).heap.size ((W1.alloc o).alloc (.cells #[.int .i64 0, .int .i64 0] t)) W2) : Bq (W1.heap.size + 1) 0 0 W2 := by
  have h := (Bq.fresh (W1.alloc o) 0 0 t).keep h2.below (by simp)
  simpa using h
theorem box4 {X W1 W2 W3 : World} {o : Obj} {t : TypeId} (h1 : Own (X.drew.alloc (.cells #[.int .i64 0, .int .i64 0] t)).heap.size (X.drew.alloc (.cells #[.int .i64 0, .int .i64 0] t)) W1) (h : Own W1.heap.size W1 W2) (h2 : Own (W2.alloc o).heap.size (W2.alloc o) W3) : Bq X.heap.size 0 0 W3 :=
  ((((Bq.fresh X.drew 0 0 t).keep h1.below (by simp)).keep h.below (by have := h1.size; simp at this; show X.heap.size < _; omega)).keep (below_new W2 o) (by have := h1.size; have := h.size; simp at *; show X.heap.size < _; omega)).keep h2.below (by have := h1.size; have := h.size; simp at *; show X.heap.size < _; omega)
theorem box5 {X W1 W2 W3 : World} {o : Obj} {t : TypeId} (h1 : Own ((X.alloc (.cells #[.int .i64 0, .int .i64 0] t)).drew).heap.size ((X.alloc (.cells #[.int .i64 0, .int .i64 0] t)).drew) W1) (h : Own W1.heap.size W1 W2) (h2 : Own (W2.alloc o).heap.size (W2.alloc o) W3) : Bq X.heap.size 0 0 W3 :=
  ((((Bq.fresh X 0 0 t).drew.keep h1.below (by simp)).keep h.below (by have := h1.size; simp at this; omega)).keep (below_new W2 o) (by have := h1.size; have := h.size; simp at *; omega)).keep h2.below (by have := h1.size; have := h.size; simp at *; omega)

set_option maxRecDepth 100000 in
set_option maxHeartbeats 2000000 in
theorem squares_any (a b : Int) (w : World) (a0 : -5000 ≤ a) (a1 : a ≤ 5000) (b0 : -5000 ≤ b) (b1 : b ≤ 5000) :
    Calls Try.prog 107 #[.agg #[.int .i64 a, .int .i64 b]] w fun e w' => e = .returned (.agg #[.int .i64 (sqN a b), .int .i64 (sqF a b)]) ∧ Own w.heap.size w w' := by
  have sa := sq_le a0 a1
  have sb := sq_le b0 b1
  have ea : IntKind.i64.wrap (a * a) = a * a := IntWalk.i64_in _ (by omega)
  have eb : IntKind.i64.wrap (b * b) = b * b := IntWalk.i64_in _ (by omega)
  have HJ := Lib.hid (fun (g : Nat) (W : World) (hg : g < W.heap.size) (c0 : W.cell? ⟨g, 0, none⟩ = some (.int .i64 (b * b))) (c1 : W.cell? ⟨g, 1, none⟩ = some (.int .i64 (b * b))) => join1 (a * a) (a * a) (b * b) (b * b) g W hg c0 c1)
  have HF : Hid (sqF a b = max (a * a) (b * b)) := rfl
  have HN : Hid (sqN a b = if inB 0 a b = true then 0 else min (a * a) (b * b)) := by
    show _ = _
    unfold sqN
    by_cases c : a ≤ 0 ∧ 0 ≤ b
    · rw [if_pos c, if_pos (inB_iff.2 c)]
    · rw [if_neg c, if_neg (fun hh => c (inB_iff.1 hh))]
  have own0 : Own w.heap.size w ((w.alloc (.cells #[.int .i64 a, .int .i64 b] 115)).alloc (.cells #[.int .i64 0, .int .i64 0] 35)) := ((Own.refl _ _).alloc (Nat.le_refl _) _).alloc (by simp) _
  have c0 : ((w.alloc (.cells #[.int .i64 a, .int .i64 b] 115)).alloc (.cells #[.int .i64 0, .int .i64 0] 35)).cell? ⟨w.heap.size, 0, none⟩ = some (.int .i64 a) := by simp [go_sem]
  have c1 : ((w.alloc (.cells #[.int .i64 a, .int .i64 b] 115)).alloc (.cells #[.int .i64 0, .int .i64 0] 35)).cell? ⟨w.heap.size, 1, none⟩ = some (.int .i64 b) := by simp [go_sem]
  have z0 : Bq (w.heap.size + 1) 0 0 ((w.alloc (.cells #[.int .i64 a, .int .i64 b] 115)).alloc (.cells #[.int .i64 0, .int .i64 0] 35)) := by constructor <;> simp [go_sem]
  have sz0 : ((w.alloc (.cells #[.int .i64 a, .int .i64 b] 115)).alloc (.cells #[.int .i64 0, .int .i64 0] 35)).heap.size = w.heap.size + 1 + 1 := by simp
  have Z0 := Lib.hid z0
  have SZ := Lib.hid sz0
  have OW0 := Lib.hid own0
  clear z0 own0 sz0
  go_enter Try.func107, Try.ntmps107
  go_wp2_with fail
  generalize ((w.alloc (.cells #[.int .i64 a, .int .i64 b] 115)).alloc (.cells #[.int .i64 0, .int .i64 0] 35)) = W0 at *
  have lt0 : w.heap.size < W0.heap.size := by rw [SZ.out]; omega
  have le0 : w.heap.size ≤ W0.heap.size := by omega
  have hS : W0.cell? ⟨w.heap.size, 0, none⟩ = some (.int .i64 a) ∧ W0.cell? ⟨w.heap.size, 1, none⟩ = some (.int .i64 b) ∧ W0.heap.size ≤ W0.heap.size ∧ Own W0.heap.size W0 W0 := ⟨c0, c1, Nat.le_refl _, Own.refl _ _⟩
  have ST := Lib.hid (fun (Wa Wb : World) (h : Wa.cell? ⟨w.heap.size, 0, none⟩ = some (.int .i64 a) ∧ Wa.cell? ⟨w.heap.size, 1, none⟩ = some (.int .i64 b) ∧ W0.heap.size ≤ Wa.heap.size ∧ Own W0.heap.size W0 Wa) (k : Own Wa.heap.size Wa Wb) =>
    show Wb.cell? ⟨w.heap.size, 0, none⟩ = some (.int .i64 a) ∧ Wb.cell? ⟨w.heap.size, 1, none⟩ = some (.int .i64 b) ∧ W0.heap.size ≤ Wb.heap.size ∧ Own W0.heap.size W0 Wb from
    ⟨by rw [k.cell (p := ⟨w.heap.size, 0, none⟩) (Nat.lt_of_lt_of_le lt0 h.2.2.1)]; exact h.1, by rw [k.cell (p := ⟨w.heap.size, 1, none⟩) (Nat.lt_of_lt_of_le lt0 h.2.2.1)]; exact h.2.1, Nat.le_trans h.2.2.1 k.size, h.2.2.2.trans (k.mono h.2.2.1)⟩)
  have ST2 := Lib.hid (fun (Wa : World) (g : Nat) (u v : Value) (h : Wa.cell? ⟨w.heap.size, 0, none⟩ = some (.int .i64 a) ∧ Wa.cell? ⟨w.heap.size, 1, none⟩ = some (.int .i64 b) ∧ W0.heap.size ≤ Wa.heap.size ∧ Own W0.heap.size W0 Wa) (hg : W0.heap.size ≤ g) =>
    show ((Wa.setCell ⟨g, 0, none⟩ u).setCell ⟨g, 1, none⟩ v).cell? ⟨w.heap.size, 0, none⟩ = some (.int .i64 a) ∧ ((Wa.setCell ⟨g, 0, none⟩ u).setCell ⟨g, 1, none⟩ v).cell? ⟨w.heap.size, 1, none⟩ = some (.int .i64 b) ∧ W0.heap.size ≤ ((Wa.setCell ⟨g, 0, none⟩ u).setCell ⟨g, 1, none⟩ v).heap.size ∧ Own W0.heap.size W0 ((Wa.setCell ⟨g, 0, none⟩ u).setCell ⟨g, 1, none⟩ v) from by
    have ne : w.heap.size ≠ g := by omega
    exact ⟨by simp [go_sem, h.1, ne, Ne.symm ne], by simp [go_sem, h.2.1, ne, Ne.symm ne], by simpa using h.2.2.1, (h.2.2.2.setCell (p := ⟨g, 0, none⟩) hg _).setCell (p := ⟨g, 1, none⟩) hg _⟩)
  clear c0 c1
  go_upto_region 1 with fail
  go_cut [3] (fun s3 wx => ∃ g : Nat, s3 = .pointer (some ⟨g, 0, none⟩) ∧ W0.heap.size ≤ g ∧ Bq g (min (a * a) (b * b)) (max (a * a) (b * b)) wx ∧ Own W0.heap.size W0 wx)
  case first =>
    go_region_held3 (fun w' => w'.cell? ⟨w.heap.size, 0, none⟩ = some (.int .i64 a) ∧ w'.cell? ⟨w.heap.size, 1, none⟩ = some (.int .i64 b) ∧ W0.heap.size ≤ w'.heap.size ∧ Own W0.heap.size W0 w')
      (first | (refine ST.out _ _ kj ?_; ((repeat' (first | (with_reducible exact Own.refl _ _) | (with_reducible refine Own.drew ?_) | (with_reducible refine Own.alloc ?_ ?_ _))); all_goals (first | (simp; done) | (simp; omega) | omega))) | (refine ST.out _ _ kq ?_; ((repeat' (first | (with_reducible exact Own.refl _ _) | (with_reducible refine Own.drew ?_) | (with_reducible refine Own.alloc ?_ ?_ _))); all_goals (first | (simp; done) | (simp; omega) | omega))) | (refine ST.out _ _ hS ?_; ((repeat' (first | (with_reducible exact Own.refl _ _) | (with_reducible refine Own.drew ?_) | (with_reducible refine Own.alloc ?_ ?_ _))); all_goals (first | (simp; done) | (simp; omega) | omega))) | (refine ST.out _ _ ?_ hbq; assumption) | (refine ST.out _ _ ?_ hbj; assumption) | (refine ST.out _ _ ?_ ((Own.refl _ _).alloc (Nat.le_refl _) _); assumption) | (refine ST2.out _ _ _ _ ?_ ?_ <;> first | assumption | (simp; omega) | omega))
      (first | (go_at_call 89; (with_reducible refine (only_any _ _).mono ?_); rintro e wq ⟨rfl, hbq⟩; have hcq := (bcell hbq).1; have hfq := (bcell hbq).2; have hzq := hbq.size; (try simp only [World.size_drew] at hcq hfq); (try simp at hzq); (try have hnq := Nat.ne_of_lt hzq); (try have hlq := Nat.le_of_lt hzq); (try have hpq := Nat.lt_of_succ_le hzq); (try have ga1 : W0.heap.size < wq.heap.size := by omega); (try have ga2 : W0.heap.size ≠ wq.heap.size := by omega); (try have ga3 : W0.heap.size ≤ wq.heap.size := by omega); (try have ga4 : W0.heap.size < wq.heap.size + 1 := by omega); have kq := ST.out _ _ (by assumption) hbq) | (go_at_call 87; (refine Calls.mono (HJ.out _ _ ?_ ?_ ?_) ?_); (focus (first | (simp; done) | (simp at hzq ⊢; omega))); (focus (simp [go_sem, hcq])); (focus (simp [go_sem, hcq])); rintro e wj ⟨rfl, hbj⟩; have hcj := (bcell hbj).1; have hfj := (bcell hbj).2; have hzj := hbj.size; (try simp only [World.size_drew] at hcj hfj); (try simp at hzj); (try have hnj := Nat.ne_of_lt hzj); (try have hpj := Nat.lt_of_succ_le hzj); (try have gb1 : W0.heap.size < wj.heap.size := by omega); (try have gb2 : W0.heap.size ≠ wj.heap.size := by omega);  (first | have kj := ST.out _ _ (by assumption) hbj | have kj := ST.out _ _ (ST.out _ _ kq ((Own.refl _ _).alloc (Nat.le_refl _) _)) hbj | have kj := True.intro)))
    all_goals go_wp2_with fail
    all_goals go_meet
    all_goals
      case rel =>
        refine ⟨_, rfl, ?_, ?_, ?_⟩
        · first | exact kj.2.2.1 | exact kq.2.2.1 | (simp; done) | omega | (simp; omega)
        · first
            | exact Bq.fresh _ _ _ _
            | exact ((Bq.fresh wq 0 0 35).keep hbj.below (by simp; omega)).set _ _
            | exact (((Bq.fresh wq 0 0 35).keep (below_new _ _) (by simp)).keep hbj.below (by simp; omega)).set _ _
            | exact ((box2 hbq hbj)).set _ _
            | exact (box3 hbj).set _ _
            | exact (box4 (by assumption) hbq hbj).set _ _
            | exact (box5 (by assumption) hbq hbj).set _ _
        · (repeat' (first | exact kj.2.2.2 | (with_reducible refine Own.alloc ?_ ?_ _) | (with_reducible refine Own.setCell ?_ ?_ _))) <;> first | exact kj.2.2.1 | exact kq.2.2.1 | (simp; done) | omega | (simp; omega)
  case rest =>
    obtain ⟨g, rfl, hg, bg, og⟩ := hcut
    have S2 := ST.out _ _ hS og
    have lt1 : w.heap.size < wc.heap.size := Nat.lt_of_lt_of_le lt0 og.size
    have BG := Lib.hid bg
    have Z1 := Lib.hid (Z0.out.keep og.below (by rw [SZ.out]; omega))
    have OWc := Lib.hid (OW0.out.trans (og.mono OW0.out.size))
    have gne : w.heap.size + 1 ≠ g := by have := SZ.out; omega
    have gz : w.heap.size ≤ g := by have := OW0.out.size; omega
    obtain ⟨c0, c1, _⟩ := S2
    obtain ⟨b0, b1, b2, b3, b4⟩ := bg
    obtain ⟨z0, z1, z2, z3, z4⟩ := Z1.out
    clear og hS ST
    cases hi : inB 0 a b
    · have HI := Lib.hid hi
      have HE : Hid (sqN a b = min (a * a) (b * b)) := HN.out.trans (if_neg (by rw [hi]; decide))
      clear hi
      go_wp2_with fail
      refine (isFrom_is HI.out _).mono ?_
      rintro e w1 ⟨rfl, rfl⟩
      go_wp2_with fail
      refine bodyPost_ret (v := .agg #[.int .i64 (min (a * a) (b * b)), .int .i64 (max (a * a) (b * b))]) (by simp [results, Try.results107, go_sem, z0, z1]) rfl ⟨by rw [HE.out, HF.out], ?_⟩
      exact (OWc.out.setCell (p := ⟨w.heap.size + 1, 0, none⟩) (by show w.heap.size ≤ w.heap.size + 1; omega) _).setCell (p := ⟨w.heap.size + 1, 1, none⟩) (by show w.heap.size ≤ w.heap.size + 1; omega) _
    · have HI := Lib.hid hi
      have HE : Hid (sqN a b = 0) := HN.out.trans (if_pos hi)
      clear hi
      go_wp2_with fail
      refine (isFrom_is HI.out _).mono ?_
      rintro e w1 ⟨rfl, rfl⟩
      go_wp2_with fail
      refine bodyPost_ret (v := .agg #[.int .i64 0, .int .i64 (max (a * a) (b * b))]) (by simp [results, Try.results107, go_sem, z0, z1]) rfl ⟨by rw [HE.out, HF.out], ?_⟩
      exact ((OWc.out.setCell (p := ⟨g, 0, none⟩) gz _).setCell (p := ⟨w.heap.size + 1, 0, none⟩) (by show w.heap.size ≤ w.heap.size + 1; omega) _).setCell (p := ⟨w.heap.size + 1, 1, none⟩) (by show w.heap.size ≤ w.heap.size + 1; omega) _
end Go.Proofs.Ytgmpipciinphiaa
