/- The reference's SinOf and CosOf. -/
import Derived.Test.YtdikelijnachjaaDoorRso
import Derived.IntWalk
import Derived.BigRegion
import Derived.Deep.LoopGhost
import Derived.Deep.DrawnRows
namespace Go.Proofs.YtdikelijnachjaaDoor
set_option linter.unusedSimpArgs false
set_option linter.unusedVariables false
open Go.RowKit SineNear
attribute [local go_sem ↓] Go.wp_at_zero Go.wp_at_succ


set_option maxHeartbeats 2000000 in
theorem rsinOf_yes (lo hi : Int) (w : World) (h : inB lo hi (-3600000000) 3600000000 = true) :
    Calls Tryd.prog 20 #[encl lo hi] w fun e w' => e = .returned (enclE (siLo (lo) (hi)) (siHi (lo) (hi)) 0) ∧ Own w.heap.size w w' := by
  obtain ⟨i1, i2, i3⟩ := inB_bd h
  have A1 := angled_any lo
  have A2 := angled_any hi
  rw [decide_eq_true (by omega)] at A1 A2
  have A1 := hidden A1
  have A2 := hidden A2
  have S := hidden (rsines_any (lo) (hi) (by omega) (by omega))
  generalize siLo (lo) (hi) = l at *
  generalize siHi (lo) (hi) = m at *
  have n1 : ¬ (hi < lo) := by omega
  clear h
  go_enter Tryd.func20, Tryd.ntmps20
  go_wp2_with fail
  refine (A1.out.at _).mono ?_
  rintro e w1 ⟨rfl, hb1⟩
  have bx := (Box.fresh w lo hi 23).alloc (.cells #[.int .i64 0, .int .i64 0] 23)
  have br := Box.freshAt (b := w.heap.size + 1) (w := w.alloc (.cells #[.int .i64 lo, .int .i64 hi] 23)) (by simp) 0 0 23
  have o0 : Own w.heap.size w ((w.alloc (.cells #[.int .i64 lo, .int .i64 hi] 23)).alloc (.cells #[.int .i64 0, .int .i64 0] 23)) := ((Own.refl _ _).alloc (Nat.le_refl _) _).alloc (by simp) _
  have bx := bx.below hb1.below
  have br := br.below hb1.below
  have o1 := o0.trans (hb1.mono o0.size)
  clear o0 hb1
  obtain ⟨x0, x1, x2, x3, xz⟩ := id bx
  go_wp2_with fail
  refine (A2.out.at _).mono ?_
  rintro e w2 ⟨rfl, hb2⟩
  clear x0 x1 x2 x3 xz
  have bx := bx.below hb2.below
  have br := br.below hb2.below
  have o2 := o1.trans (hb2.mono o1.size)
  clear o1 hb2
  obtain ⟨x0, x1, x2, x3, xz⟩ := id bx
  go_wp2_with fail
  refine (S.out.at _).mono ?_
  rintro e w3 ⟨rfl, hb3⟩
  clear x0 x1 x2 x3 xz
  have br := br.below hb3.below
  have o3 := o2.trans (hb3.mono o2.size)
  obtain ⟨r0, r1, r2, r3, rz⟩ := br
  go_wp2_with fail
  refine bodyPost_ret (v := enclE l m 0) (by simp [results, Tryd.results20, go_sem, r0, r1, r2, r3]) rfl ⟨rfl, ?_⟩
  exact (o3.put (by omega) _).put (by omega) _

set_option maxHeartbeats 2000000 in
theorem rsinOf_no (lo hi : Int) (w : World) (h : inB lo hi (-3600000000) 3600000000 = false) :
    Calls Tryd.prog 20 #[encl lo hi] w fun e w' => e = .returned (enclE 0 0 7) ∧ Own w.heap.size w w' := by
  have A1 := hidden (angled_any lo)
  have A2 := hidden (angled_any hi)
  have hh : hi < lo ∨ (¬ hi < lo ∧ ¬ (-3600000000 ≤ lo ∧ lo ≤ 3600000000)) ∨ (¬ hi < lo ∧ (-3600000000 ≤ lo ∧ lo ≤ 3600000000) ∧ ¬ (-3600000000 ≤ hi ∧ hi ≤ 3600000000)) := by
    have : ¬ (-3600000000 ≤ lo ∧ lo ≤ hi ∧ hi ≤ 3600000000) := of_decide_eq_false h
    omega
  have o0 : Own w.heap.size w ((w.alloc (.cells #[.int .i64 lo, .int .i64 hi] 23)).alloc (.cells #[.int .i64 0, .int .i64 0] 23)) := ((Own.refl _ _).alloc (Nat.le_refl _) _).alloc (by simp) _
  have bx := (Box.fresh w lo hi 23).alloc (.cells #[.int .i64 0, .int .i64 0] 23)
  have br := Box.freshAt (b := w.heap.size + 1) (w := w.alloc (.cells #[.int .i64 lo, .int .i64 hi] 23)) (by simp) 0 0 23
  clear h
  rcases hh with h1 | ⟨h1, h2⟩ | ⟨h1, h2, h3⟩
  · go_enter Tryd.func20, Tryd.ntmps20
    go_wp2_with fail
    refine bodyPost_ret (v := enclE 0 0 7) (by simp [results, Tryd.results20, go_sem]) rfl ⟨rfl, ?_⟩
    (repeat' (first | exact Own.refl _ _ | exact Nat.le_refl _ | refine Own.setCell ?_ ?_ _ | refine Own.alloc ?_ ?_ _)); all_goals (first | (simp; done) | (simp; omega))
  · rw [decide_eq_false h2] at A1
    clear h2
    go_enter Tryd.func20, Tryd.ntmps20
    go_wp2_with fail
    refine (A1.out.at _).mono ?_
    rintro e w1 ⟨rfl, hb1⟩
    have br := br.below hb1.below
    have o1 := o0.trans (hb1.mono o0.size)
    obtain ⟨r0, r1, r2, r3, rz⟩ := br
    go_wp2_with fail
    refine bodyPost_ret (v := enclE 0 0 7) (by simp [results, Tryd.results20, go_sem, r0, r1, r2, r3]) rfl ⟨rfl, ?_⟩
    exact (o1.put (by omega) _).put (by omega) _
  · rw [decide_eq_true h2] at A1
    rw [decide_eq_false h3] at A2
    clear h2 h3
    go_enter Tryd.func20, Tryd.ntmps20
    go_wp2_with fail
    refine (A1.out.at _).mono ?_
    rintro e w1 ⟨rfl, hb1⟩
    have bx := bx.below hb1.below
    have br := br.below hb1.below
    have o1 := o0.trans (hb1.mono o0.size)
    obtain ⟨x0, x1, x2, x3, xz⟩ := id bx
    go_wp2_with fail
    refine (A2.out.at _).mono ?_
    rintro e w2 ⟨rfl, hb2⟩
    have br := br.below hb2.below
    have o2 := o1.trans (hb2.mono o1.size)
    obtain ⟨r0, r1, r2, r3, rz⟩ := br
    go_wp2_with fail
    refine bodyPost_ret (v := enclE 0 0 7) (by simp [results, Tryd.results20, go_sem, r0, r1, r2, r3]) rfl ⟨rfl, ?_⟩
    exact (o2.put (by omega) _).put (by omega) _

theorem rsinOf_any (lo hi : Int) : RetL 20 #[encl lo hi] (enclE (sofLo lo hi) (sofHi lo hi) (angE lo hi)) := by
  intro w
  unfold sofLo sofHi angE
  cases h : inB lo hi (-3600000000) 3600000000
  · rw [if_neg (by decide), if_neg (by decide), if_neg (by decide)]; exact rsinOf_no lo hi w h
  · rw [if_pos rfl, if_pos rfl, if_pos rfl]; exact rsinOf_yes lo hi w h

set_option maxHeartbeats 2000000 in
theorem rcosOf_yes (lo hi : Int) (w : World) (h : inB lo hi (-3600000000) 3600000000 = true) :
    Calls Tryd.prog 22 #[encl lo hi] w fun e w' => e = .returned (enclE (siLo (lo + 90000000) (hi + 90000000)) (siHi (lo + 90000000) (hi + 90000000)) 0) ∧ Own w.heap.size w w' := by
  obtain ⟨i1, i2, i3⟩ := inB_bd h
  have A1 := angled_any lo
  have A2 := angled_any hi
  rw [decide_eq_true (by omega)] at A1 A2
  have A1 := hidden A1
  have A2 := hidden A2
  have S := hidden (rsines_any (lo + 90000000) (hi + 90000000) (by omega) (by omega))
  generalize siLo (lo + 90000000) (hi + 90000000) = l at *
  generalize siHi (lo + 90000000) (hi + 90000000) = m at *
  have n1 : ¬ (hi < lo) := by omega
  clear h
  go_enter Tryd.func22, Tryd.ntmps22
  go_wp2_with fail
  refine (A1.out.at _).mono ?_
  rintro e w1 ⟨rfl, hb1⟩
  have bx := (Box.fresh w lo hi 23).alloc (.cells #[.int .i64 0, .int .i64 0] 23)
  have br := Box.freshAt (b := w.heap.size + 1) (w := w.alloc (.cells #[.int .i64 lo, .int .i64 hi] 23)) (by simp) 0 0 23
  have o0 : Own w.heap.size w ((w.alloc (.cells #[.int .i64 lo, .int .i64 hi] 23)).alloc (.cells #[.int .i64 0, .int .i64 0] 23)) := ((Own.refl _ _).alloc (Nat.le_refl _) _).alloc (by simp) _
  have bx := bx.below hb1.below
  have br := br.below hb1.below
  have o1 := o0.trans (hb1.mono o0.size)
  clear o0 hb1
  obtain ⟨x0, x1, x2, x3, xz⟩ := id bx
  go_wp2_with fail
  refine (A2.out.at _).mono ?_
  rintro e w2 ⟨rfl, hb2⟩
  clear x0 x1 x2 x3 xz
  have bx := bx.below hb2.below
  have br := br.below hb2.below
  have o2 := o1.trans (hb2.mono o1.size)
  clear o1 hb2
  obtain ⟨x0, x1, x2, x3, xz⟩ := id bx
  go_wp2_with fail
  refine (S.out.at _).mono ?_
  rintro e w3 ⟨rfl, hb3⟩
  clear x0 x1 x2 x3 xz
  have br := br.below hb3.below
  have o3 := o2.trans (hb3.mono o2.size)
  obtain ⟨r0, r1, r2, r3, rz⟩ := br
  go_wp2_with fail
  refine bodyPost_ret (v := enclE l m 0) (by simp [results, Tryd.results22, go_sem, r0, r1, r2, r3]) rfl ⟨rfl, ?_⟩
  exact (o3.put (by omega) _).put (by omega) _

set_option maxHeartbeats 2000000 in
theorem rcosOf_no (lo hi : Int) (w : World) (h : inB lo hi (-3600000000) 3600000000 = false) :
    Calls Tryd.prog 22 #[encl lo hi] w fun e w' => e = .returned (enclE 0 0 7) ∧ Own w.heap.size w w' := by
  have A1 := hidden (angled_any lo)
  have A2 := hidden (angled_any hi)
  have hh : hi < lo ∨ (¬ hi < lo ∧ ¬ (-3600000000 ≤ lo ∧ lo ≤ 3600000000)) ∨ (¬ hi < lo ∧ (-3600000000 ≤ lo ∧ lo ≤ 3600000000) ∧ ¬ (-3600000000 ≤ hi ∧ hi ≤ 3600000000)) := by
    have : ¬ (-3600000000 ≤ lo ∧ lo ≤ hi ∧ hi ≤ 3600000000) := of_decide_eq_false h
    omega
  have o0 : Own w.heap.size w ((w.alloc (.cells #[.int .i64 lo, .int .i64 hi] 23)).alloc (.cells #[.int .i64 0, .int .i64 0] 23)) := ((Own.refl _ _).alloc (Nat.le_refl _) _).alloc (by simp) _
  have bx := (Box.fresh w lo hi 23).alloc (.cells #[.int .i64 0, .int .i64 0] 23)
  have br := Box.freshAt (b := w.heap.size + 1) (w := w.alloc (.cells #[.int .i64 lo, .int .i64 hi] 23)) (by simp) 0 0 23
  clear h
  rcases hh with h1 | ⟨h1, h2⟩ | ⟨h1, h2, h3⟩
  · go_enter Tryd.func22, Tryd.ntmps22
    go_wp2_with fail
    refine bodyPost_ret (v := enclE 0 0 7) (by simp [results, Tryd.results22, go_sem]) rfl ⟨rfl, ?_⟩
    (repeat' (first | exact Own.refl _ _ | exact Nat.le_refl _ | refine Own.setCell ?_ ?_ _ | refine Own.alloc ?_ ?_ _)); all_goals (first | (simp; done) | (simp; omega))
  · rw [decide_eq_false h2] at A1
    clear h2
    go_enter Tryd.func22, Tryd.ntmps22
    go_wp2_with fail
    refine (A1.out.at _).mono ?_
    rintro e w1 ⟨rfl, hb1⟩
    have br := br.below hb1.below
    have o1 := o0.trans (hb1.mono o0.size)
    obtain ⟨r0, r1, r2, r3, rz⟩ := br
    go_wp2_with fail
    refine bodyPost_ret (v := enclE 0 0 7) (by simp [results, Tryd.results22, go_sem, r0, r1, r2, r3]) rfl ⟨rfl, ?_⟩
    exact (o1.put (by omega) _).put (by omega) _
  · rw [decide_eq_true h2] at A1
    rw [decide_eq_false h3] at A2
    clear h2 h3
    go_enter Tryd.func22, Tryd.ntmps22
    go_wp2_with fail
    refine (A1.out.at _).mono ?_
    rintro e w1 ⟨rfl, hb1⟩
    have bx := bx.below hb1.below
    have br := br.below hb1.below
    have o1 := o0.trans (hb1.mono o0.size)
    obtain ⟨x0, x1, x2, x3, xz⟩ := id bx
    go_wp2_with fail
    refine (A2.out.at _).mono ?_
    rintro e w2 ⟨rfl, hb2⟩
    have br := br.below hb2.below
    have o2 := o1.trans (hb2.mono o1.size)
    obtain ⟨r0, r1, r2, r3, rz⟩ := br
    go_wp2_with fail
    refine bodyPost_ret (v := enclE 0 0 7) (by simp [results, Tryd.results22, go_sem, r0, r1, r2, r3]) rfl ⟨rfl, ?_⟩
    exact (o2.put (by omega) _).put (by omega) _

theorem rcosOf_any (lo hi : Int) : RetL 22 #[encl lo hi] (enclE (cofLo lo hi) (cofHi lo hi) (angE lo hi)) := by
  intro w
  unfold cofLo cofHi angE
  cases h : inB lo hi (-3600000000) 3600000000
  · rw [if_neg (by decide), if_neg (by decide), if_neg (by decide)]; exact rcosOf_no lo hi w h
  · rw [if_pos rfl, if_pos rfl, if_pos rfl]; exact rcosOf_yes lo hi w h
end Go.Proofs.YtdikelijnachjaaDoor
