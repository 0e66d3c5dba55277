/- The reference's arcs and roots. -/
import Derived.Test.YtdikelijnachjaaDoorRsn
import Derived.Test.YtdikelijnachjaaDoorWarc
import Derived.Test.YtdikelijnachjaaDoorArcs
import Derived.Test.YtdikelijnachjaaDoorBackM
import Derived.Test.YtdikelijnachjaaDoorRooA
import Derived.Test.YtdikelijnachjaaDoorRar
import Derived.IntWalk
import Derived.BigRegion
import Derived.Deep.LoopGhost
import Derived.Deep.DrawnRows
import Derived.Deep.RegionHeld3
import Derived.Deep.QuietTactic
namespace Go.Proofs.YtdikelijnachjaaDoor
set_option linter.unusedSimpArgs false
set_option linter.unusedVariables false
open Go.RowKit SineNear
attribute [local go_sem ↓] Go.wp_at_zero Go.wp_at_succ


theorem Box.atNew {b : Nat} {w : World} (hb : b = w.heap.size) (l h : Int) (t : TypeId) : Box b l h (w.alloc (.cells #[.int .i64 l, .int .i64 h] t)) := by rw [hb]; exact Box.fresh w l h t

/-- the upper end of the angle with a cosine -/
theorem arc_hi (x : Int) (h0 : -100000000 ≤ x) (h1 : x ≤ 100000000) : (if sinHi (arcA x) ≤ x then 90000000 - arcA x else 90000000 - arcA x + 1) = 90000000 - - arcA (-x) := by
  obtain ⟨p, q⟩ := arcA_has x
  obtain ⟨b0, b1⟩ := arcA_bd x
  obtain ⟨A, hA⟩ : ∃ A, A = arcA x := ⟨_, rfl⟩
  rw [← hA] at p q b0 b1 ⊢
  clear hA
  have od := sin_odd A
  by_cases c : sinHi A ≤ x
  · rw [if_pos c]
    have e : arcA (-x) = -A := by
      refine arcA_is (-x) (-A) (by omega) (by omega) ?_ (.inr (by omega))
      by_cases k : A = 90000000
      · exact .inl (by omega)
      · right
        have m := sin_mono A (A+1) (by omega) (by omega) (by omega)
        have o1 := sin_odd (A+1)
        rw [show -A - 1 = -(A+1) by omega]
        omega
    omega
  · rw [if_neg c]
    have na : A ≠ -90000000 := by
      intro h
      rw [h, sin_m90.2] at c
      omega
    have e : arcA (-x) = 1 - A := by
      refine arcA_is (-x) (1 - A) (by omega) (by omega) (.inr ?_) (.inr ?_)
      · rw [show 1 - A - 1 = -A by omega]; omega
      · have o1 := sin_odd (A-1)
        have l1 := sin_le (A-1)
        rw [show 1 - A = -(A-1) by omega]
        omega
    omega

set_option maxRecDepth 100000 in
set_option maxHeartbeats 2000000 in
theorem rarccos_walk (x A : Int) (w : World) (h0 : -100000000 ≤ x) (h1 : x ≤ 100000000) (hA : ∀ a, -90000000 ≤ a → a ≤ 90000000 → (a = -90000000 ∨ sinLo (a - 1) < x) → (a = 90000000 ∨ x ≤ sinLo a) → A = a) :
    Calls Tryd.prog 53 #[.int .i64 x] w fun e w' => e = .returned (encl (90000000 - A) (if sinHi A ≤ x then 90000000 - A else 90000000 - A + 1)) ∧ Own w.heap.size w w' := by
  have HA := hidden hA
  clear hA
  go_enter Tryd.func53, Tryd.ntmps53
  go_wp2_with fail
  go_loopg [3, 4] 180000001 (fun n l' h' wr => ∃ l h : Int, n = (h - l).toNat ∧ l' = .int .i64 l ∧ h' = .int .i64 h ∧ 0 ≤ l ∧ l < h ∧ h ≤ 180000001 ∧ Hid (x ≤ sinLo (l + 90000000)) ∧ Hid (h = 180000001 ∨ sinLo (h + 90000000) < x) ∧ Box w.heap.size 0 0 wr ∧ Own w.heap.size w wr)
  case atStart => exact ⟨0, 180000001, by omega, rfl, rfl, by omega, by omega, by omega, by show x ≤ sinLo 90000000; rw [sin_90.1]; exact h1, .inl rfl, Box.fresh w 0 0 _, (Own.refl _ _).alloc (Nat.le_refl _) _⟩
  case round =>
    obtain ⟨l, h, hn0, rfl, rfl, l0, lh, hm, H1, H2, bx, ho⟩ := hrel
    have HN := hidden hn0
    clear hn0
    by_cases hlt : h - l > 1
    · obtain ⟨m, em⟩ : ∃ m, m = (l + h) / 2 := ⟨_, rfl⟩
      have mb : l < m ∧ m < h := by omega
      have w1 : IntKind.i64.wrap (h - l) = h - l := IntWalk.i64_in _ (by omega)
      have w2 : IntKind.i64.wrap (l + h) = l + h := IntWalk.i64_in _ (by omega)
      have w3 : (l + h).tdiv 2 = m := by rw [Int.tdiv_eq_ediv_of_nonneg (by omega), em]
      have w4 : IntKind.i64.wrap m = m := IntWalk.i64_in _ (by omega)
      have w5 : IntKind.i64.wrap (m + 90000000) = m + 90000000 := IntWalk.i64_in _ (by omega)
      have S := hidden (rsine_any (m + 90000000) (by omega) (by omega))
      have hfl := field0 (sinLo (m + 90000000)) (sinHi (m + 90000000))
      clear em
      by_cases hs : x ≤ sinLo (m + 90000000)
      · go_wp2_with fail
        refine (S.out.at _).mono ?_
        rintro e w1 ⟨rfl, hb1⟩
        go_wp2_with fail
        go_roundg ((h - m).toNat)
        case measure => have := HN.out; omega
        case rel => exact ⟨m, h, rfl, rfl, rfl, by omega, by omega, by omega, hs, H2, bx.below hb1.below, ho.trans (hb1.mono ho.size)⟩
      · go_wp2_with fail
        refine (S.out.at _).mono ?_
        rintro e w1 ⟨rfl, hb1⟩
        go_wp2_with fail
        go_roundg ((m - l).toNat)
        case measure => have := HN.out; omega
        case rel => exact ⟨l, m, rfl, rfl, rfl, by omega, by omega, by omega, H1, .inr (by omega), bx.below hb1.below, ho.trans (hb1.mono ho.size)⟩
    · have e1 : h = l + 1 := by omega
      have s1 := sin_half (90000000 - l)
      have s2 := sin_half (90000000 - h)
      rw [show 180000000 - (90000000 - l) = l + 90000000 by omega] at s1
      rw [show 180000000 - (90000000 - h) = h + 90000000 by omega] at s2
      have hl : l = 90000000 - A := by
        have := HA.out (90000000 - l) (by omega) (by omega) (by
          rcases H2.out with k | k
          · exact .inl (by omega)
          · right; rw [show 90000000 - l - 1 = 90000000 - h by omega, ← s2.1]; exact k) (.inr (by rw [← s1.1]; exact H1.out))
        omega
      have S := rsine_any (l + 90000000) (by omega) (by omega)
      rw [s1.1, s1.2, show 90000000 - l = A by omega] at S
      have S := hidden S
      have hfl := field1 (sinLo A) (sinHi A)
      have w1 : IntKind.i64.wrap (h - l) = h - l := IntWalk.i64_in _ (by omega)
      have w2 : IntKind.i64.wrap (l + 90000000) = l + 90000000 := IntWalk.i64_in _ (by omega)
      have w3 : IntKind.i64.wrap (l + 1) = l + 1 := IntWalk.i64_in _ (by omega)
      clear s1 s2 H1 H2
      have HL := hidden hl
      clear hl
      by_cases hc : sinHi A ≤ x
      · go_wp2_with fail
        refine (S.out.at _).mono ?_
        rintro e w1 ⟨rfl, hb1⟩
        have bx := bx.below hb1.below
        have o1 := ho.trans (hb1.mono ho.size)
        obtain ⟨c0, c1, c2, c3, c4⟩ := bx
        go_wp2_with fail
        refine bodyPost_ret (v := encl l l) (by simp [results, Tryd.results53, go_sem, c0, c1, c2, c3]) rfl ⟨by rw [← HL.out], ?_⟩
        exact (o1.put (Nat.le_refl _) _).put (Nat.le_refl _) _
      · go_wp2_with fail
        refine (S.out.at _).mono ?_
        rintro e w1 ⟨rfl, hb1⟩
        have bx := bx.below hb1.below
        have o1 := ho.trans (hb1.mono ho.size)
        obtain ⟨c0, c1, c2, c3, c4⟩ := bx
        go_wp2_with fail
        refine bodyPost_ret (v := encl l (l + 1)) (by simp [results, Tryd.results53, go_sem, c0, c1, c2, c3]) rfl ⟨by rw [← HL.out], ?_⟩
        exact (o1.put (Nat.le_refl _) _).put (Nat.le_refl _) _
theorem rarccos_any (x : Int) (h0 : -100000000 ≤ x) (h1 : x ≤ 100000000) : RetL 53 #[.int .i64 x] (encl (90000000 - arcA x) (90000000 - - arcA (-x))) := by
  intro w
  have b := arcA_bd x
  have h := rarccos_walk x (arcA x) w h0 h1 (fun a => arcA_is x a)
  rw [arc_hi x h0 h1] at h
  exact h

set_option maxRecDepth 100000 in
set_option maxHeartbeats 1000000 in
theorem rroot_walk (n r : Int) (w : World) (n0 : 0 ≤ n) (n1 : n ≤ 300000000000000000) (r0 : 0 ≤ r) (r1 : Hid (r * r ≤ n)) (r2 : Hid (n < (r + 1) * (r + 1))) :
    Calls Tryd.prog 58 #[.int .i64 n] w fun e w' => e = .returned (.int .i64 r) ∧ w' = w := by
  go_enter Tryd.func58, Tryd.ntmps58
  go_wp2_with fail
  go_loopg [3, 4] 2147483648 (fun k l' h' wr => ∃ l h : Int, k = (h - l).toNat ∧ l' = .int .i64 l ∧ h' = .int .i64 h ∧ 0 ≤ l ∧ l < h ∧ h ≤ 2147483648 ∧ Hid (l * l ≤ n) ∧ Hid (n < h * h) ∧ wr = w)
  case atStart => exact ⟨0, 2147483648, by omega, rfl, rfl, by omega, by omega, by omega, n0, by show n < 2147483648 * 2147483648; omega, rfl⟩
  case round =>
    obtain ⟨l, h, hn0, rfl, rfl, l0, lh, hm, H1, H2, rfl⟩ := hrel
    have HN := hidden hn0
    clear hn0
    by_cases hlt : h - l > 1
    · obtain ⟨m, em⟩ : ∃ m, m = (l + h) / 2 := ⟨_, rfl⟩
      have mb : l < m ∧ m < h := by omega
      have w1 : IntKind.i64.wrap (h - l) = h - l := IntWalk.i64_in _ (by omega)
      have w2 : IntKind.i64.wrap (l + h) = l + h := IntWalk.i64_in _ (by omega)
      have w3 : (l + h).tdiv 2 = m := by rw [Int.tdiv_eq_ediv_of_nonneg (by omega), em]
      have w4 : IntKind.i64.wrap m = m := IntWalk.i64_in _ (by omega)
      have sq := sq_bd (show 0 ≤ m by omega) (show m ≤ 2147483648 by omega)
      have w5 : IntKind.i64.wrap (m * m) = m * m := IntWalk.i64_in _ (by omega)
      clear em
      by_cases hs : m * m ≤ n
      · go_wp2_with fail
        go_roundg ((h - m).toNat)
        case measure => have := HN.out; omega
        case rel => exact ⟨m, h, rfl, rfl, rfl, by omega, by omega, by omega, hs, H2, rfl⟩
      · go_wp2_with fail
        go_roundg ((m - l).toNat)
        case measure => have := HN.out; omega
        case rel => exact ⟨l, m, rfl, rfl, rfl, by omega, by omega, by omega, H1, by show n < m * m; omega, rfl⟩
    · have e1 : h = l + 1 := by omega
      subst e1
      have hl : l = r := root_one l0 H1.out H2.out r0 r1.out r2.out
      subst hl
      have w1 : IntKind.i64.wrap (l + 1 - l) = 1 := by rw [show l + 1 - l = 1 by omega]; exact IntWalk.i64_in _ (by omega)
      go_wp2_with fail
      go_ret
      exact ⟨rfl, rfl⟩
theorem rroot_any (n : Int) (w : World) (n0 : 0 ≤ n) (n1 : n ≤ 300000000000000000) :
    Calls Tryd.prog 58 #[.int .i64 n] w fun e w' => e = .returned (.int .i64 (rt n)) ∧ w' = w :=
  rroot_walk n (rt n) w n0 n1 (rt_is n0).1 (rt_is n0).2.1 (rt_is n0).2.2

set_option maxRecDepth 100000 in
set_option maxHeartbeats 2000000 in
theorem rArccos_yes (lo hi a0 a1 b0 b1 : Int) (w : World) (h : inB lo hi (-100000000) 100000000 = true) (C1 : RetL 53 #[.int .i64 hi] (encl a0 a1)) (C2 : RetL 53 #[.int .i64 lo] (encl b0 b1)) :
    Calls Tryd.prog 25 #[encl lo hi] w fun e w' => e = .returned (enclE a0 b1 0) ∧ Own w.heap.size w w' := by
  obtain ⟨i1, i2, i3⟩ := inB_bd h
  have n1 : ¬ hi < lo := by omega
  have n2 : ¬ lo < -100000000 := by omega
  have n3 : ¬ 100000000 < hi := by omega
  have f0 := field0 a0 a1
  have f1 := field1 b0 b1
  have D1 := hidden C1
  have D2 := hidden C2
  clear C1 C2 h
  go_enter Tryd.func25, Tryd.ntmps25
  go_wp2_with fail
  obtain ⟨W, hW⟩ : ∃ W, W = (w.alloc (.cells #[.int .i64 lo, .int .i64 hi] 23)).alloc (.cells #[.int .i64 0, .int .i64 0] 23) := ⟨_, rfl⟩
  have hS : Kp4 w w.heap.size (w.heap.size + 1) lo hi W := by
    rw [hW]
    refine ⟨?_, ?_, rd_of (n := 0) ?_, rd_of (n := 0) ?_, ?_, ?_, ⟨by simp; omega, by simp⟩, ((Own.refl _ _).alloc (Nat.le_refl _) _).alloc (by simp) _⟩ <;> simp [go_sem]
  rw [← hW]
  clear hW
  go_region_held3 (fun w' => w'.cell? ⟨w.heap.size, 0, none⟩ = some (.int .i64 lo) ∧ w'.cell? ⟨w.heap.size, 1, none⟩ = some (.int .i64 hi) ∧ w'.cell? ⟨w.heap.size + 1, 0, none⟩ = some (.int .i64 (rd w' (w.heap.size + 1) 0)) ∧ w'.cell? ⟨w.heap.size + 1, 1, none⟩ = some (.int .i64 (rd w' (w.heap.size + 1) 1)) ∧ w'.frozen? ⟨w.heap.size + 1, 0, none⟩ = false ∧ w'.frozen? ⟨w.heap.size + 1, 1, none⟩ = false ∧ (w.heap.size < w'.heap.size ∧ w.heap.size + 1 < w'.heap.size) ∧ Own w.heap.size w w')
    (first | exact Kp4.call hS (Own.refl _ _).drew | exact Kp4.call (by assumption) hbq | exact Kp4.store (by assumption) (by omega) (by omega) _ _ | fail)
    (first | (go_at_call 53; with_reducible refine (RetL.at D1.out _).mono ?_; rintro e wq ⟨rfl, hbq⟩) | (go_at_call 53; with_reducible refine (RetL.at D2.out _).mono ?_; rintro e wq ⟨rfl, hbq⟩))
  go_wp2
  obtain ⟨_, _, k2, k3, k4, k5, _, k6⟩ := ((hS.call (Own.refl _ _).drew).call (by assumption)).call hbq
  refine bodyPost_ret (v := enclE a0 b1 0) (by simp [results, Tryd.results25, go_sem, k2, k3]) rfl ⟨rfl, ?_⟩
  exact (k6.put (by omega) _).put (by omega) _

set_option maxHeartbeats 2000000 in
theorem rArccos_no (lo hi : Int) (w : World) (h : inB lo hi (-100000000) 100000000 = false) :
    Calls Tryd.prog 25 #[encl lo hi] w fun e w' => e = .returned (enclE 0 0 7) ∧ Own w.heap.size w w' := by
  have hh : hi < lo ∨ (¬ hi < lo ∧ lo < -100000000) ∨ (¬ hi < lo ∧ ¬ lo < -100000000 ∧ 100000000 < hi) := by
    have : ¬ (-100000000 ≤ lo ∧ lo ≤ hi ∧ hi ≤ 100000000) := of_decide_eq_false h
    omega
  clear h
  rcases hh with h1 | ⟨h1, h2⟩ | ⟨h1, h2, h3⟩
  all_goals
    go_enter Tryd.func25, Tryd.ntmps25
    go_wp2_with fail
    refine bodyPost_ret (v := enclE 0 0 7) (by simp [results, Tryd.results25, go_sem]) rfl ⟨rfl, ?_⟩
    (repeat' (first | exact Own.refl _ _ | exact Nat.le_refl _ | refine Own.setCell ?_ ?_ _ | refine Own.alloc ?_ ?_ _)); all_goals (first | (simp; done) | (simp; omega))
theorem rArccos_any (lo hi : Int) : RetL 25 #[encl lo hi] (enclE (acLo lo hi) (acHi lo hi) (oneE lo hi)) := by
  intro w
  unfold acLo acHi oneE
  cases h : inB lo hi (-100000000) 100000000
  · rw [if_neg (by decide), if_neg (by decide), if_neg (by decide)]; exact rArccos_no lo hi w h
  · rw [if_pos rfl, if_pos rfl, if_pos rfl]
    obtain ⟨i1, i2, i3⟩ := inB_bd h
    exact rArccos_yes lo hi _ _ _ _ w h (rarccos_any hi (by omega) (by omega)) (rarccos_any lo (by omega) (by omega))

set_option maxHeartbeats 2000000 in
theorem rArcsin_walk (lo hi a b e : Int) (w : World) (C : RetL 25 #[encl lo hi] (enclE a b e)) (ha : 0 ≤ a ∧ a ≤ 180000000) (hb : 0 ≤ b ∧ b ≤ 180000000) :
    Calls Tryd.prog 27 #[encl lo hi] w fun e' w' => e' = .returned (if e = 0 then enclE (90000000 - b) (90000000 - a) 0 else enclE 0 0 e) ∧ Own w.heap.size w w' := by
  have D := hidden C
  clear C
  have w1 : IntKind.i64.wrap (90000000 - a) = 90000000 - a := IntWalk.i64_in _ (by omega)
  have w2 : IntKind.i64.wrap (90000000 - b) = 90000000 - b := IntWalk.i64_in _ (by omega)
  have br := Box.atNew (b := w.heap.size + 1) (w := w.alloc (.cells #[.int .i64 lo, .int .i64 hi] 23)) (by simp) 0 0 23
  have o0 : Own w.heap.size w ((w.alloc (.cells #[.int .i64 lo, .int .i64 hi] 23)).alloc (.cells #[.int .i64 0, .int .i64 0] 23)) := ((Own.refl _ _).alloc (Nat.le_refl _) _).alloc (by simp) _
  by_cases he : e = 0
  · subst he
    rw [if_pos rfl]
    go_enter Tryd.func27, Tryd.ntmps27
    go_wp2_with fail
    refine (D.out.at _).mono ?_
    rintro e w1 ⟨rfl, hb1⟩
    have br := br.below hb1.below
    have o1 := o0.trans (hb1.mono o0.size)
    obtain ⟨r0, r1, r2, r3, rz⟩ := br
    go_wp2_with fail
    refine bodyPost_ret (v := enclE (90000000 - b) (90000000 - a) 0) (by simp [results, Tryd.results27, go_sem, r0, r1, r2, r3, rz]) rfl ⟨rfl, ?_⟩
    ((repeat' (first | (with_reducible exact o1) | (with_reducible refine Own.setCell ?_ ?_ _) | (with_reducible refine Own.alloc ?_ ?_ _))); all_goals (first | exact Own.size o1 | (simp; done) | (simp; omega) | omega))
  · have hb' : (e == 0) = false := by simp; omega
    rw [if_neg he]
    go_enter Tryd.func27, Tryd.ntmps27
    go_wp2_with fail
    refine (D.out.at _).mono ?_
    rintro e w1 ⟨rfl, hb1⟩
    have br := br.below hb1.below
    have o1 := o0.trans (hb1.mono o0.size)
    obtain ⟨r0, r1, r2, r3, rz⟩ := br
    go_wp2_with fail
    refine bodyPost_ret (v := enclE 0 0 e) (by simp [results, Tryd.results27, go_sem, r0, r1, r2, r3, rz]) rfl ⟨rfl, ?_⟩
    ((repeat' (first | (with_reducible exact o1) | (with_reducible refine Own.setCell ?_ ?_ _) | (with_reducible refine Own.alloc ?_ ?_ _))); all_goals (first | exact Own.size o1 | (simp; done) | (simp; omega) | omega))
theorem rArcsin_any (lo hi : Int) : RetL 27 #[encl lo hi] (enclE (asLo lo hi) (asHi lo hi) (oneE lo hi)) := by
  intro w
  have C := rArccos_any lo hi
  have b1 := arcA_bd hi
  have b2 := arcA_bd (-lo)
  unfold acLo acHi oneE at C
  unfold asLo asHi oneE
  cases h : inB lo hi (-100000000) 100000000
  · rw [h, if_neg (by decide), if_neg (by decide), if_neg (by decide)] at C
    rw [if_neg (by decide), if_neg (by decide), if_neg (by decide)]
    have := rArcsin_walk lo hi 0 0 7 w C (by omega) (by omega)
    rw [if_neg (by decide)] at this
    exact this
  · rw [h, if_pos rfl, if_pos rfl, if_pos rfl] at C
    rw [if_pos rfl, if_pos rfl, if_pos rfl]
    generalize arcA hi = A at *
    generalize arcA (-lo) = B at *
    have := rArcsin_walk lo hi (90000000 - A) (90000000 - -B) 0 w C (by omega) (by omega)
    rw [if_pos rfl, show 90000000 - (90000000 - -B) = -B by omega, show 90000000 - (90000000 - A) = A by omega] at this
    exact this
set_option maxRecDepth 100000 in
set_option maxHeartbeats 4000000 in
theorem rRoot_yes (lo hi a b u : Int) (w : World) (h : inB lo hi 0 3000000000 = true) (h1 : 0 ≤ a) (h2 : a ≤ b) (h3 : b ≤ 600000000) (hu : (b * b < hi * 100000000 ∧ u = b + 1) ∨ (¬ b * b < hi * 100000000 ∧ u = b))
    (C1 : ∀ w : World, Calls Tryd.prog 58 #[.int .i64 (lo * 100000000)] w fun e w' => e = .returned (.int .i64 a) ∧ w' = w) (C2 : ∀ w : World, Calls Tryd.prog 58 #[.int .i64 (hi * 100000000)] w fun e w' => e = .returned (.int .i64 b) ∧ w' = w)
    (C3 : Ret1 59 #[.int .i64 a, .int .i64 u] (enclE a u 0)) :
    Calls Tryd.prog 29 #[encl lo hi] w fun e w' => e = .returned (enclE a u 0) ∧ Own w.heap.size w w' := by
  obtain ⟨i1, i2, i3⟩ := inB_bd h
  have hv : vE lo hi = 0 := if_pos (inB_yes (by omega) i2 i3)
  have V := hidden (valued_one lo hi)
  rw [hv] at V
  have D3 := hidden C3
  have sq := sq_bd (show 0 ≤ b by omega) h3
  have w1 : IntKind.i64.wrap (lo * 100000000) = lo * 100000000 := IntWalk.i64_in _ (by omega)
  have w2 : IntKind.i64.wrap (hi * 100000000) = hi * 100000000 := IntWalk.i64_in _ (by omega)
  have w3 : IntKind.i64.wrap (b * b) = b * b := IntWalk.i64_in _ (by omega)
  have w4 : IntKind.i64.wrap (b + 1) = b + 1 := IntWalk.i64_in _ (by omega)
  have nl : ¬ lo < 0 := by omega
  clear h hv C3
  go_enter Tryd.func29, Tryd.ntmps29
  go_wp2_with fail
  refine Calls.mono (V.out _ _ _ ?c1 ?c2 ?c3) ?c6
  case c1 => simp
  case c2 => simp [go_sem]
  case c3 => simp [go_sem]
  rintro e' w1 ⟨rfl, hb1⟩
  obtain ⟨hc, hf⟩ := bcell hb1
  have bx : Box w.heap.size lo hi w1 := by
    refine ((((Box.fresh w lo hi 23).alloc _).alloc _)).below hb1.below
  have br : Box (w.heap.size + 1) 0 0 w1 := ((Box.atNew (b := w.heap.size + 1) (w := w.alloc (.cells #[.int .i64 lo, .int .i64 hi] 23)) (by simp) 0 0 23).alloc _).below hb1.below
  have o1 : Own w.heap.size w w1 := ((((Own.refl _ _).alloc (Nat.le_refl _) _).alloc (by simp) _).alloc (by simp; omega) _).trans (hb1.mono (by simp; omega))
  clear hc hf hb1
  obtain ⟨x0, x1, x2, x3, xz⟩ := id bx
  obtain ⟨r0, r1, r2, r3, rz⟩ := id br
  go_wp2_with fail
  go_quiet (first | (go_at_call 58; ((with_reducible refine Calls.quiet_of_same (C1 _)))) | (go_at_call 58; ((with_reducible refine Calls.quiet_of_same (C2 _)))))
  rcases hu with ⟨k, rfl⟩ | ⟨k, rfl⟩
  all_goals
    go_wp2_with fail
    refine (Ret1.at D3.out _).mono ?_
    rintro e w2 ⟨rfl, hb2⟩
    have br2 := (show Box (w.heap.size + 1) 0 0 (w1.drewN nq) from br).below hb2.below
    have o2 := (o1.drewN nq).trans (hb2.mono o1.size)
    obtain ⟨r0, r1, r2, r3, rz⟩ := br2
    go_wp2_with fail
    refine bodyPost_ret (v := enclE _ _ 0) (by simp [results, Tryd.results29, go_sem, r0, r1, r2, r3]) rfl ⟨rfl, ?_⟩
    exact (o2.put (by omega) _).put (by omega) _

set_option maxHeartbeats 4000000 in
theorem rRoot_no (lo hi : Int) (w : World) (h : inB lo hi 0 3000000000 = false) :
    Calls Tryd.prog 29 #[encl lo hi] w fun e w' => e = .returned (enclE 0 0 7) ∧ Own w.heap.size w w' := by
  have hh : vE lo hi = 7 ∨ (vE lo hi = 0 ∧ lo < 0) := by
    have : ¬ (0 ≤ lo ∧ lo ≤ hi ∧ hi ≤ 3000000000) := of_decide_eq_false h
    unfold vE
    cases hv : valB lo hi
    · exact .inl rfl
    · have := valB_bd hv
      exact .inr ⟨rfl, by omega⟩
  have V := hidden (valued_one lo hi)
  clear h
  rcases hh with hv | ⟨hv, hl⟩
  all_goals
    rw [hv] at V
    clear hv
    go_enter Tryd.func29, Tryd.ntmps29
    go_wp2_with fail
    refine Calls.mono (V.out _ _ _ (by simp) (by simp [go_sem]) (by simp [go_sem])) ?_
    rintro e' w1 ⟨rfl, hb1⟩
    have bx : Box w.heap.size lo hi w1 := ((((Box.fresh w lo hi 23).alloc _).alloc _)).below hb1.below
    have br : Box (w.heap.size + 1) 0 0 w1 := ((Box.atNew (b := w.heap.size + 1) (w := w.alloc (.cells #[.int .i64 lo, .int .i64 hi] 23)) (by simp) 0 0 23).alloc _).below hb1.below
    have o1 : Own w.heap.size w w1 := ((((Own.refl _ _).alloc (Nat.le_refl _) _).alloc (by simp) _).alloc (by simp; omega) _).trans (hb1.mono (by simp; omega))
    clear hb1
    obtain ⟨x0, x1, x2, x3, xz⟩ := id bx
    obtain ⟨r0, r1, r2, r3, rz⟩ := id br
    go_wp2_with fail
    refine bodyPost_ret (v := enclE 0 0 7) (by simp [results, Tryd.results29, go_sem, r0, r1, r2, r3]) rfl ⟨rfl, ?_⟩
    exact (o1.put (by omega) _).put (by omega) _

theorem rRoot_any (lo hi : Int) : RetL 29 #[encl lo hi] (enclE (roLo lo hi) (roHi lo hi) (roE lo hi)) := by
  intro w
  unfold roLo roHi roE
  cases h : inB lo hi 0 3000000000
  · rw [if_neg (by decide), if_neg (by decide), if_neg (by decide)]; exact rRoot_no lo hi w h
  · rw [if_pos rfl, if_pos rfl, if_pos rfl]
    obtain ⟨i1, i2, i3⟩ := inB_bd h
    have m1 := rt_mono (show 0 ≤ lo * 100000000 by omega) (show lo * 100000000 ≤ hi * 100000000 by omega)
    have a0 := (rt_is (show 0 ≤ lo * 100000000 by omega)).1
    obtain ⟨b0, b1, b2⟩ := rt_is (show 0 ≤ hi * 100000000 by omega)
    have b3 := root_lt b0 b1 (by omega)
    have u0 := rtU_is (show 0 ≤ hi * 100000000 by omega)
    have hu : (rt (hi * 100000000) * rt (hi * 100000000) < hi * 100000000 ∧ rtU (hi * 100000000) = rt (hi * 100000000) + 1) ∨ (¬ rt (hi * 100000000) * rt (hi * 100000000) < hi * 100000000 ∧ rtU (hi * 100000000) = rt (hi * 100000000)) := by
      unfold rtU
      by_cases c : rt (hi * 100000000) * rt (hi * 100000000) = hi * 100000000
      · exact .inr ⟨by omega, if_pos c⟩
      · exact .inl ⟨by omega, if_neg c⟩
    have R3 := result_any (rt (lo * 100000000)) (rtU (hi * 100000000))
    have hv : valB (rt (lo * 100000000)) (rtU (hi * 100000000)) = true := inB_yes (by omega) (by omega) (by omega)
    unfold resE vLo vHi vE at R3
    rw [hv, if_pos rfl, if_pos rfl, if_pos rfl] at R3
    exact rRoot_yes lo hi _ _ _ w h a0 m1 b3 hu (fun w => rroot_any _ w (by omega) (by omega)) (fun w => rroot_any _ w (by omega) (by omega)) R3
end Go.Proofs.YtdikelijnachjaaDoor
