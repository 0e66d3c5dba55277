/- The reference's sines of enclosures. -/
import Derived.Test.YtdikelijnachjaaDoorRsn
import Derived.Test.YtdikelijnachjaaDoorCirB
import Derived.IntWalk
import Derived.BigRegion
import Derived.Deep.LoopGhost
import Derived.Deep.DrawnRows
import Derived.Deep.DeepCutAuto
import Derived.Deep.RegionHeld3
namespace Go.Proofs.YtdikelijnachjaaDoor
set_option linter.unusedSimpArgs false
set_option linter.unusedVariables false
open Go.RowKit SineNear
attribute [local go_sem ↓] Go.wp_at_zero Go.wp_at_succ


theorem pas_ref (lo hi a : Int) : pas lo hi a = decide ((lo - 1 - a) / 360000000 < (hi - a) / 360000000) := by
  unfold pas
  by_cases h : lo + (a - lo) % 360000000 ≤ hi
  · rw [decide_eq_true h, decide_eq_true (by omega)]
  · rw [decide_eq_false h, decide_eq_false (by omega)]
theorem pas_turn (lo hi : Int) : pas lo hi 270000000 = pas lo hi (-90000000) := by
  unfold pas
  by_cases h : lo + (270000000 - lo) % 360000000 ≤ hi
  · rw [decide_eq_true h, decide_eq_true (by omega)]
  · rw [decide_eq_false h, decide_eq_false (by omega)]

set_option maxHeartbeats 400000 in
theorem rpasses_any (lo hi a : Int) (w : World) (b1 : -8000000000 ≤ lo ∧ lo ≤ 8000000000) (b2 : -8000000000 ≤ hi ∧ hi ≤ 8000000000) (b3 : -8000000000 ≤ a ∧ a ≤ 8000000000) :
    Calls Tryd.prog 81 #[.int .i64 lo, .int .i64 hi, .int .i64 a] w fun e w' => e = .returned (.bool (pas lo hi a)) ∧ Own w.heap.size w w' := by
  rw [pas_ref]
  have w1 : IntKind.i64.wrap (hi - a) = hi - a := IntWalk.i64_in _ (by omega)
  have w2 : IntKind.i64.wrap (lo - 1) = lo - 1 := IntWalk.i64_in _ (by omega)
  have w3 : IntKind.i64.wrap (lo - 1 - a) = lo - 1 - a := IntWalk.i64_in _ (by omega)
  go_enter Tryd.func81, Tryd.ntmps81
  go_wp2_with fail
  refine (rdown_any (hi - a) 360000000 _ (by omega) (by omega) (by omega) (by omega)).mono ?_
  rintro e w1 ⟨rfl, rfl⟩
  go_wp2_with fail
  refine (rdown_any (lo - 1 - a) 360000000 _ (by omega) (by omega) (by omega) (by omega)).mono ?_
  rintro e w1 ⟨rfl, rfl⟩
  go_wp2_with fail
  go_ret
  exact ⟨rfl, Own.refl _ _⟩

set_option maxHeartbeats 400000 in
theorem angled_any (a : Int) : RetL 48 #[.int .i64 a] (.bool (decide (-3600000000 ≤ a ∧ a ≤ 3600000000))) := by
  intro w
  by_cases h0 : -3600000000 ≤ a
  · by_cases h1 : a ≤ 3600000000
    · rw [decide_eq_true ⟨h0, h1⟩]
      go_enter Tryd.func48, Tryd.ntmps48
      go_wp2_with fail
      go_ret
      exact ⟨rfl, Own.refl _ _⟩
    · rw [decide_eq_false (fun h => h1 h.2)]
      go_enter Tryd.func48, Tryd.ntmps48
      go_wp2_with fail
      go_ret
      exact ⟨rfl, Own.refl _ _⟩
  · rw [decide_eq_false (fun h => h0 h.1)]
    go_enter Tryd.func48, Tryd.ntmps48
    go_wp2_with fail
    go_ret
    exact ⟨rfl, Own.refl _ _⟩

set_option maxHeartbeats 1000000 in
theorem rsin_any (a : Int) : RetL 16 #[.int .i64 a] (enclE (sofLo a a) (sofHi a a) (angE a a)) := by
  intro w
  have A := hidden (angled_any a)
  by_cases h : -3600000000 ≤ a ∧ a ≤ 3600000000
  · obtain ⟨e0, e1, e2⟩ := sof_one a h.1 h.2
    rw [e0, e1, e2]
    rw [decide_eq_true h] at A
    have S := hidden (rsine_any a (by omega) (by omega))
    clear e0 e1 e2
    go_enter Tryd.func16, Tryd.ntmps16
    go_wp2_with fail
    refine (A.out.at _).mono ?_
    rintro e w1 ⟨rfl, hb1⟩
    have br := (Box.fresh w 0 0 23).below hb1.below
    have o1 : Own w.heap.size w w1 := ((Own.refl _ _).alloc (Nat.le_refl _) _).trans (hb1.mono (by simp))
    go_wp2_with fail
    refine (S.out.at _).mono ?_
    rintro e w2 ⟨rfl, hb2⟩
    have br := br.below hb2.below
    have o2 := o1.trans (hb2.mono o1.size)
    obtain ⟨c0, c1, c2, c3, c4⟩ := br
    go_wp2_with fail
    refine bodyPost_ret (v := enclE _ _ 0) (by simp [results, Tryd.results16, go_sem, c0, c1]) rfl ⟨rfl, ?_⟩
    exact (o2.put (Nat.le_refl _) _).put (Nat.le_refl _) _
  · rw [decide_eq_false h] at A
    have hn : inB a a (-3600000000) 3600000000 = false := decide_eq_false (by omega)
    unfold sofLo sofHi angE
    rw [hn, if_neg (by decide), if_neg (by decide), if_neg (by decide)]
    clear hn h
    go_enter Tryd.func16, Tryd.ntmps16
    go_wp2_with fail
    refine (A.out.at _).mono ?_
    rintro e w1 ⟨rfl, hb1⟩
    have br := (Box.fresh w 0 0 23).below hb1.below
    have o1 : Own w.heap.size w w1 := ((Own.refl _ _).alloc (Nat.le_refl _) _).trans (hb1.mono (by simp))
    obtain ⟨c0, c1, c2, c3, c4⟩ := br
    go_wp2_with fail
    refine bodyPost_ret (v := enclE 0 0 7) (by simp [results, Tryd.results16, go_sem, c0, c1]) rfl ⟨rfl, ?_⟩
    exact (o1.put (Nat.le_refl _) _).put (Nat.le_refl _) _
set_option maxHeartbeats 1000000 in
theorem rcos_any (a : Int) : RetL 18 #[.int .i64 a] (enclE (cofLo a a) (cofHi a a) (angE a a)) := by
  intro w
  have A := hidden (angled_any a)
  by_cases h : -3600000000 ≤ a ∧ a ≤ 3600000000
  · obtain ⟨e0, e1, e2⟩ := cof_one a h.1 h.2
    have e := sin_half (90000000 - a)
    rw [show 180000000 - (90000000 - a) = a + 90000000 by omega] at e
    rw [e0, e1, e2, ← e.1, ← e.2]
    rw [decide_eq_true h] at A
    have S := hidden (rsine_any (a + 90000000) (by omega) (by omega))
    clear e0 e1 e2 e
    go_enter Tryd.func18, Tryd.ntmps18
    go_wp2_with fail
    refine (A.out.at _).mono ?_
    rintro e w1 ⟨rfl, hb1⟩
    have br := (Box.fresh w 0 0 23).below hb1.below
    have o1 : Own w.heap.size w w1 := ((Own.refl _ _).alloc (Nat.le_refl _) _).trans (hb1.mono (by simp))
    go_wp2_with fail
    refine (S.out.at _).mono ?_
    rintro e w2 ⟨rfl, hb2⟩
    have br := br.below hb2.below
    have o2 := o1.trans (hb2.mono o1.size)
    obtain ⟨c0, c1, c2, c3, c4⟩ := br
    go_wp2_with fail
    refine bodyPost_ret (v := enclE _ _ 0) (by simp [results, Tryd.results18, go_sem, c0, c1]) rfl ⟨rfl, ?_⟩
    exact (o2.put (Nat.le_refl _) _).put (Nat.le_refl _) _
  · rw [decide_eq_false h] at A
    have hn : inB a a (-3600000000) 3600000000 = false := decide_eq_false (by omega)
    unfold cofLo cofHi angE
    rw [hn, if_neg (by decide), if_neg (by decide), if_neg (by decide)]
    clear hn h
    go_enter Tryd.func18, Tryd.ntmps18
    go_wp2_with fail
    refine (A.out.at _).mono ?_
    rintro e w1 ⟨rfl, hb1⟩
    have br := (Box.fresh w 0 0 23).below hb1.below
    have o1 : Own w.heap.size w w1 := ((Own.refl _ _).alloc (Nat.le_refl _) _).trans (hb1.mono (by simp))
    obtain ⟨c0, c1, c2, c3, c4⟩ := br
    go_wp2_with fail
    refine bodyPost_ret (v := enclE 0 0 7) (by simp [results, Tryd.results18, go_sem, c0, c1]) rfl ⟨rfl, ?_⟩
    exact (o1.put (Nat.le_refl _) _).put (Nat.le_refl _) _

theorem Box.hi {b : Nat} {l h : Int} {w : World} (k : Box b l h w) (v : Int) : Box b l v (w.setCell ⟨b, 1, none⟩ (.int .i64 v)) := by
  obtain ⟨k0, k1, k2, k3, k4⟩ := k
  refine ⟨?_, ?_, ?_, ?_, by simpa using k4⟩ <;> simp [go_sem, k0, k1, k2, k3]
theorem Box.far {b c i : Nat} {l h : Int} {w : World} (k : Box b l h w) (hn : b ≠ c) (u : Value) : Box b l h (w.setCell ⟨c, i, none⟩ u) := by
  obtain ⟨k0, k1, k2, k3, k4⟩ := k
  refine ⟨?_, ?_, ?_, ?_, by simpa using k4⟩ <;> simp [go_sem, k0, k1, k2, k3, hn, Ne.symm hn]

/-- an argument in its box, and all that a region leaves as it was -/
def KpS (W : World) (b : Nat) (l h : Int) (w : World) : Prop := w.cell? ⟨b, 0, none⟩ = some (.int .i64 l) ∧ w.cell? ⟨b, 1, none⟩ = some (.int .i64 h) ∧ b < W.heap.size ∧ Own W.heap.size W w
theorem KpS.call {W w w1 : World} {b : Nat} {l h : Int} (k : KpS W b l h w) (o : Own W.heap.size w w1) : KpS W b l h w1 :=
  ⟨by rw [o.cell (p := ⟨b, 0, none⟩) k.2.2.1]; exact k.1, by rw [o.cell (p := ⟨b, 1, none⟩) k.2.2.1]; exact k.2.1, k.2.2.1, k.2.2.2.trans o⟩

set_option maxRecDepth 100000 in
set_option maxHeartbeats 4000000 in
theorem rsines_walk (lo hi l0 h0 l1 h1 : Int) (w : World) (B1 B2 : Bool) (C1 : RetL 49 #[.int .i64 lo] (encl l0 h0)) (C2 : RetL 49 #[.int .i64 hi] (encl l1 h1))
    (C3 : RetL 81 #[.int .i64 lo, .int .i64 hi, .int .i64 90000000] (.bool B1)) (C4 : RetL 81 #[.int .i64 lo, .int .i64 hi, .int .i64 270000000] (.bool B2)) :
    Calls Tryd.prog 52 #[encl lo hi] w fun e w' => e = .returned (encl (if B2 then -100000000 else min l0 l1) (if B1 then 100000000 else max h0 h1)) ∧ Own w.heap.size w w' := by
  have D1 := hidden C1
  have D2 := hidden C2
  have P1 := hidden C3
  have P2 := hidden C4
  clear C1 C2 C3 C4
  go_enter Tryd.func52, Tryd.ntmps52
  go_wp2_with fail
  obtain ⟨W, hW⟩ : ∃ W, W = (w.alloc (.cells #[.int .i64 lo, .int .i64 hi] 23)).alloc (.cells #[.int .i64 0, .int .i64 0] 23) := ⟨_, rfl⟩
  have bx : Box w.heap.size lo hi W := by rw [hW]; exact (Box.fresh w lo hi _).alloc _
  have br : Box (w.heap.size + 1) 0 0 W := by rw [hW]; exact Box.freshAt (by simp) 0 0 _
  have o0 : Own w.heap.size w W := by rw [hW]; exact ((Own.refl _ _).alloc (Nat.le_refl _) _).alloc (by simp) _
  rw [← hW]
  clear hW
  go_cut [3, 4] (fun s3 s4 wx => ∃ g3 g4 : Nat, s3 = .pointer (some ⟨g3, 0, none⟩) ∧ s4 = .pointer (some ⟨g4, 0, none⟩) ∧ Box g3 l0 h0 wx ∧ Box g4 l1 h1 wx ∧ Box w.heap.size lo hi wx ∧ Box (w.heap.size + 1) 0 0 wx ∧ Own w.heap.size w wx)
  case first =>
    obtain ⟨xa, xb, _, _, xz⟩ := id bx
    obtain ⟨_, _, _, _, rz⟩ := id br
    have xz1 := Nat.le_of_lt xz
    have xz2 := Nat.ne_of_lt xz
    clear P1 P2
    have hS : KpS W w.heap.size lo hi W := ⟨xa, xb, xz, Own.refl _ _⟩
    go_region_held3 (fun w' => w'.cell? ⟨w.heap.size, 0, none⟩ = some (.int .i64 lo) ∧ w'.cell? ⟨w.heap.size, 1, none⟩ = some (.int .i64 hi) ∧ w.heap.size < W.heap.size ∧ Own W.heap.size W w')
      ((refine KpS.call hS ?_; (repeat' (first | (with_reducible exact Own.refl _ _) | (with_reducible refine Own.drew ?_) | (with_reducible refine Own.alloc ?_ ?_ _) | (with_reducible refine Own.setCell ?_ ?_ _) | (with_reducible refine Own.trans ?_ (hbp.mono ?_)) | (with_reducible refine Own.trans ?_ (hbr.mono ?_)))); all_goals (first | (simp; done) | (simp; omega) | omega)))
      (first | (go_at_call 49; with_reducible refine (RetL.at D1.out _).mono ?_; rintro e wp ⟨rfl, hbp⟩; have hcp := (bcell hbp).1; have hfp := (bcell hbp).2; have hzp := hbp.size; (try simp at hzp); (try (have hzp2 : W.heap.size < wp.heap.size := by omega)); (try (have hzp3 : W.heap.size + 1 < wp.heap.size := by omega)); (try (have hzp4 : wr.heap.size < wp.heap.size := by omega)); (try (have hzp5 : wr.heap.size + 1 < wp.heap.size := by omega))) | (go_at_call 49; with_reducible refine (RetL.at D2.out _).mono ?_; rintro e wr ⟨rfl, hbr⟩; have hcr := (bcell hbr).1; have hfr := (bcell hbr).2; have hzr := hbr.size; (try simp at hzr); (try (have hzr2 : W.heap.size < wr.heap.size := by omega)); (try (have hzr3 : W.heap.size + 1 < wr.heap.size := by omega)); (try (have hzr4 : wp.heap.size < wr.heap.size := by omega)); (try (have hzr5 : wp.heap.size + 1 < wr.heap.size := by omega))))
    all_goals go_wp2_with fail
    all_goals go_meet
    all_goals
      case rel =>
        refine ⟨_, _, rfl, rfl, ?_, ?_, ?_, ?_, ?_⟩
        · (repeat' (first | ((with_reducible refine Box.freshAt ?_ _ _ _); focus (simp; done)) | (with_reducible refine Box.alloc ?_ _) | (with_reducible refine Box.drew ?_) | (with_reducible refine Box.below ?_ hbp.below) | (with_reducible refine Box.below ?_ hbr.below) | (with_reducible refine Box.set (l := 0) (h := 0) ?_ _ _) | ((with_reducible refine Box.other ?_ ?_ _ _); rotate_left; focus (first | omega | (simp; omega)))))
        · (repeat' (first | ((with_reducible refine Box.freshAt ?_ _ _ _); focus (simp; done)) | (with_reducible refine Box.alloc ?_ _) | (with_reducible refine Box.drew ?_) | (with_reducible refine Box.below ?_ hbp.below) | (with_reducible refine Box.below ?_ hbr.below) | (with_reducible refine Box.set (l := 0) (h := 0) ?_ _ _) | ((with_reducible refine Box.other ?_ ?_ _ _); rotate_left; focus (first | omega | (simp; omega)))))
        · (repeat' (first | (with_reducible exact bx) | (with_reducible refine Box.alloc ?_ _) | (with_reducible refine Box.drew ?_) | (with_reducible refine Box.below ?_ hbp.below) | (with_reducible refine Box.below ?_ hbr.below) | ((with_reducible refine Box.other ?_ ?_ _ _); rotate_left; focus (first | omega | (simp; omega)))))
        · (repeat' (first | (with_reducible exact br) | (with_reducible refine Box.alloc ?_ _) | (with_reducible refine Box.drew ?_) | (with_reducible refine Box.below ?_ hbp.below) | (with_reducible refine Box.below ?_ hbr.below) | ((with_reducible refine Box.other ?_ ?_ _ _); rotate_left; focus (first | omega | (simp; omega)))))
        · ((repeat' (first | (with_reducible exact o0) | (with_reducible refine Own.drew ?_) | (with_reducible refine Own.alloc ?_ ?_ _) | (with_reducible refine Own.setCell ?_ ?_ _) | (with_reducible refine Own.trans ?_ (hbp.mono ?_)) | (with_reducible refine Own.trans ?_ (hbr.mono ?_)))); all_goals (first | (simp; done) | (simp; omega) | omega))
  case rest =>
    obtain ⟨g3, g4, rfl, rfl, b3, b4, bx, br, o1⟩ := hcut
    have hcz := br.2.2.2.2
    obtain ⟨p0, p1, _, _, pz⟩ := b3
    obtain ⟨q0, q1, _, _, qz⟩ := b4
    obtain ⟨x0, x1, x2, x3, xz⟩ := id bx
    go_wp2_with fail
    refine (P1.out.at _).mono ?_
    rintro e wa ⟨rfl, hba⟩
    have bo := (Box.fresh wc (min l0 l1) (max h0 h1) 23).below hba.below
    have bx := (bx.alloc (.cells #[.int .i64 (min l0 l1), .int .i64 (max h0 h1)] 23)).below hba.below
    have br := (br.alloc (.cells #[.int .i64 (min l0 l1), .int .i64 (max h0 h1)] 23)).below hba.below
    have ho := Own.size o1
    have o2 := (o1.alloc ho (.cells #[.int .i64 (min l0 l1), .int .i64 (max h0 h1)] 23)).trans (hba.mono (by simp; omega))
    have hr0 : w.heap.size + 1 < wc.heap.size := by
      have := hcz
      exact this
    clear hba x0 x1 x2 x3 xz p0 p1 q0 q1
    obtain ⟨x0, x1, x2, x3, xz⟩ := bx
    obtain ⟨v0, v1, v2, v3, vz⟩ := id bo
    cases B1
    · go_wp2_with fail
      refine (P2.out.at _).mono ?_
      rintro e wb ⟨rfl, hbb⟩
      have bo := bo.below hbb.below
      have br := br.below hbb.below
      have o3 := o2.trans (hbb.mono o2.size)
      obtain ⟨u0, u1, u2, u3, uz⟩ := bo
      obtain ⟨r0, r1, r2, r3, rz⟩ := br
      cases B2
      · go_wp2_with fail
        refine bodyPost_ret (v := encl _ _) (by simp [results, Tryd.results52, go_sem, r0, r1, r2, r3]) rfl ⟨rfl, ?_⟩
        exact (o3.put (by omega) _).put (by omega) _
      · go_wp2_with fail
        refine bodyPost_ret (v := encl _ _) (by simp [results, Tryd.results52, go_sem, r0, r1, r2, r3]) rfl ⟨rfl, ?_⟩
        exact ((o3.put ho _).put (by omega) _).put (by omega) _
    · go_wp2_with fail
      refine (P2.out.at _).mono ?_
      rintro e wb ⟨rfl, hbb⟩
      have bo := (bo.hi 100000000).below hbb.below
      have br := (br.far (by omega) _).below hbb.below
      have o3 := ((o2.put (i := 1) ho (.int .i64 100000000))).trans (hbb.mono (by simpa using o2.size))
      obtain ⟨u0, u1, u2, u3, uz⟩ := bo
      obtain ⟨r0, r1, r2, r3, rz⟩ := br
      cases B2
      · go_wp2_with fail
        refine bodyPost_ret (v := encl _ _) (by simp [results, Tryd.results52, go_sem, r0, r1, r2, r3]) rfl ⟨rfl, ?_⟩
        exact (o3.put (by omega) _).put (by omega) _
      · go_wp2_with fail
        refine bodyPost_ret (v := encl _ _) (by simp [results, Tryd.results52, go_sem, r0, r1, r2, r3]) rfl ⟨rfl, ?_⟩
        exact ((o3.put ho _).put (by omega) _).put (by omega) _

/-- what sines returns -/
theorem rsines_any (lo hi : Int) (b1 : -8000000000 ≤ lo ∧ lo ≤ 8000000000) (b2 : -8000000000 ≤ hi ∧ hi ≤ 8000000000) : RetL 52 #[encl lo hi] (encl (siLo lo hi) (siHi lo hi)) := by
  intro w
  have P2 : RetL 81 #[.int .i64 lo, .int .i64 hi, .int .i64 270000000] (.bool (pas lo hi (-90000000))) := fun w => by
    have := rpasses_any lo hi 270000000 w b1 b2 (by omega)
    rw [pas_turn] at this
    exact this
  have h := rsines_walk lo hi (sinLo lo) (sinHi lo) (sinLo hi) (sinHi hi) w _ _ (rsine_any lo (by omega) (by omega)) (rsine_any hi (by omega) (by omega)) (fun w => rpasses_any lo hi 90000000 w b1 b2 (by omega)) P2
  have e1 : siLo lo hi = if pas lo hi (-90000000) then -100000000 else min (sinLo lo) (sinLo hi) := by
    unfold siLo
    cases pas lo hi (-90000000)
    · show (if sinLo hi < sinLo lo then sinLo hi else sinLo lo) = min (sinLo lo) (sinLo hi)
      split <;> omega
    · rfl
  have e2 : siHi lo hi = if pas lo hi 90000000 then 100000000 else max (sinHi lo) (sinHi hi) := by
    unfold siHi
    cases pas lo hi 90000000
    · show (if sinHi lo < sinHi hi then sinHi hi else sinHi lo) = max (sinHi lo) (sinHi hi)
      split <;> omega
    · rfl
  rw [e1, e2]
  exact h
end Go.Proofs.YtdikelijnachjaaDoor
