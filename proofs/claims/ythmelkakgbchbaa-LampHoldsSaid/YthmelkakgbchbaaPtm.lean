/- LampParts: near; what Over and Intensity say of a rectangle, of its halves, and of a point of it, in plain words. -/
import Derived.Test.YthmelkakgbchbaaHld
import Derived.Test.YthmelkakgbchbaaInt
import Derived.Deep.DrawnRows
import Derived.Deep.RegionHeld3
namespace Go.Proofs.Ythmelkakgbchbaa
set_option linter.unusedSimpArgs false
set_option linter.unusedVariables false
open Go.RowKit
attribute [local go_sem ↓] Go.wp_at_zero Go.wp_at_succ

theorem below_cells {s B : Nat} {W W1 : World} (k : Below B W W1) (hs : s < B) (o : Nat) : W1.cell? ⟨s, o, none⟩ = W.cell? ⟨s, o, none⟩ := k.cell (p := ⟨s, o, none⟩) hs

/-- an enclosure that is in another one, up to 1 -/
theorem near_yes {a b c d : Int} (h0 : c - 1 ≤ a) (h1 : b ≤ d + 1) (c0 : 0 ≤ c) (c1 : c ≤ 10000000) (d0 : 0 ≤ d) (d1 : d ≤ 10000000) (w : World) :
    Calls Try.prog 38 #[.agg #[.int .i64 a, .int .i64 b], .agg #[.int .i64 c, .int .i64 d]] w fun e w' => e = .returned (.bool true) ∧ Below w.heap.size w w' := by
  have e0 : IntKind.i64.wrap (c - 1) = c - 1 := IntWalk.i64_in _ (by omega)
  have e1 : IntKind.i64.wrap (d + 1) = d + 1 := IntWalk.i64_in _ (by omega)
  have bw : Below w.heap.size w ((w.alloc (.cells #[.int .i64 a, .int .i64 b] 35)).alloc (.cells #[.int .i64 c, .int .i64 d] 35)) := ((Below.refl _ _).alloc (Nat.le_refl _) _).alloc (by simp) _
  have d0 : decide (c - 1 ≤ a) = true := decide_eq_true h0
  have d1 : decide (b ≤ d + 1) = true := decide_eq_true h1
  go_enter Try.func38, Try.ntmps38
  go_wp2_with fail
  (try go_quiet (fail))
  (try go_wp2_with fail)
  go_ret
  refine ⟨rfl, ?_⟩
  first | exact bw | exact bw.trans (((Own.refl _ _).drewN _).below.mono bw.size)

/-- where Over does not refuse -/
structure OvOk (c : Cat) (n x0 x1 y0 y1 h : Int) : Prop where
  e : ovE c n x0 x1 y0 y1 h = 0
  ok : TabOk (tabAt c.tabs n.toNat)
  n0 : 0 ≤ n
  n1 : n.toNat < c.tabs.length
  gh0 : 1 ≤ h
  gh1 : h ≤ 30000
  gx0 : -200000 ≤ x0
  gx01 : x0 ≤ x1
  gx1 : x1 ≤ 200000
  gy0 : -200000 ≤ y0
  gy01 : y0 ≤ y1
  gy1 : y1 ≤ 200000
  lo : ovLo c n x0 x1 y0 y1 h = hullLo (fnd (tabAt c.tabs n.toNat) x0 x1 y0 y1 h)
  hi : ovHi c n x0 x1 y0 y1 h = hullHi (fnd (tabAt c.tabs n.toNat) x0 x1 y0 y1 h)
theorem ov_ok {c : Cat} {n x0 x1 y0 y1 h : Int} (hE : ovE c n x0 x1 y0 y1 h = 0) : OvOk c n x0 x1 y0 y1 h := by
  have h1 : errOf c n c.tabs.length = 0 ∧ rectE x0 x1 y0 y1 h = 0 := by
    unfold ovE at hE
    split at hE
    · rename_i g; exact absurd hE g
    · rename_i g; exact ⟨by omega, hE⟩
  obtain ⟨ok, k0, k1⟩ := errOf_ok h1.1
  obtain ⟨r0, r1, r2, r3, r4, r5, r6, r7⟩ := rectE_ok h1.2
  have hn : n.toNat < c.tabs.length := by omega
  exact ⟨hE, ok.tab _ hn, k0, hn, r0, r1, r2, r3, r4, r5, r6, r7, by unfold ovLo; rw [hE, if_neg (by decide)], by unfold ovHi; rw [hE, if_neg (by decide)]⟩
theorem OvOk.part {c : Cat} {n x0 x1 y0 y1 h a0 a1 b0 b1 : Int} (k : OvOk c n x0 x1 y0 y1 h) (e0 : x0 ≤ a0) (e1 : a0 ≤ a1) (e2 : a1 ≤ x1) (e3 : y0 ≤ b0) (e4 : b0 ≤ b1) (e5 : b1 ≤ y1) :
    ovE c n a0 a1 b0 b1 h = 0 ∧ ovLo c n x0 x1 y0 y1 h - 1 ≤ ovLo c n a0 a1 b0 b1 h ∧ ovHi c n a0 a1 b0 b1 h ≤ ovHi c n x0 x1 y0 y1 h + 1 := by
  have g0 : errOf c n c.tabs.length = 0 := by
    have := k.e
    unfold ovE at this
    split at this
    · rename_i g; exact absurd this g
    · rename_i g; omega
  have hE : ovE c n a0 a1 b0 b1 h = 0 := by
    unfold ovE
    rw [g0, if_neg (by decide)]
    unfold rectE
    have := k.gh0; have := k.gh1; have := k.gx0; have := k.gx1; have := k.gy0; have := k.gy1
    rw [if_neg (by simp [inB, allB]; omega), if_neg (by simp; omega)]
  have j := ov_ok hE
  obtain ⟨f0, f1⟩ := fnd_near k.ok k.gh0 k.gh1 k.gx0 k.gx1 k.gy0 k.gy1 e0 e1 e2 e3 e4 e5
  exact ⟨hE, by rw [k.lo, j.lo]; exact f0, by rw [k.hi, j.hi]; exact f1⟩
theorem OvOk.bd {c : Cat} {n x0 x1 y0 y1 h : Int} (k : OvOk c n x0 x1 y0 y1 h) : 0 ≤ ovLo c n x0 x1 y0 y1 h ∧ ovLo c n x0 x1 y0 y1 h ≤ ovHi c n x0 x1 y0 y1 h ∧ ovHi c n x0 x1 y0 y1 h ≤ 10000000 := by
  rw [k.lo, k.hi]
  exact hull_bd k.ok k.gh0 k.gh1 k.gx0 k.gx01 k.gx1 k.gy0 k.gy01 k.gy1
theorem OvOk.halfX {c : Cat} {n x0 x1 y0 y1 h m : Int} (k : OvOk c n x0 x1 y0 y1 h) (e0 : x0 ≤ m) (e1 : m ≤ x1) :
    min (ovLo c n x0 m y0 y1 h) (ovLo c n m x1 y0 y1 h) ≤ ovLo c n x0 x1 y0 y1 h ∧ ovHi c n x0 x1 y0 y1 h ≤ max (ovHi c n x0 m y0 y1 h) (ovHi c n m x1 y0 y1 h) := by
  have a := ov_ok (k.part (a0 := x0) (a1 := m) (b0 := y0) (b1 := y1) (Int.le_refl _) e0 e1 (Int.le_refl _) k.gy01 (Int.le_refl _)).1
  have b := ov_ok (k.part (a0 := m) (a1 := x1) (b0 := y0) (b1 := y1) e0 e1 (Int.le_refl _) (Int.le_refl _) k.gy01 (Int.le_refl _)).1
  rw [k.lo, k.hi, a.lo, a.hi, b.lo, b.hi]
  exact fnd_halves e0 e1 k.gy01
theorem OvOk.halfY {c : Cat} {n x0 x1 y0 y1 h m : Int} (k : OvOk c n x0 x1 y0 y1 h) (e0 : y0 ≤ m) (e1 : m ≤ y1) :
    min (ovLo c n x0 x1 y0 m h) (ovLo c n x0 x1 m y1 h) ≤ ovLo c n x0 x1 y0 y1 h ∧ ovHi c n x0 x1 y0 y1 h ≤ max (ovHi c n x0 x1 y0 m h) (ovHi c n x0 x1 m y1 h) := by
  have a := ov_ok (k.part (a0 := x0) (a1 := x1) (b0 := y0) (b1 := m) (Int.le_refl _) k.gx01 (Int.le_refl _) (Int.le_refl _) e0 e1).1
  have b := ov_ok (k.part (a0 := x0) (a1 := x1) (b0 := m) (b1 := y1) (Int.le_refl _) k.gx01 (Int.le_refl _) e0 e1 (Int.le_refl _)).1
  rw [k.lo, k.hi, a.lo, a.hi, b.lo, b.hi]
  exact fnd_halves' e0 e1 k.gx01
/-- so many 255ths of a side -/
theorem at255 {x0 x1 k : Int} (h : x0 ≤ x1) (k0 : 0 ≤ k) (k1 : k ≤ 255) : ((x1 - x0) * k).tdiv 255 = (x1 - x0) * k / 255 ∧ x0 ≤ x0 + (x1 - x0) * k / 255 ∧ x0 + (x1 - x0) * k / 255 ≤ x1 ∧ 0 ≤ (x1 - x0) * k ∧ (x1 - x0) * k ≤ (x1 - x0) * 255 := by
  have p0 := Int.mul_nonneg (show 0 ≤ x1 - x0 by omega) k0
  have p1 := Int.mul_le_mul_of_nonneg_left k1 (show 0 ≤ x1 - x0 by omega)
  have e : ((x1 - x0) * k).tdiv 255 = (x1 - x0) * k / 255 := by rw [Int.tdiv_eq_ediv_of_nonneg p0]
  generalize (x1 - x0) * k = z at *
  exact ⟨e, by omega, by omega, p0, p1⟩
end Go.Proofs.Ythmelkakgbchbaa
