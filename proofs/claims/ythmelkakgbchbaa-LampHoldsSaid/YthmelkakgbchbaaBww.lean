/- LampBetween: what Intensity returns, in plain words; the boxes of the law; its way where Intensity refuses. -/
import Derived.Test.YthmelkakgbchbaaBwa
import Derived.Test.YthmelkakgbchbaaInt
import Derived.Test.YthmelkakgbchbaaAwk
namespace Go.Proofs.Ythmelkakgbchbaa
set_option linter.unusedSimpArgs false
set_option linter.unusedVariables false
open Go.RowKit
attribute [local go_sem ↓] Go.wp_at_zero Go.wp_at_succ

/-- where Intensity does not refuse: all that it has found, and the interpolation -/
theorem ov_point {c : Cat} {n x y h : Int} (hE : ovE c n x x y y h = 0) : errOf c n c.tabs.length = 0 ∧ TabOk (tabAt c.tabs n.toNat) ∧ 0 ≤ n ∧ n.toNat < c.tabs.length ∧ 1 ≤ h ∧ h ≤ 30000 ∧ (-200000 ≤ x ∧ x ≤ 200000) ∧ (-200000 ≤ y ∧ y ≤ 200000) ∧
    ovLo c n x x y y h = (rval (tabAt c.tabs n.toNat) h (1000 * x) (1000 * y)).1 ∧ ovHi c n x x y y h = (rval (tabAt c.tabs n.toNat) h (1000 * x) (1000 * y)).2 := by
  have h1 : errOf c n c.tabs.length = 0 ∧ rectE x x y y h = 0 := by
    unfold ovE at hE
    split at hE
    · rename_i g; exact absurd hE g
    · rename_i g; exact ⟨by omega, hE⟩
  obtain ⟨ok, k0, k1⟩ := errOf_ok h1.1
  obtain ⟨r0, r1, r2, _, r3, r4, _, r5⟩ := rectE_ok h1.2
  have hn : n.toNat < c.tabs.length := by omega
  have ot := ok.tab _ hn
  obtain ⟨e0, e1⟩ := fnd_point ot r0 r1 r2 r3 r4 r5
  refine ⟨h1.1, ot, k0, hn, r0, r1, ⟨r2, r3⟩, ⟨r4, r5⟩, ?_, ?_⟩
  · unfold ovLo; rw [hE, if_neg (by decide), e0]
  · unfold ovHi; rw [hE, if_neg (by decide), e1]

/-- at the tangents of a table, a thousand mm below: its own value -/
theorem ov_at {c : Cat} {n : Int} (h0 : errOf c n c.tabs.length = 0) (ot : TabOk (tabAt c.tabs n.toNat)) {i k : Nat} (hi : i < (tabAt c.tabs n.toNat).us.xs.length) (hk : k < (tabAt c.tabs n.toNat).vs.xs.length) :
    ovE c n (nth (tabAt c.tabs n.toNat).us.xs i) (nth (tabAt c.tabs n.toNat).us.xs i) (nth (tabAt c.tabs n.toNat).vs.xs k) (nth (tabAt c.tabs n.toNat).vs.xs k) 1000 = 0 ∧
    ovLo c n (nth (tabAt c.tabs n.toNat).us.xs i) (nth (tabAt c.tabs n.toNat).us.xs i) (nth (tabAt c.tabs n.toNat).vs.xs k) (nth (tabAt c.tabs n.toNat).vs.xs k) 1000 = tval (tabAt c.tabs n.toNat) i k ∧
    ovHi c n (nth (tabAt c.tabs n.toNat).us.xs i) (nth (tabAt c.tabs n.toNat).us.xs i) (nth (tabAt c.tabs n.toNat).vs.xs k) (nth (tabAt c.tabs n.toNat).vs.xs k) 1000 = tval (tabAt c.tabs n.toNat) i k := by
  have u0 := ot.us.lo i hi
  have u1 := ot.us.hi i hi
  have v0 := ot.vs.lo k hk
  have v1 := ot.vs.hi k hk
  have hE : ovE c n (nth (tabAt c.tabs n.toNat).us.xs i) (nth (tabAt c.tabs n.toNat).us.xs i) (nth (tabAt c.tabs n.toNat).vs.xs k) (nth (tabAt c.tabs n.toNat).vs.xs k) 1000 = 0 := by
    unfold ovE
    rw [h0, if_neg (by decide)]
    unfold rectE
    rw [if_neg (by simp [inB, allB]; omega), if_neg (by simp)]
  obtain ⟨_, _, _, _, _, _, _, _, e0, e1⟩ := ov_point hE
  have r := rval_at ot (show (1 : Int) ≤ 1000 by decide) (by decide) hi hk
  rw [Int.mul_comm _ 1000, Int.mul_comm _ 1000] at r
  rw [r] at e0 e1
  exact ⟨hE, e0, e1⟩

/-- the boxes of a catalogue, a place and two bytes -/
structure Kbw (c : Cat) (n x y h p q : Int) (s : Nat) (W : World) : Prop where
  t0 : W.cell? ⟨s, 0, none⟩ = some (.slice c.ta c.tabs.length c.tc)
  t1 : W.cell? ⟨s, 1, none⟩ = some (.slice c.la c.lamps.length c.lc)
  b0 : W.cell? ⟨s + 1, 0, none⟩ = some (.int .i64 n)
  b1 : W.cell? ⟨s + 1, 1, none⟩ = some (.int .i64 x)
  b2 : W.cell? ⟨s + 1, 2, none⟩ = some (.int .i64 y)
  b3 : W.cell? ⟨s + 1, 3, none⟩ = some (.int .i64 h)
  a0 : W.cell? ⟨s + 1 + 1, 0, none⟩ = some (.int .u8 p)
  a1 : W.cell? ⟨s + 1 + 1, 1, none⟩ = some (.int .u8 q)
theorem Kbw.keep {c : Cat} {n x y h p q : Int} {s B : Nat} {W W1 : World} (g : Kbw c n x y h p q s W) (k : Below B W W1) (hs : s + 1 + 1 < B) : Kbw c n x y h p q s W1 := by
  refine ⟨?_, ?_, ?_, ?_, ?_, ?_, ?_, ?_⟩
  · rw [k.cell (p := ⟨s, 0, none⟩) (by show s < B; omega)]; exact g.t0
  · rw [k.cell (p := ⟨s, 1, none⟩) (by show s < B; omega)]; exact g.t1
  · rw [k.cell (p := ⟨s + 1, 0, none⟩) (by show s + 1 < B; omega)]; exact g.b0
  · rw [k.cell (p := ⟨s + 1, 1, none⟩) (by show s + 1 < B; omega)]; exact g.b1
  · rw [k.cell (p := ⟨s + 1, 2, none⟩) (by show s + 1 < B; omega)]; exact g.b2
  · rw [k.cell (p := ⟨s + 1, 3, none⟩) (by show s + 1 < B; omega)]; exact g.b3
  · rw [k.cell (p := ⟨s + 1 + 1, 0, none⟩) (by show s + 1 + 1 < B; omega)]; exact g.a0
  · rw [k.cell (p := ⟨s + 1 + 1, 1, none⟩) (by show s + 1 + 1 < B; omega)]; exact g.a1

set_option maxRecDepth 100000 in
set_option maxHeartbeats 4000000 in
theorem between_bad (c : Cat) (n x y h p q : Int) (w : World) (hc : CatIn w.heap.size c w) (hE : ovE c n x x y y h ≠ 0) :
    Calls Try.prog 9 #[.agg #[c.tv, c.lv], .agg #[.int .i64 n, .int .i64 x, .int .i64 y, .int .i64 h], .agg #[.int .u8 p, .int .u8 q]] w fun e w' => e = .returned (.bool true) ∧ Below w.heap.size w w' := by
  have HC := Lib.hid hc
  clear hc
  have IC := Lib.hid (fun W (g : CatIn W.heap.size c W) => Intensity_any c n x y h W g)
  generalize ovLo c n x x y y h = f0 at *
  generalize ovHi c n x x y y h = f1 at *
  generalize ovE c n x x y y h = f2 at *
  unfold Cat.tv Cat.lv at *
  have bw0 : Below w.heap.size w (((w.alloc (.cells #[.slice c.ta c.tabs.length c.tc, .slice c.la c.lamps.length c.lc] 25)).alloc (.cells #[.int .i64 n, .int .i64 x, .int .i64 y, .int .i64 h] 33)).alloc (.cells #[.int .u8 p, .int .u8 q] 57)) := (((Below.refl _ _).alloc (Nat.le_refl _) _).alloc (by simp) _).alloc (by simp; omega) _
  have ka0 : Kbw c n x y h p q w.heap.size (((w.alloc (.cells #[.slice c.ta c.tabs.length c.tc, .slice c.la c.lamps.length c.lc] 25)).alloc (.cells #[.int .i64 n, .int .i64 x, .int .i64 y, .int .i64 h] 33)).alloc (.cells #[.int .u8 p, .int .u8 q] 57)) := by constructor <;> simp [go_sem]
  have sz0 : w.heap.size + 1 + 1 < (((w.alloc (.cells #[.slice c.ta c.tabs.length c.tc, .slice c.la c.lamps.length c.lc] 25)).alloc (.cells #[.int .i64 n, .int .i64 x, .int .i64 y, .int .i64 h] 33)).alloc (.cells #[.int .u8 p, .int .u8 q] 57)).heap.size := by simp
  have CI := Lib.hid (fun (W : World) (g : Below w.heap.size w W) => (HC.out.keep g (Nat.le_refl _)).more g.size)
  have BW0 := Lib.hid bw0
  have KA0 := Lib.hid ka0
  have SZ0 := Lib.hid sz0
  clear bw0 ka0 sz0
  go_enter Try.func9, Try.ntmps9
  go_wp2_with fail
  generalize (((w.alloc (.cells #[.slice c.ta c.tabs.length c.tc, .slice c.la c.lamps.length c.lc] 25)).alloc (.cells #[.int .i64 n, .int .i64 x, .int .i64 y, .int .i64 h] 33)).alloc (.cells #[.int .u8 p, .int .u8 q] 57)) = W0 at *
  refine (IC.out _ (CI.out _ BW0.out)).mono ?_
  rintro e w1 ⟨rfl, o1⟩
  have KA1 := Lib.hid (KA0.out.keep o1 SZ0.out)
  have BW1 := Lib.hid ((BW0.out.trans (o1.mono BW0.out.size)).alloc (Nat.le_trans BW0.out.size o1.size) (.cells #[.int .i64 f0, .int .i64 f1] 35))
  have de : decide (f2 = 0) = false := decide_eq_false hE
  clear o1 KA1
  go_wp2_with fail
  refine (awake_any _).mono ?_
  rintro e w3 ⟨rfl, b3'⟩
  go_wp2_with fail
  go_ret
  exact ⟨rfl, BW1.out.trans (b3'.mono BW1.out.size)⟩
end Go.Proofs.Ythmelkakgbchbaa
