/- The walk of LampAges. -/
import Derived.Test.YthmelkakgbchbaaAgm
import Derived.Test.YthmelkakgbchbaaAwk
namespace Go.Proofs.Ythmelkakgbchbaa
set_option linter.unusedSimpArgs false
set_option linter.unusedVariables false
open Go.RowKit
attribute [local go_sem ↓] Go.wp_at_zero Go.wp_at_succ

/-- the boxes of a catalogue, a beam and another use -/
structure Kag (c : Cat) (n a m v x0 x1 y0 y1 h a' m' v' : Int) (s : Nat) (W : World) : Prop where
  t0 : W.cell? ⟨s, 0, none⟩ = some (.slice c.ta c.tabs.length c.tc)
  t1 : W.cell? ⟨s, 1, none⟩ = some (.slice c.la c.lamps.length c.lc)
  b0 : W.cell? ⟨s + 1, 0, none⟩ = some (.int .i64 n)
  b1 : W.cell? ⟨s + 1, 1, none⟩ = some (.int .i64 a)
  b2 : W.cell? ⟨s + 1, 2, none⟩ = some (.int .i64 m)
  b3 : W.cell? ⟨s + 1, 3, none⟩ = some (.int .i64 v)
  b4 : W.cell? ⟨s + 1, 4, none⟩ = some (.int .i64 x0)
  b5 : W.cell? ⟨s + 1, 5, none⟩ = some (.int .i64 x1)
  b6 : W.cell? ⟨s + 1, 6, none⟩ = some (.int .i64 y0)
  b7 : W.cell? ⟨s + 1, 7, none⟩ = some (.int .i64 y1)
  b8 : W.cell? ⟨s + 1, 8, none⟩ = some (.int .i64 h)
  p0 : W.cell? ⟨s + 1 + 1 + 1, 0, none⟩ = some (.int .i64 a')
  p1 : W.cell? ⟨s + 1 + 1 + 1, 1, none⟩ = some (.int .i64 m')
  p2 : W.cell? ⟨s + 1 + 1 + 1, 2, none⟩ = some (.int .i64 v')
theorem Kag.keep {c : Cat} {n a m v x0 x1 y0 y1 h a' m' v' : Int} {s B : Nat} {W W1 : World} (g : Kag c n a m v x0 x1 y0 y1 h a' m' v' s W) (k : Below B W W1) (hs : s + 1 + 1 + 1 < B) : Kag c n a m v x0 x1 y0 y1 h a' m' v' s W1 := by
  refine ⟨?_, ?_, ?_, ?_, ?_, ?_, ?_, ?_, ?_, ?_, ?_, ?_, ?_, ?_⟩
  · rw [k.cell (p := ⟨s, 0, none⟩) (by show s < B; omega)]; exact g.t0
  · rw [k.cell (p := ⟨s, 1, none⟩) (by show s < B; omega)]; exact g.t1
  · rw [k.cell (p := ⟨s + 1, 0, none⟩) (by show s + 1 < B; omega)]; exact g.b0
  · rw [k.cell (p := ⟨s + 1, 1, none⟩) (by show s + 1 < B; omega)]; exact g.b1
  · rw [k.cell (p := ⟨s + 1, 2, none⟩) (by show s + 1 < B; omega)]; exact g.b2
  · rw [k.cell (p := ⟨s + 1, 3, none⟩) (by show s + 1 < B; omega)]; exact g.b3
  · rw [k.cell (p := ⟨s + 1, 4, none⟩) (by show s + 1 < B; omega)]; exact g.b4
  · rw [k.cell (p := ⟨s + 1, 5, none⟩) (by show s + 1 < B; omega)]; exact g.b5
  · rw [k.cell (p := ⟨s + 1, 6, none⟩) (by show s + 1 < B; omega)]; exact g.b6
  · rw [k.cell (p := ⟨s + 1, 7, none⟩) (by show s + 1 < B; omega)]; exact g.b7
  · rw [k.cell (p := ⟨s + 1, 8, none⟩) (by show s + 1 < B; omega)]; exact g.b8
  · rw [k.cell (p := ⟨s + 1 + 1 + 1, 0, none⟩) (by show s + 1 + 1 + 1 < B; omega)]; exact g.p0
  · rw [k.cell (p := ⟨s + 1 + 1 + 1, 1, none⟩) (by show s + 1 + 1 + 1 < B; omega)]; exact g.p1
  · rw [k.cell (p := ⟨s + 1 + 1 + 1, 2, none⟩) (by show s + 1 + 1 + 1 < B; omega)]; exact g.p2

set_option maxRecDepth 100000 in
set_option maxHeartbeats 8000000 in
theorem ages_any (c : Cat) (n a m v x0 x1 y0 y1 h d0 d1 d2 : Int) (w : World) (hc : CatIn w.heap.size c w) (hd0 : 0 ≤ d0 ∧ d0 ≤ 65535) (hd1 : 0 ≤ d1 ∧ d1 ≤ 65535) (hd2 : 0 ≤ d2 ∧ d2 ≤ 65535) :
    Calls Try.prog 14 #[.agg #[c.tv, c.lv], .agg #[.int .i64 n, .int .i64 a, .int .i64 m, .int .i64 v, .int .i64 x0, .int .i64 x1, .int .i64 y0, .int .i64 y1, .int .i64 h], .agg #[.int .u16 d0, .int .u16 d1, .int .u16 d2]] w fun e w' => e = .returned (.bool true) ∧ Below w.heap.size w w' := by
  have HC := Lib.hid hc
  clear hc
  obtain ⟨hd0, hd0'⟩ := hd0
  obtain ⟨hd1, hd1'⟩ := hd1
  obtain ⟨hd2, hd2'⟩ := hd2
  have wd0 : IntKind.i64.wrap d0 = d0 := IntWalk.i64_in _ (by omega)
  have wd1 : IntKind.i64.wrap d1 = d1 := IntWalk.i64_in _ (by omega)
  have wd2 : IntKind.i64.wrap d2 = d2 := IntWalk.i64_in _ (by omega)
  obtain ⟨a', ha⟩ : ∃ a', IntKind.i64.wrap (a + d0) = a' := ⟨_, rfl⟩
  obtain ⟨m', hm⟩ : ∃ m', IntKind.i64.wrap (m + d1) = m' := ⟨_, rfl⟩
  obtain ⟨v', hv⟩ : ∃ v', IntKind.i64.wrap (v - d2) = v' := ⟨_, rfl⟩
  have FA := Lib.hid (ages_facts c n a m v a' m' v' d0 d1 d2 x0 x1 y0 y1 h hd0 hd0' hd1 hd1' hd2 hd2' ha hm hv)
  have FL := Lib.hid (fun W (g : CatIn W.heap.size c W) => Flux_any c n a m v W g)
  have FM := Lib.hid (fun W (g : CatIn W.heap.size c W) => Flux_any c n a' m' v' W g)
  have PL := Lib.hid (fun W (g : CatIn W.heap.size c W) => Power_any c n v W g)
  have PM := Lib.hid (fun W (g : CatIn W.heap.size c W) => Power_any c n v' W g)
  have TL := Lib.hid (fun W (g : CatIn W.heap.size c W) => Towards_any c n a m v x0 x1 y0 y1 h W g)
  have TM := Lib.hid (fun W (g : CatIn W.heap.size c W) => Towards_any c n a' m' v' x0 x1 y0 y1 h W g)
  generalize fxLo c n a m v = f0 at *
  generalize fxHi c n a m v = f1 at *
  generalize fxE c n a m v = f2 at *
  generalize fxLo c n a' m' v' = g0 at *
  generalize fxHi c n a' m' v' = g1 at *
  generalize fxE c n a' m' v' = g2 at *
  generalize pwLoN c n v = k0 at *
  generalize pwHiN c n v = k1 at *
  generalize pwE c n v = k2 at *
  generalize pwLoN c n v' = l0 at *
  generalize pwHiN c n v' = l1 at *
  generalize pwE c n v' = l2 at *
  generalize twLo c n a m v x0 x1 y0 y1 h = r0 at *
  generalize twHi c n a m v x0 x1 y0 y1 h = r1 at *
  generalize twE c n a m v x0 x1 y0 y1 h = r2 at *
  generalize twLo c n a' m' v' x0 x1 y0 y1 h = s0 at *
  generalize twHi c n a' m' v' x0 x1 y0 y1 h = s1 at *
  generalize twE c n a' m' v' x0 x1 y0 y1 h = s2 at *
  unfold Cat.tv Cat.lv at *
  have bw0 : Below w.heap.size w ((((w.alloc (.cells #[.slice c.ta c.tabs.length c.tc, .slice c.la c.lamps.length c.lc] 25)).alloc (.cells #[.int .i64 n, .int .i64 a, .int .i64 m, .int .i64 v, .int .i64 x0, .int .i64 x1, .int .i64 y0, .int .i64 y1, .int .i64 h] 54)).alloc (.cells #[.int .u16 d0, .int .u16 d1, .int .u16 d2] 78)).alloc (.cells #[.int .i64 a', .int .i64 m', .int .i64 v'] 48)) := ((((Below.refl _ _).alloc (Nat.le_refl _) _).alloc (by simp) _).alloc (by simp; omega) _).alloc (by simp; omega) _
  have ka0 : Kag c n a m v x0 x1 y0 y1 h a' m' v' w.heap.size ((((w.alloc (.cells #[.slice c.ta c.tabs.length c.tc, .slice c.la c.lamps.length c.lc] 25)).alloc (.cells #[.int .i64 n, .int .i64 a, .int .i64 m, .int .i64 v, .int .i64 x0, .int .i64 x1, .int .i64 y0, .int .i64 y1, .int .i64 h] 54)).alloc (.cells #[.int .u16 d0, .int .u16 d1, .int .u16 d2] 78)).alloc (.cells #[.int .i64 a', .int .i64 m', .int .i64 v'] 48)) := by constructor <;> simp [go_sem]
  have sz0 : w.heap.size + 1 + 1 + 1 < ((((w.alloc (.cells #[.slice c.ta c.tabs.length c.tc, .slice c.la c.lamps.length c.lc] 25)).alloc (.cells #[.int .i64 n, .int .i64 a, .int .i64 m, .int .i64 v, .int .i64 x0, .int .i64 x1, .int .i64 y0, .int .i64 y1, .int .i64 h] 54)).alloc (.cells #[.int .u16 d0, .int .u16 d1, .int .u16 d2] 78)).alloc (.cells #[.int .i64 a', .int .i64 m', .int .i64 v'] 48)).heap.size := by simp
  have CI := Lib.hid (fun (W : World) (g : Below w.heap.size w W) => (HC.out.keep g (Nat.le_refl _)).more g.size)
  have BW0 := Lib.hid bw0
  have KA0 := Lib.hid ka0
  have SZ0 := Lib.hid sz0
  clear bw0 ka0 sz0
  go_enter Try.func14, Try.ntmps14
  go_wp2_with fail
  clear ha hm hv wd0 wd1 wd2
  generalize ((((w.alloc (.cells #[.slice c.ta c.tabs.length c.tc, .slice c.la c.lamps.length c.lc] 25)).alloc (.cells #[.int .i64 n, .int .i64 a, .int .i64 m, .int .i64 v, .int .i64 x0, .int .i64 x1, .int .i64 y0, .int .i64 y1, .int .i64 h] 54)).alloc (.cells #[.int .u16 d0, .int .u16 d1, .int .u16 d2] 78)).alloc (.cells #[.int .i64 a', .int .i64 m', .int .i64 v'] 48)) = W0 at *
  refine (FL.out _ (CI.out _ BW0.out)).mono ?_
  rintro e w1 ⟨rfl, o1⟩
  have KA1 := Lib.hid (KA0.out.keep o1.below SZ0.out)
  obtain ⟨t0, t1, b0, b1, b2, b3, b4, b5, b6, b7, b8, p0, p1, p2⟩ := KA1.out
  have lt1 : w.heap.size + 1 + 1 + 1 < w1.heap.size := Nat.lt_of_lt_of_le SZ0.out o1.size
  have lt1a : w.heap.size < w1.heap.size := by omega
  have lt1b : w.heap.size + 1 < w1.heap.size := by omega
  have ne1 : w.heap.size ≠ w1.heap.size := by omega
  have ne2 : w.heap.size + 1 ≠ w1.heap.size := by omega
  have ne2' : w.heap.size + 1 + 1 + 1 ≠ w1.heap.size := by omega
  have BW1 := Lib.hid ((BW0.out.trans (o1.below.mono BW0.out.size)).alloc (Nat.le_trans BW0.out.size o1.below.size) (.cells #[.int .i64 f0, .int .i64 f1] 35))
  have KA2 := Lib.hid (KA1.out.keep (below_new w1 (.cells #[.int .i64 f0, .int .i64 f1] 35)) lt1)
  have BA2 := Lib.hid (Bq.fresh w1 f0 f1 35)
  clear o1
  go_wp2_with fail
  generalize w1.alloc (.cells #[.int .i64 f0, .int .i64 f1] 35) = W2 at *
  clear KA1
  generalize w1.heap.size = A at *
  refine (FM.out _ (CI.out _ BW1.out)).mono ?_
  rintro e w2 ⟨rfl, o2⟩
  clear t0 t1 b0 b1 b2 b3 b4 b5 b6 b7 b8 p0 p1 p2
  have KA3 := Lib.hid (KA2.out.keep o2.below (by have := BA2.out.lt; omega))
  have BA3 := Lib.hid (BA2.out.keep o2.below BA2.out.lt)
  obtain ⟨t0, t1, b0, b1, b2, b3, b4, b5, b6, b7, b8, p0, p1, p2⟩ := KA3.out
  obtain ⟨u0, u1, u2, u3, _⟩ := BA3.out
  have lt2 : A < w2.heap.size := BA3.out.lt
  have lt2a : w.heap.size < w2.heap.size := by omega
  have lt2b : w.heap.size + 1 < w2.heap.size := by omega
  have lt2c : w.heap.size + 1 + 1 + 1 < w2.heap.size := by omega
  have ne3 : w.heap.size ≠ w2.heap.size := by omega
  have ne4 : w.heap.size + 1 ≠ w2.heap.size := by omega
  have ne4' : w.heap.size + 1 + 1 + 1 ≠ w2.heap.size := by omega
  have ne5 : A ≠ w2.heap.size := by omega
  have BW2 := Lib.hid ((BW1.out.trans (o2.below.mono BW1.out.size)).alloc (Nat.le_trans BW1.out.size o2.below.size) (.cells #[.int .i64 g0, .int .i64 g1] 35))
  have KA4 := Lib.hid (KA3.out.keep (below_new w2 (.cells #[.int .i64 g0, .int .i64 g1] 35)) lt2c)
  have BA4 := Lib.hid (BA3.out.keep (below_new w2 (.cells #[.int .i64 g0, .int .i64 g1] 35)) lt2)
  have BB4 := Lib.hid (Bq.fresh w2 g0 g1 35)
  clear o2 KA2 KA3 BA2 BA3 BW1 KA0 BW0 SZ0
  by_cases hf : f2 = 0
  case neg =>
    have hf' : (f2 != 0) = true := by simpa using hf
    clear hf
    go_wp2_with fail
    refine (awake_any _).mono ?_
    rintro e w3 ⟨rfl, b3'⟩
    go_wp2_with fail
    go_ret
    exact ⟨rfl, BW2.out.trans (b3'.mono BW2.out.size)⟩
  case pos =>
    subst hf
    by_cases hg : g2 = 0
    case neg =>
      have hg' : (g2 != 0) = true := by simpa using hg
      clear hg
      go_wp2_with fail
      refine (awake_any _).mono ?_
      rintro e w3 ⟨rfl, b3'⟩
      go_wp2_with fail
      go_ret
      exact ⟨rfl, BW2.out.trans (b3'.mono BW2.out.size)⟩
    case pos =>
      subst hg
      obtain ⟨⟨i1, i2, i3, i4⟩, ⟨j1, j2, j3, j4⟩, ⟨q1, q2, q3⟩⟩ := FA.out rfl rfl
      subst j1 j2 q1
      have i1' : ¬ f0 < g0 := by omega
      have i2' : ¬ f1 < g1 := by omega
      have i3' : ¬ f1 < f0 := by omega
      have i4' : ¬ g0 < 0 := by omega
      have j3' : ¬ k0 < l0 := by omega
      have j4' : ¬ k1 < l1 := by omega
      clear FA
      go_wp2_with fail
      generalize w2.alloc (.cells #[.int .i64 g0, .int .i64 g1] 35) = W4 at *
      generalize w2.heap.size = B at *
      clear i1 i2 i3 i4 j3 j4 i1' i2' i3' i4'
      refine (PL.out _ (CI.out _ BW2.out)).mono ?_
      rintro e w5 ⟨rfl, o5⟩
      clear t0 t1 b0 b1 b2 b3 b4 b5 b6 b7 b8 p0 p1 p2 u0 u1 u2 u3
      have KA5 := Lib.hid (KA4.out.keep o5.below (by have := BB4.out.lt; omega))
      have BA5 := Lib.hid (BA4.out.keep o5.below BA4.out.lt)
      have BB5 := Lib.hid (BB4.out.keep o5.below BB4.out.lt)
      have BW5 := Lib.hid (BW2.out.trans (o5.below.mono BW2.out.size))
      obtain ⟨t0, t1, b0, b1, b2, b3, b4, b5, b6, b7, b8, p0, p1, p2⟩ := KA5.out
      obtain ⟨u0, u1, u2, u3, _⟩ := BA5.out
      have KA6 := Lib.hid (KA5.out.keep (below_set2 w5 A (.int .i64 k0) (.int .i64 k1)) (by omega))
      have BA6 := Lib.hid (BA5.out.set k0 k1)
      have BB6 := Lib.hid (BB5.out.other (Ne.symm ne5) (.int .i64 k0) (.int .i64 k1))
      have BW6 := Lib.hid (BW5.out.trans ((below_set2 w5 A (.int .i64 k0) (.int .i64 k1)).mono (by omega)))
      clear o5 KA5 BA5 BB5 BW5
      go_wp2_with fail
      generalize (w5.setCell ⟨A, 0, none⟩ (.int .i64 k0)).setCell ⟨A, 1, none⟩ (.int .i64 k1) = W6 at *
      refine (PM.out _ (CI.out _ BW6.out)).mono ?_
      rintro e w7 ⟨rfl, o7⟩
      clear t0 t1 b0 b1 b2 b3 b4 b5 b6 b7 b8 p0 p1 p2 u0 u1 u2 u3
      have KA7 := Lib.hid (KA6.out.keep o7.below (by have := BB6.out.lt; omega))
      have BA7 := Lib.hid (BA6.out.keep o7.below BA6.out.lt)
      have BB7 := Lib.hid (BB6.out.keep o7.below BB6.out.lt)
      have BW7 := Lib.hid (BW6.out.trans (o7.below.mono BW6.out.size))
      obtain ⟨t0, t1, b0, b1, b2, b3, b4, b5, b6, b7, b8, p0, p1, p2⟩ := KA7.out
      obtain ⟨u0, u1, u2, u3, _⟩ := BA7.out
      obtain ⟨z0, z1, z2, z3, _⟩ := BB7.out
      have ne6 := Ne.symm ne5
      have KA8 := Lib.hid (KA7.out.keep (below_set2 w7 B (.int .i64 l0) (.int .i64 l1)) (by omega))
      have BB8 := Lib.hid (BB7.out.set l0 l1)
      have BA8 := Lib.hid (BA7.out.other ne5 (.int .i64 l0) (.int .i64 l1))
      have BW8 := Lib.hid (BW7.out.trans ((below_set2 w7 B (.int .i64 l0) (.int .i64 l1)).mono (by omega)))
      clear o7 KA7 BA7 BB7 BW7
      go_wp2_with fail
      generalize (w7.setCell ⟨B, 0, none⟩ (.int .i64 l0)).setCell ⟨B, 1, none⟩ (.int .i64 l1) = W8 at *
      refine (TL.out _ (CI.out _ BW8.out)).mono ?_
      rintro e w9 ⟨rfl, o9⟩
      clear t0 t1 b0 b1 b2 b3 b4 b5 b6 b7 b8 p0 p1 p2 u0 u1 u2 u3 z0 z1 z2 z3
      have KA9 := Lib.hid (KA8.out.keep o9 (by have := BB8.out.lt; omega))
      have BA9 := Lib.hid (BA8.out.keep o9 BA8.out.lt)
      have BB9 := Lib.hid (BB8.out.keep o9 BB8.out.lt)
      have BW9 := Lib.hid (BW8.out.trans (o9.mono BW8.out.size))
      obtain ⟨t0, t1, b0, b1, b2, b3, b4, b5, b6, b7, b8, p0, p1, p2⟩ := KA9.out
      obtain ⟨u0, u1, u2, u3, _⟩ := BA9.out
      have KB0 := Lib.hid (KA9.out.keep (below_set2 w9 A (.int .i64 r0) (.int .i64 r1)) (by omega))
      have BA0 := Lib.hid (BA9.out.set r0 r1)
      have BB0 := Lib.hid (BB9.out.other (Ne.symm ne5) (.int .i64 r0) (.int .i64 r1))
      have BX0 := Lib.hid (BW9.out.trans ((below_set2 w9 A (.int .i64 r0) (.int .i64 r1)).mono (by omega)))
      clear o9 KA9 BA9 BB9 BW9
      go_wp2_with fail
      generalize (w9.setCell ⟨A, 0, none⟩ (.int .i64 r0)).setCell ⟨A, 1, none⟩ (.int .i64 r1) = V0 at *
      refine (TM.out _ (CI.out _ BX0.out)).mono ?_
      rintro e v1 ⟨rfl, o10⟩
      clear t0 t1 b0 b1 b2 b3 b4 b5 b6 b7 b8 p0 p1 p2 u0 u1 u2 u3
      have BA1 := Lib.hid (BA0.out.keep o10 BA0.out.lt)
      have BB1 := Lib.hid (BB0.out.keep o10 BB0.out.lt)
      have BX1 := Lib.hid (BX0.out.trans (o10.mono BX0.out.size))
      obtain ⟨u0, u1, u2, u3, _⟩ := BA1.out
      obtain ⟨z0, z1, z2, z3, _⟩ := BB1.out
      have BX2 := Lib.hid (BX1.out.trans ((below_set2 v1 B (.int .i64 s0) (.int .i64 s1)).mono (by omega)))
      clear o10 KB0 BA0 BB0 BX0
      go_wp2_with fail
      refine (awake_any _).mono ?_
      rintro e v2 ⟨rfl, b2'⟩
      go_wp2_with fail
      go_ret
      exact ⟨rfl, BX2.out.trans (b2'.mono BX2.out.size)⟩
end Go.Proofs.Ythmelkakgbchbaa
