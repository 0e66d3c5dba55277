/- LampHolds: its ways where Over refuses, and at great depths. -/
import Derived.Test.YthmelkakgbchbaaPtw
import Derived.Test.YthmelkakgbchbaaHdm
namespace Go.Proofs.Ythmelkakgbchbaa
set_option linter.unusedSimpArgs false
set_option linter.unusedVariables false
open Go.RowKit
attribute [local go_sem ↓] Go.wp_at_zero Go.wp_at_succ

set_option maxRecDepth 100000 in
set_option maxHeartbeats 8000000 in
theorem holds_bad (c : Cat) (n x0 x1 y0 y1 h p q : Int) (w : World) (hc : CatIn w.heap.size c w) (p0 : 0 ≤ p) (p1 : p ≤ 255) (q0 : 0 ≤ q) (q1 : q ≤ 255) (hE : ovE c n x0 x1 y0 y1 h ≠ 0) :
    Calls Try.prog 10 #[.agg #[c.tv, c.lv, .int .i64 n, .int .i64 x0, .int .i64 x1, .int .i64 y0, .int .i64 y1, .int .i64 h], .agg #[.int .u8 p, .int .u8 q]] w fun e w' => e = .returned (.bool true) ∧ Below w.heap.size w w' := by
  have HC := Lib.hid hc
  clear hc
  have CI := Lib.hid (fun (W : World) (g : Below w.heap.size w W) => (HC.out.keep g (Nat.le_refl _)).more g.size)
  have OV := Lib.hid (fun W (g : CatIn W.heap.size c W) => Over_any c n x0 x1 y0 y1 h W g)
  generalize ovLo c n x0 x1 y0 y1 h = f0 at *
  generalize ovHi c n x0 x1 y0 y1 h = f1 at *
  generalize ovE c n x0 x1 y0 y1 h = f2 at *
  have d0 : (f2 != 0) = true := by simpa using hE
  clear hE
  unfold Cat.tv Cat.lv at *
  have bw0 : Below w.heap.size w ((w.alloc (.cells #[.slice c.ta c.tabs.length c.tc, .slice c.la c.lamps.length c.lc, .int .i64 n, .int .i64 x0, .int .i64 x1, .int .i64 y0, .int .i64 y1, .int .i64 h] 66)).alloc (.cells #[.int .u8 p, .int .u8 q] 57)) := ((Below.refl _ _).alloc (Nat.le_refl _) _).alloc (by simp) _
  have BW0 := Lib.hid bw0
  have a0 : ((w.alloc (.cells #[.slice c.ta c.tabs.length c.tc, .slice c.la c.lamps.length c.lc, .int .i64 n, .int .i64 x0, .int .i64 x1, .int .i64 y0, .int .i64 y1, .int .i64 h] 66)).alloc (.cells #[.int .u8 p, .int .u8 q] 57)).cell? ⟨w.heap.size, 0, none⟩ = some (.slice c.ta c.tabs.length c.tc) := by simp [go_sem]
  have a1 : ((w.alloc (.cells #[.slice c.ta c.tabs.length c.tc, .slice c.la c.lamps.length c.lc, .int .i64 n, .int .i64 x0, .int .i64 x1, .int .i64 y0, .int .i64 y1, .int .i64 h] 66)).alloc (.cells #[.int .u8 p, .int .u8 q] 57)).cell? ⟨w.heap.size, 1, none⟩ = some (.slice c.la c.lamps.length c.lc) := by simp [go_sem]
  have a2 : ((w.alloc (.cells #[.slice c.ta c.tabs.length c.tc, .slice c.la c.lamps.length c.lc, .int .i64 n, .int .i64 x0, .int .i64 x1, .int .i64 y0, .int .i64 y1, .int .i64 h] 66)).alloc (.cells #[.int .u8 p, .int .u8 q] 57)).cell? ⟨w.heap.size, 2, none⟩ = some (.int .i64 n) := by simp [go_sem]
  have a3 : ((w.alloc (.cells #[.slice c.ta c.tabs.length c.tc, .slice c.la c.lamps.length c.lc, .int .i64 n, .int .i64 x0, .int .i64 x1, .int .i64 y0, .int .i64 y1, .int .i64 h] 66)).alloc (.cells #[.int .u8 p, .int .u8 q] 57)).cell? ⟨w.heap.size, 3, none⟩ = some (.int .i64 x0) := by simp [go_sem]
  have a4 : ((w.alloc (.cells #[.slice c.ta c.tabs.length c.tc, .slice c.la c.lamps.length c.lc, .int .i64 n, .int .i64 x0, .int .i64 x1, .int .i64 y0, .int .i64 y1, .int .i64 h] 66)).alloc (.cells #[.int .u8 p, .int .u8 q] 57)).cell? ⟨w.heap.size, 4, none⟩ = some (.int .i64 x1) := by simp [go_sem]
  have a5 : ((w.alloc (.cells #[.slice c.ta c.tabs.length c.tc, .slice c.la c.lamps.length c.lc, .int .i64 n, .int .i64 x0, .int .i64 x1, .int .i64 y0, .int .i64 y1, .int .i64 h] 66)).alloc (.cells #[.int .u8 p, .int .u8 q] 57)).cell? ⟨w.heap.size, 5, none⟩ = some (.int .i64 y0) := by simp [go_sem]
  have a6 : ((w.alloc (.cells #[.slice c.ta c.tabs.length c.tc, .slice c.la c.lamps.length c.lc, .int .i64 n, .int .i64 x0, .int .i64 x1, .int .i64 y0, .int .i64 y1, .int .i64 h] 66)).alloc (.cells #[.int .u8 p, .int .u8 q] 57)).cell? ⟨w.heap.size, 6, none⟩ = some (.int .i64 y1) := by simp [go_sem]
  have a7 : ((w.alloc (.cells #[.slice c.ta c.tabs.length c.tc, .slice c.la c.lamps.length c.lc, .int .i64 n, .int .i64 x0, .int .i64 x1, .int .i64 y0, .int .i64 y1, .int .i64 h] 66)).alloc (.cells #[.int .u8 p, .int .u8 q] 57)).cell? ⟨w.heap.size, 7, none⟩ = some (.int .i64 h) := by simp [go_sem]
  have r0 : ((w.alloc (.cells #[.slice c.ta c.tabs.length c.tc, .slice c.la c.lamps.length c.lc, .int .i64 n, .int .i64 x0, .int .i64 x1, .int .i64 y0, .int .i64 y1, .int .i64 h] 66)).alloc (.cells #[.int .u8 p, .int .u8 q] 57)).cell? ⟨w.heap.size + 1, 0, none⟩ = some (.int .u8 p) := by simp [go_sem]
  have r1 : ((w.alloc (.cells #[.slice c.ta c.tabs.length c.tc, .slice c.la c.lamps.length c.lc, .int .i64 n, .int .i64 x0, .int .i64 x1, .int .i64 y0, .int .i64 y1, .int .i64 h] 66)).alloc (.cells #[.int .u8 p, .int .u8 q] 57)).cell? ⟨w.heap.size + 1, 1, none⟩ = some (.int .u8 q) := by simp [go_sem]
  have ls : w.heap.size + 1 < ((w.alloc (.cells #[.slice c.ta c.tabs.length c.tc, .slice c.la c.lamps.length c.lc, .int .i64 n, .int .i64 x0, .int .i64 x1, .int .i64 y0, .int .i64 y1, .int .i64 h] 66)).alloc (.cells #[.int .u8 p, .int .u8 q] 57)).heap.size := by simp
  clear bw0
  go_enter Try.func10, Try.ntmps10
  go_wp2_with fail
  generalize ((w.alloc (.cells #[.slice c.ta c.tabs.length c.tc, .slice c.la c.lamps.length c.lc, .int .i64 n, .int .i64 x0, .int .i64 x1, .int .i64 y0, .int .i64 y1, .int .i64 h] 66)).alloc (.cells #[.int .u8 p, .int .u8 q] 57)) = W0 at *
  have KAT := Lib.hid (show ∀ Wz : World, Below W0.heap.size W0 Wz → (Wz.cell? ⟨w.heap.size + 1, 0, none⟩ = some (.int .u8 p) ∧ Wz.cell? ⟨w.heap.size + 1, 1, none⟩ = some (.int .u8 q)) from fun Wz hz => ⟨by rw [hz.cell (p := ⟨w.heap.size + 1, 0, none⟩) ls]; exact r0, by rw [hz.cell (p := ⟨w.heap.size + 1, 1, none⟩) ls]; exact r1⟩)
  have lne : w.heap.size ≠ W0.heap.size := by omega
  have ls0 : w.heap.size < W0.heap.size := by omega
  have LS := Lib.hid ls
  clear r0 r1 ls
  go_upto_region 1 with fail
  go_cut [5, 6] (fun s5 s6 wx => ∃ g : Nat, s5 = .pointer (some ⟨g, 0, none⟩) ∧ s6 = .int .i64 n ∧ Kpx c x0 x1 y0 y1 h w.heap.size g wx ∧ Below W0.heap.size W0 wx)
  case first =>
    go_region
    all_goals go_wp2_with fail
    all_goals go_meet
    all_goals
      case rel =>
        refine ⟨_, rfl, rfl, ?_, ?_⟩
        · constructor <;> simp [go_sem, a0, a1, a2, a3, a4, a5, a6, a7, lne, ls0] <;> omega
        · (repeat' (first | (with_reducible exact Below.refl _ _) | (with_reducible refine Below.drew ?_) | (with_reducible refine Below.alloc ?_ ?_ _) | (with_reducible refine Below.setCell ?_ ?_ _))) <;> simp
  case rest =>
    obtain ⟨g, rfl, rfl, KX, bx⟩ := hcut
    have BW1 := Lib.hid (BW0.out.trans (bx.mono BW0.out.size))
    have B01 := Lib.hid bx
    have KX1 := Lib.hid KX
    obtain ⟨a3, a4, a5, a6, a7, t0, t1, ls, lg⟩ := KX
    clear bx a0 a1 a2 lne ls0
    go_wp2_with fail
    with_reducible refine Calls.mono (OV.out _ (CI.out _ BW1.out)) ?_
    rintro e w1 ⟨rfl, o1⟩
    have KX2 := KX1.out.keep o1 ls lg
    have BW2 := Lib.hid ((BW1.out.trans (o1.mono BW1.out.size)).alloc (Nat.le_trans BW1.out.size o1.size) (.cells #[.int .i64 f0, .int .i64 f1] 35))
    have B02 := Lib.hid ((B01.out.trans (o1.mono B01.out.size)).alloc (Nat.le_trans B01.out.size o1.size) (.cells #[.int .i64 f0, .int .i64 f1] 35))
    have ne1 : w.heap.size ≠ w1.heap.size := by have := KX2.ls; omega
    have ne2 : g ≠ w1.heap.size := by have := KX2.lg; omega
    have KX3 := Lib.hid (KX2.keep (below_new w1 (.cells #[.int .i64 f0, .int .i64 f1] 35)) KX2.ls KX2.lg)
    have BO3 := Lib.hid (Bq.fresh w1 f0 f1 35)
    obtain ⟨a3, a4, a5, a6, a7, t0, t1, ls, lg⟩ := KX2
    clear o1 KX1 BW1 B01
    go_wp2_with fail
    with_reducible refine Calls.mono (awake_any _) ?_
    rintro e w3 ⟨rfl, b3'⟩
    go_wp2_with fail
    go_ret
    exact ⟨rfl, BW2.out.trans (b3'.mono BW2.out.size)⟩

set_option maxRecDepth 100000 in
set_option maxHeartbeats 8000000 in
theorem holds_deep (c : Cat) (n x0 x1 y0 y1 h p q : Int) (w : World) (hc : CatIn w.heap.size c w) (p0 : 0 ≤ p) (p1 : p ≤ 255) (q0 : 0 ≤ q) (q1 : q ≤ 255) (hE : ovE c n x0 x1 y0 y1 h = 0) (hh : 1000 < h) :
    Calls Try.prog 10 #[.agg #[c.tv, c.lv, .int .i64 n, .int .i64 x0, .int .i64 x1, .int .i64 y0, .int .i64 y1, .int .i64 h], .agg #[.int .u8 p, .int .u8 q]] w fun e w' => e = .returned (.bool true) ∧ Below w.heap.size w w' := by
  have HC := Lib.hid hc
  clear hc
  have CI := Lib.hid (fun (W : World) (g : Below w.heap.size w W) => (HC.out.keep g (Nat.le_refl _)).more g.size)
  have OKo := ov_ok hE
  have OV := Lib.hid (fun W (g : CatIn W.heap.size c W) => Over_any c n x0 x1 y0 y1 h W g)
  rw [hE] at OV
  generalize ovLo c n x0 x1 y0 y1 h = f0 at *
  generalize ovHi c n x0 x1 y0 y1 h = f1 at *
  have nn := OKo.n0
  have nl := OKo.n1
  have d1 : decide (n < 0) = false := decide_eq_false (by omega)
  have d2 : decide ((c.tabs.length : Int) ≤ n) = false := decide_eq_false (by omega)
  have d3 : decide (1000 < h) = true := decide_eq_true hh
  clear OKo hE nn nl hh
  unfold Cat.tv Cat.lv at *
  have bw0 : Below w.heap.size w ((w.alloc (.cells #[.slice c.ta c.tabs.length c.tc, .slice c.la c.lamps.length c.lc, .int .i64 n, .int .i64 x0, .int .i64 x1, .int .i64 y0, .int .i64 y1, .int .i64 h] 66)).alloc (.cells #[.int .u8 p, .int .u8 q] 57)) := ((Below.refl _ _).alloc (Nat.le_refl _) _).alloc (by simp) _
  have BW0 := Lib.hid bw0
  have a0 : ((w.alloc (.cells #[.slice c.ta c.tabs.length c.tc, .slice c.la c.lamps.length c.lc, .int .i64 n, .int .i64 x0, .int .i64 x1, .int .i64 y0, .int .i64 y1, .int .i64 h] 66)).alloc (.cells #[.int .u8 p, .int .u8 q] 57)).cell? ⟨w.heap.size, 0, none⟩ = some (.slice c.ta c.tabs.length c.tc) := by simp [go_sem]
  have a1 : ((w.alloc (.cells #[.slice c.ta c.tabs.length c.tc, .slice c.la c.lamps.length c.lc, .int .i64 n, .int .i64 x0, .int .i64 x1, .int .i64 y0, .int .i64 y1, .int .i64 h] 66)).alloc (.cells #[.int .u8 p, .int .u8 q] 57)).cell? ⟨w.heap.size, 1, none⟩ = some (.slice c.la c.lamps.length c.lc) := by simp [go_sem]
  have a2 : ((w.alloc (.cells #[.slice c.ta c.tabs.length c.tc, .slice c.la c.lamps.length c.lc, .int .i64 n, .int .i64 x0, .int .i64 x1, .int .i64 y0, .int .i64 y1, .int .i64 h] 66)).alloc (.cells #[.int .u8 p, .int .u8 q] 57)).cell? ⟨w.heap.size, 2, none⟩ = some (.int .i64 n) := by simp [go_sem]
  have a3 : ((w.alloc (.cells #[.slice c.ta c.tabs.length c.tc, .slice c.la c.lamps.length c.lc, .int .i64 n, .int .i64 x0, .int .i64 x1, .int .i64 y0, .int .i64 y1, .int .i64 h] 66)).alloc (.cells #[.int .u8 p, .int .u8 q] 57)).cell? ⟨w.heap.size, 3, none⟩ = some (.int .i64 x0) := by simp [go_sem]
  have a4 : ((w.alloc (.cells #[.slice c.ta c.tabs.length c.tc, .slice c.la c.lamps.length c.lc, .int .i64 n, .int .i64 x0, .int .i64 x1, .int .i64 y0, .int .i64 y1, .int .i64 h] 66)).alloc (.cells #[.int .u8 p, .int .u8 q] 57)).cell? ⟨w.heap.size, 4, none⟩ = some (.int .i64 x1) := by simp [go_sem]
  have a5 : ((w.alloc (.cells #[.slice c.ta c.tabs.length c.tc, .slice c.la c.lamps.length c.lc, .int .i64 n, .int .i64 x0, .int .i64 x1, .int .i64 y0, .int .i64 y1, .int .i64 h] 66)).alloc (.cells #[.int .u8 p, .int .u8 q] 57)).cell? ⟨w.heap.size, 5, none⟩ = some (.int .i64 y0) := by simp [go_sem]
  have a6 : ((w.alloc (.cells #[.slice c.ta c.tabs.length c.tc, .slice c.la c.lamps.length c.lc, .int .i64 n, .int .i64 x0, .int .i64 x1, .int .i64 y0, .int .i64 y1, .int .i64 h] 66)).alloc (.cells #[.int .u8 p, .int .u8 q] 57)).cell? ⟨w.heap.size, 6, none⟩ = some (.int .i64 y1) := by simp [go_sem]
  have a7 : ((w.alloc (.cells #[.slice c.ta c.tabs.length c.tc, .slice c.la c.lamps.length c.lc, .int .i64 n, .int .i64 x0, .int .i64 x1, .int .i64 y0, .int .i64 y1, .int .i64 h] 66)).alloc (.cells #[.int .u8 p, .int .u8 q] 57)).cell? ⟨w.heap.size, 7, none⟩ = some (.int .i64 h) := by simp [go_sem]
  have r0 : ((w.alloc (.cells #[.slice c.ta c.tabs.length c.tc, .slice c.la c.lamps.length c.lc, .int .i64 n, .int .i64 x0, .int .i64 x1, .int .i64 y0, .int .i64 y1, .int .i64 h] 66)).alloc (.cells #[.int .u8 p, .int .u8 q] 57)).cell? ⟨w.heap.size + 1, 0, none⟩ = some (.int .u8 p) := by simp [go_sem]
  have r1 : ((w.alloc (.cells #[.slice c.ta c.tabs.length c.tc, .slice c.la c.lamps.length c.lc, .int .i64 n, .int .i64 x0, .int .i64 x1, .int .i64 y0, .int .i64 y1, .int .i64 h] 66)).alloc (.cells #[.int .u8 p, .int .u8 q] 57)).cell? ⟨w.heap.size + 1, 1, none⟩ = some (.int .u8 q) := by simp [go_sem]
  have ls : w.heap.size + 1 < ((w.alloc (.cells #[.slice c.ta c.tabs.length c.tc, .slice c.la c.lamps.length c.lc, .int .i64 n, .int .i64 x0, .int .i64 x1, .int .i64 y0, .int .i64 y1, .int .i64 h] 66)).alloc (.cells #[.int .u8 p, .int .u8 q] 57)).heap.size := by simp
  clear bw0
  go_enter Try.func10, Try.ntmps10
  go_wp2_with fail
  generalize ((w.alloc (.cells #[.slice c.ta c.tabs.length c.tc, .slice c.la c.lamps.length c.lc, .int .i64 n, .int .i64 x0, .int .i64 x1, .int .i64 y0, .int .i64 y1, .int .i64 h] 66)).alloc (.cells #[.int .u8 p, .int .u8 q] 57)) = W0 at *
  have KAT := Lib.hid (show ∀ Wz : World, Below W0.heap.size W0 Wz → (Wz.cell? ⟨w.heap.size + 1, 0, none⟩ = some (.int .u8 p) ∧ Wz.cell? ⟨w.heap.size + 1, 1, none⟩ = some (.int .u8 q)) from fun Wz hz => ⟨by rw [hz.cell (p := ⟨w.heap.size + 1, 0, none⟩) ls]; exact r0, by rw [hz.cell (p := ⟨w.heap.size + 1, 1, none⟩) ls]; exact r1⟩)
  have lne : w.heap.size ≠ W0.heap.size := by omega
  have ls0 : w.heap.size < W0.heap.size := by omega
  have LS := Lib.hid ls
  clear r0 r1 ls
  go_upto_region 1 with fail
  go_cut [5, 6] (fun s5 s6 wx => ∃ g : Nat, s5 = .pointer (some ⟨g, 0, none⟩) ∧ s6 = .int .i64 n ∧ Kpx c x0 x1 y0 y1 h w.heap.size g wx ∧ Below W0.heap.size W0 wx)
  case first =>
    go_region
    all_goals go_wp2_with fail
    all_goals go_meet
    all_goals
      case rel =>
        refine ⟨_, rfl, rfl, ?_, ?_⟩
        · constructor <;> simp [go_sem, a0, a1, a2, a3, a4, a5, a6, a7, lne, ls0] <;> omega
        · (repeat' (first | (with_reducible exact Below.refl _ _) | (with_reducible refine Below.drew ?_) | (with_reducible refine Below.alloc ?_ ?_ _) | (with_reducible refine Below.setCell ?_ ?_ _))) <;> simp
  case rest =>
    obtain ⟨g, rfl, rfl, KX, bx⟩ := hcut
    have BW1 := Lib.hid (BW0.out.trans (bx.mono BW0.out.size))
    have B01 := Lib.hid bx
    have KX1 := Lib.hid KX
    obtain ⟨a3, a4, a5, a6, a7, t0, t1, ls, lg⟩ := KX
    clear bx a0 a1 a2 lne ls0
    go_wp2_with fail
    with_reducible refine Calls.mono (OV.out _ (CI.out _ BW1.out)) ?_
    rintro e w1 ⟨rfl, o1⟩
    have KX2 := KX1.out.keep o1 ls lg
    have BW2 := Lib.hid ((BW1.out.trans (o1.mono BW1.out.size)).alloc (Nat.le_trans BW1.out.size o1.size) (.cells #[.int .i64 f0, .int .i64 f1] 35))
    have B02 := Lib.hid ((B01.out.trans (o1.mono B01.out.size)).alloc (Nat.le_trans B01.out.size o1.size) (.cells #[.int .i64 f0, .int .i64 f1] 35))
    have ne1 : w.heap.size ≠ w1.heap.size := by have := KX2.ls; omega
    have ne2 : g ≠ w1.heap.size := by have := KX2.lg; omega
    have KX3 := Lib.hid (KX2.keep (below_new w1 (.cells #[.int .i64 f0, .int .i64 f1] 35)) KX2.ls KX2.lg)
    have BO3 := Lib.hid (Bq.fresh w1 f0 f1 35)
    obtain ⟨a3, a4, a5, a6, a7, t0, t1, ls, lg⟩ := KX2
    clear o1 KX1 BW1 B01
    go_wp2_with fail
    with_reducible refine Calls.mono (awake_any _) ?_
    rintro e w3 ⟨rfl, b3'⟩
    go_wp2_with fail
    go_ret
    exact ⟨rfl, BW2.out.trans (b3'.mono BW2.out.size)⟩
end Go.Proofs.Ythmelkakgbchbaa
