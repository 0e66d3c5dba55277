/- LampParts: the cut is any. -/
import Derived.Test.YthmelkakgbchbaaPty
namespace Go.Proofs.Ythmelkakgbchbaa
set_option linter.unusedSimpArgs false
set_option linter.unusedVariables false
open Go.RowKit
attribute [local go_sem ↓] Go.wp_at_zero Go.wp_at_succ

set_option maxRecDepth 100000 in
set_option maxHeartbeats 4000000 in
theorem parts_bad (c : Cat) (n x0 x1 y0 y1 h k : Int) (w : World) (hc : CatIn w.heap.size c w) (hE : ovE c n x0 x1 y0 y1 h ≠ 0) :
    Calls Try.prog 11 #[.agg #[c.tv, c.lv, .int .i64 n, .int .i64 x0, .int .i64 x1, .int .i64 y0, .int .i64 y1, .int .i64 h], .int .u8 k] w fun e w' => e = .returned (.bool true) ∧ Below w.heap.size w w' := by
  have HC := Lib.hid hc
  clear hc
  have OV := Lib.hid (fun W (g : CatIn W.heap.size c W) => Over_any c n x0 x1 y0 y1 h W g)
  generalize ovLo c n x0 x1 y0 y1 h = f0 at *
  generalize ovHi c n x0 x1 y0 y1 h = f1 at *
  generalize ovE c n x0 x1 y0 y1 h = f2 at *
  have d0 : (f2 != 0) = true := by simpa using hE
  clear hE
  unfold Cat.tv Cat.lv at *
  have bw0 : Below w.heap.size w (w.alloc (.cells #[.slice c.ta c.tabs.length c.tc, .slice c.la c.lamps.length c.lc, .int .i64 n, .int .i64 x0, .int .i64 x1, .int .i64 y0, .int .i64 y1, .int .i64 h] 66)) := below_new w _
  have CI := Lib.hid (fun (W : World) (g : Below w.heap.size w W) => (HC.out.keep g (Nat.le_refl _)).more g.size)
  have BW0 := Lib.hid bw0
  have a0 : (w.alloc (.cells #[.slice c.ta c.tabs.length c.tc, .slice c.la c.lamps.length c.lc, .int .i64 n, .int .i64 x0, .int .i64 x1, .int .i64 y0, .int .i64 y1, .int .i64 h] 66)).cell? ⟨w.heap.size, 0, none⟩ = some (.slice c.ta c.tabs.length c.tc) := by simp [go_sem]
  have a1 : (w.alloc (.cells #[.slice c.ta c.tabs.length c.tc, .slice c.la c.lamps.length c.lc, .int .i64 n, .int .i64 x0, .int .i64 x1, .int .i64 y0, .int .i64 y1, .int .i64 h] 66)).cell? ⟨w.heap.size, 1, none⟩ = some (.slice c.la c.lamps.length c.lc) := by simp [go_sem]
  have a2 : (w.alloc (.cells #[.slice c.ta c.tabs.length c.tc, .slice c.la c.lamps.length c.lc, .int .i64 n, .int .i64 x0, .int .i64 x1, .int .i64 y0, .int .i64 y1, .int .i64 h] 66)).cell? ⟨w.heap.size, 2, none⟩ = some (.int .i64 n) := by simp [go_sem]
  have a3 : (w.alloc (.cells #[.slice c.ta c.tabs.length c.tc, .slice c.la c.lamps.length c.lc, .int .i64 n, .int .i64 x0, .int .i64 x1, .int .i64 y0, .int .i64 y1, .int .i64 h] 66)).cell? ⟨w.heap.size, 3, none⟩ = some (.int .i64 x0) := by simp [go_sem]
  have a4 : (w.alloc (.cells #[.slice c.ta c.tabs.length c.tc, .slice c.la c.lamps.length c.lc, .int .i64 n, .int .i64 x0, .int .i64 x1, .int .i64 y0, .int .i64 y1, .int .i64 h] 66)).cell? ⟨w.heap.size, 4, none⟩ = some (.int .i64 x1) := by simp [go_sem]
  have a5 : (w.alloc (.cells #[.slice c.ta c.tabs.length c.tc, .slice c.la c.lamps.length c.lc, .int .i64 n, .int .i64 x0, .int .i64 x1, .int .i64 y0, .int .i64 y1, .int .i64 h] 66)).cell? ⟨w.heap.size, 5, none⟩ = some (.int .i64 y0) := by simp [go_sem]
  have a6 : (w.alloc (.cells #[.slice c.ta c.tabs.length c.tc, .slice c.la c.lamps.length c.lc, .int .i64 n, .int .i64 x0, .int .i64 x1, .int .i64 y0, .int .i64 y1, .int .i64 h] 66)).cell? ⟨w.heap.size, 6, none⟩ = some (.int .i64 y1) := by simp [go_sem]
  have a7 : (w.alloc (.cells #[.slice c.ta c.tabs.length c.tc, .slice c.la c.lamps.length c.lc, .int .i64 n, .int .i64 x0, .int .i64 x1, .int .i64 y0, .int .i64 y1, .int .i64 h] 66)).cell? ⟨w.heap.size, 7, none⟩ = some (.int .i64 h) := by simp [go_sem]
  have ls : w.heap.size < (w.alloc (.cells #[.slice c.ta c.tabs.length c.tc, .slice c.la c.lamps.length c.lc, .int .i64 n, .int .i64 x0, .int .i64 x1, .int .i64 y0, .int .i64 y1, .int .i64 h] 66)).heap.size := by simp
  clear bw0
  go_enter Try.func11, Try.ntmps11
  go_wp2_with fail
  generalize w.alloc (.cells #[.slice c.ta c.tabs.length c.tc, .slice c.la c.lamps.length c.lc, .int .i64 n, .int .i64 x0, .int .i64 x1, .int .i64 y0, .int .i64 y1, .int .i64 h] 66) = W0 at *
  have lne : w.heap.size ≠ W0.heap.size := by omega
  go_upto_region 1 with fail
  go_cut [5, 6] (fun s5 s6 wx => ∃ g : Nat, s5 = .pointer (some ⟨g, 0, none⟩) ∧ s6 = .int .i64 n ∧ Kpx c x0 x1 y0 y1 h w.heap.size g wx ∧ Below W0.heap.size W0 wx)
  case first =>
    go_region
    all_goals go_wp2_with fail
    all_goals go_meet
    all_goals
      case rel =>
        refine ⟨_, rfl, rfl, ?_, ?_⟩
        · constructor <;> simp [go_sem, a0, a1, a2, a3, a4, a5, a6, a7, lne, ls] <;> omega
        · (repeat' (first | exact Below.refl _ _ | refine Below.drew ?_ | refine Below.alloc ?_ ?_ _ | refine Below.setCell ?_ ?_ _)) <;> simp
  case rest =>
    obtain ⟨g, rfl, rfl, KX, bx⟩ := hcut
    have BW1 := Lib.hid (BW0.out.trans (bx.mono BW0.out.size))
    obtain ⟨a3, a4, a5, a6, a7, t0, t1, ls, lg⟩ := KX
    clear bx a0 a1 a2
    go_wp2_with fail
    refine (OV.out _ (CI.out _ BW1.out)).mono ?_
    rintro e w1 ⟨rfl, o1⟩
    have BW2 := Lib.hid ((BW1.out.trans (o1.mono BW1.out.size)).alloc (Nat.le_trans BW1.out.size o1.size) (.cells #[.int .i64 f0, .int .i64 f1] 35))
    clear o1 a3 a4 a5 a6 a7 t0 t1 ls lg
    go_wp2_with fail
    refine (awake_any _).mono ?_
    rintro e w3 ⟨rfl, b3'⟩
    go_wp2_with fail
    go_ret
    exact ⟨rfl, BW2.out.trans (b3'.mono BW2.out.size)⟩

theorem lawParts_any (c : Cat) (n x0 x1 y0 y1 h k : Int) (w : World) (hc : CatIn w.heap.size c w) (k0 : 0 ≤ k) (k1 : k ≤ 255) :
    Calls Try.prog 11 #[.agg #[c.tv, c.lv, .int .i64 n, .int .i64 x0, .int .i64 x1, .int .i64 y0, .int .i64 y1, .int .i64 h], .int .u8 k] w fun e w' => e = .returned (.bool true) ∧ Below w.heap.size w w' := by
  by_cases hE : ovE c n x0 x1 y0 y1 h = 0
  · by_cases hk : k % 2 = 1
    · exact parts_y c n x0 x1 y0 y1 h k w hc k0 k1 hk hE
    · exact parts_x c n x0 x1 y0 y1 h k w hc k0 k1 hk hE
  · exact parts_bad c n x0 x1 y0 y1 h k w hc hE
end Go.Proofs.Ythmelkakgbchbaa
