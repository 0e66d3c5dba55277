/- The walk of LampShares. -/
import Derived.Test.YtgmpipciinphiaaShs
import Derived.Test.YtgmpipciinphiaaAwk
namespace Go.Proofs.Ytgmpipciinphiaa
set_option linter.unusedSimpArgs false
set_option linter.unusedVariables false
open Go.RowKit
attribute [local go_sem ↓] Go.wp_at_zero Go.wp_at_succ

set_option maxRecDepth 100000 in
set_option maxHeartbeats 4000000 in
theorem lawShares_any (c : Cat) (n s : Int) (w : World) (hc : CatIn w.heap.size c w) :
    Calls Try.prog 6 #[.agg #[c.tv, c.lv], .int .i64 n, .int .i64 s] w fun e w' => e = .returned (.bool true) ∧ Below w.heap.size w w' := by
  have HC := Lib.hid hc
  clear hc
  have CI := Lib.hid (fun (W : World) (g : Below w.heap.size w W) => (HC.out.keep g (Nat.le_refl _)).more g.size)
  have SA := Lib.hid (fun W (g : CatIn W.heap.size c W) => Share_any c n s W g)
  have SB := Lib.hid (fun W (g : CatIn W.heap.size c W) => rShare_any c n s W g)
  generalize shaLo c n s = f0 at *
  generalize shaHi c n s = f1 at *
  generalize shaE c n s = er at *
  unfold Cat.tv Cat.lv at *
  have bw0 : Below w.heap.size w (w.alloc (.cells #[.slice c.ta c.tabs.length c.tc, .slice c.la c.lamps.length c.lc] 25)) := below_new w _
  have t0 : (w.alloc (.cells #[.slice c.ta c.tabs.length c.tc, .slice c.la c.lamps.length c.lc] 25)).cell? ⟨w.heap.size, 0, none⟩ = some (.slice c.ta c.tabs.length c.tc) := by simp [go_sem]
  have t1 : (w.alloc (.cells #[.slice c.ta c.tabs.length c.tc, .slice c.la c.lamps.length c.lc] 25)).cell? ⟨w.heap.size, 1, none⟩ = some (.slice c.la c.lamps.length c.lc) := by simp [go_sem]
  have ls : w.heap.size < (w.alloc (.cells #[.slice c.ta c.tabs.length c.tc, .slice c.la c.lamps.length c.lc] 25)).heap.size := by simp
  have BW0 := Lib.hid bw0
  clear bw0
  go_enter Try.func6, Try.ntmps6
  go_wp2_with fail
  generalize w.alloc (.cells #[.slice c.ta c.tabs.length c.tc, .slice c.la c.lamps.length c.lc] 25) = W0 at *
  have KC0 : Hid (W0.cell? ⟨w.heap.size, 0, none⟩ = some (.slice c.ta c.tabs.length c.tc) ∧ W0.cell? ⟨w.heap.size, 1, none⟩ = some (.slice c.la c.lamps.length c.lc) ∧ w.heap.size < W0.heap.size) := Lib.hid ⟨t0, t1, ls⟩
  with_reducible refine Calls.mono (SA.out _ (CI.out _ BW0.out)) ?_
  rintro e w1 ⟨rfl, o1⟩
  have KC1 : Hid (w1.cell? ⟨w.heap.size, 0, none⟩ = some (.slice c.ta c.tabs.length c.tc) ∧ w1.cell? ⟨w.heap.size, 1, none⟩ = some (.slice c.la c.lamps.length c.lc) ∧ w.heap.size < w1.heap.size) := Lib.hid ⟨by rw [o1.cell (p := ⟨w.heap.size, 0, none⟩) KC0.out.2.2]; exact KC0.out.1, by rw [o1.cell (p := ⟨w.heap.size, 1, none⟩) KC0.out.2.2]; exact KC0.out.2.1, Nat.lt_of_lt_of_le KC0.out.2.2 o1.size⟩
  have BW1 := Lib.hid ((BW0.out.trans (o1.mono BW0.out.size)).alloc (Nat.le_trans BW0.out.size o1.size) (.cells #[.int .i64 f0, .int .i64 f1] 35))
  clear o1 t0 t1 ls KC0
  obtain ⟨t0, t1, ls⟩ := KC1.out
  have ne1 : w.heap.size ≠ w1.heap.size := by omega
  have BA2 := Lib.hid (Bq.fresh w1 f0 f1 35)
  clear KC1
  go_wp2_with fail
  generalize w1.alloc (.cells #[.int .i64 f0, .int .i64 f1] 35) = W2 at *
  generalize w1.heap.size = A at *
  with_reducible refine Calls.mono (SB.out _ (CI.out _ BW1.out)) ?_
  rintro e w2 ⟨rfl, o3⟩
  clear t0 t1 ls ne1
  have BA3 := Lib.hid (BA2.out.below o3)
  have BW2 := Lib.hid ((BW1.out.trans (o3.mono BW1.out.size)).alloc (Nat.le_trans BW1.out.size o3.size) (.cells #[.int .i64 f0, .int .i64 f1] 35))
  obtain ⟨u0, u1, _, _, lA⟩ := BA3.out
  have ne2 : A ≠ w2.heap.size := by omega
  have d1 : (er == er) = true := by simp
  clear o3 BA2 BA3 BW1
  go_wp2_with fail
  with_reducible refine Calls.mono (awake_any _) ?_
  rintro e w3 ⟨rfl, b3'⟩
  go_wp2_with fail
  go_ret
  exact ⟨rfl, BW2.out.trans (b3'.mono BW2.out.size)⟩
end Go.Proofs.Ytgmpipciinphiaa
