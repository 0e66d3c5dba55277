/- The walk of LampFiner. -/
import Derived.Test.YtgmpipciinphiaaShd
import Derived.Test.YtgmpipciinphiaaAwk
import Derived.Deep.QuietTactic
import Derived.BigQuiet
namespace Go.Proofs.Ytgmpipciinphiaa
set_option linter.unusedSimpArgs false
set_option linter.unusedVariables false
open Go.RowKit
attribute [local go_sem ↓] Go.wp_at_zero Go.wp_at_succ

theorem finer_facts {t : Tab} (ok : TabOk t) {s : Nat} (hs : s = 1 ∨ s = 2) :
    toLo t s / 1000 ≤ upD (toHi t s) 1000 ∧ toLo t (2 * s) / 1000 ≤ upD (toHi t (2 * s)) 1000 ∧
    toLo t s / 1000 - (2 + 2 * ((t.us.xs.length : Int) * (t.vs.xs.length : Int) * ((2 * s : Nat) : Int) * ((2 * s : Nat) : Int) + 999) / 1000) ≤ toLo t (2 * s) / 1000 ∧
    upD (toHi t (2 * s)) 1000 ≤ upD (toHi t s) 1000 + (2 + 2 * ((t.us.xs.length : Int) * (t.vs.xs.length : Int) * ((2 * s : Nat) : Int) * ((2 * s : Nat) : Int) + 999) / 1000) ∧
    0 ≤ (t.us.xs.length : Int) * (t.vs.xs.length : Int) ∧ (t.us.xs.length : Int) * (t.vs.xs.length : Int) ≤ 144 ∧
    (0 ≤ toLo t s / 1000 ∧ toLo t s / 1000 ≤ 3000000000 ∧ 0 ≤ upD (toHi t s) 1000 ∧ upD (toHi t s) 1000 ≤ 3000000000) := by
  have n0 := ok.us.n0
  have n1 := ok.us.n1
  have m0 := ok.vs.n0
  have m1 := ok.vs.n1
  have l1 := to_le ok (s := s)
  have l2 := to_le ok (s := 2 * s)
  obtain ⟨f1, f2⟩ := to_finer ok (s := s) (by omega)
  obtain ⟨b1, b2⟩ := tr_bd ok (i := t.us.xs.length - 1) (s := s) (by omega) (by omega)
  have e1 : sm (fun i => sm (feLo t s i) (t.vs.xs.length - 1)) (t.us.xs.length - 1) = toLo t s := rfl
  have e2 : sm (fun i => sm (feHi t s i) (t.vs.xs.length - 1)) (t.us.xs.length - 1) = toHi t s := rfl
  rw [e1] at b1
  rw [e2] at b2
  have q0 : 0 ≤ (t.us.xs.length : Int) * (t.vs.xs.length : Int) := Int.mul_nonneg (by omega) (by omega)
  have q1 : (t.us.xs.length : Int) * (t.vs.xs.length : Int) ≤ 144 := Int.mul_le_mul (show (t.us.xs.length : Int) ≤ 12 by omega) (show (t.vs.xs.length : Int) ≤ 12 by omega) (by omega) (by decide)
  have q2 : ((t.us.xs.length - 1 : Nat) : Int) * ((t.vs.xs.length - 1 : Nat) : Int) ≤ (t.us.xs.length : Int) * (t.vs.xs.length : Int) := Int.mul_le_mul (by omega) (by omega) (by omega) (by omega)
  have q3 : 0 ≤ ((t.us.xs.length - 1 : Nat) : Int) * ((t.vs.xs.length - 1 : Nat) : Int) := Int.mul_nonneg (by omega) (by omega)
  rw [← Int.mul_assoc] at f1 f2
  generalize ((t.us.xs.length - 1 : Nat) : Int) * ((t.vs.xs.length - 1 : Nat) : Int) = p at *
  generalize (t.us.xs.length : Int) * (t.vs.xs.length : Int) = P at *
  generalize toLo t s = A at *
  generalize toHi t s = B at *
  generalize toLo t (2 * s) = C at *
  generalize toHi t (2 * s) = D at *
  unfold upD
  rcases hs with rfl | rfl
  · simp only [show ((2 * 1 : Nat) : Int) = 2 from rfl, show ((1 : Nat) : Int) = 1 from rfl] at *
    omega
  · simp only [show ((2 * 2 : Nat) : Int) = 4 from rfl, show ((2 : Nat) : Int) = 2 from rfl] at *
    omega

set_option maxRecDepth 100000 in
set_option maxHeartbeats 4000000 in
theorem finer_false_bad (c : Cat) (n : Int) (w : World) (hc : CatIn w.heap.size c w) (hz : errOf c n c.tabs.length ≠ 0) :
    Calls Try.prog 12 #[.agg #[c.tv, c.lv], .int .i64 n, .bool false] w fun e w' => e = .returned (.bool true) ∧ Below w.heap.size w w' := by
  have HC := Lib.hid hc
  clear hc
  have CI := Lib.hid (fun (W : World) (g : Below w.heap.size w W) => (HC.out.keep g (Nat.le_refl _)).more g.size)
  have SA := Lib.hid (fun W (g : CatIn W.heap.size c W) => Share_any c n 1 W g)
  have SB := Lib.hid (fun W (g : CatIn W.heap.size c W) => Share_any c n 2 W g)
  have EA : shaE c n 1 = errOf c n c.tabs.length := if_pos hz
  have EB : shaE c n 2 = errOf c n c.tabs.length := if_pos hz
  rw [EA] at SA
  rw [EB] at SB
  generalize shaLo c n 1 = f0 at *
  generalize shaHi c n 1 = f1 at *
  generalize shaLo c n 2 = g0 at *
  generalize shaHi c n 2 = g1 at *
  generalize errOf c n c.tabs.length = er at *
  have d0 : (er != 0) = true := by simpa using hz
  have d1 : (er == er) = true := by simp
  clear hz EA EB
  unfold Cat.tv Cat.lv at *
  have bw0 : Below w.heap.size w (w.alloc (.cells #[.slice c.ta c.tabs.length c.tc, .slice c.la c.lamps.length c.lc] 25)) := below_new w _
  have t0 : (w.alloc (.cells #[.slice c.ta c.tabs.length c.tc, .slice c.la c.lamps.length c.lc] 25)).cell? ⟨w.heap.size, 0, none⟩ = some (.slice c.ta c.tabs.length c.tc) := by simp [go_sem]
  have t1 : (w.alloc (.cells #[.slice c.ta c.tabs.length c.tc, .slice c.la c.lamps.length c.lc] 25)).cell? ⟨w.heap.size, 1, none⟩ = some (.slice c.la c.lamps.length c.lc) := by simp [go_sem]
  have ls : w.heap.size < (w.alloc (.cells #[.slice c.ta c.tabs.length c.tc, .slice c.la c.lamps.length c.lc] 25)).heap.size := by simp
  have BW0 := Lib.hid bw0
  clear bw0
  go_enter Try.func12, Try.ntmps12
  go_wp2_with fail
  generalize w.alloc (.cells #[.slice c.ta c.tabs.length c.tc, .slice c.la c.lamps.length c.lc] 25) = W0 at *
  have KC0 : Hid (W0.cell? ⟨w.heap.size, 0, none⟩ = some (.slice c.ta c.tabs.length c.tc) ∧ W0.cell? ⟨w.heap.size, 1, none⟩ = some (.slice c.la c.lamps.length c.lc) ∧ w.heap.size < W0.heap.size) := Lib.hid ⟨t0, t1, ls⟩
  with_reducible refine Calls.mono (SA.out _ (CI.out _ BW0.out)) ?_
  rintro e w1 ⟨rfl, o1⟩
  have KC1 : Hid (w1.cell? ⟨w.heap.size, 0, none⟩ = some (.slice c.ta c.tabs.length c.tc) ∧ w1.cell? ⟨w.heap.size, 1, none⟩ = some (.slice c.la c.lamps.length c.lc) ∧ w.heap.size < w1.heap.size) := Lib.hid ⟨by rw [o1.cell (p := ⟨w.heap.size, 0, none⟩) KC0.out.2.2]; exact KC0.out.1, by rw [o1.cell (p := ⟨w.heap.size, 1, none⟩) KC0.out.2.2]; exact KC0.out.2.1, Nat.lt_of_lt_of_le KC0.out.2.2 o1.size⟩
  have BW1 := Lib.hid ((BW0.out.trans (o1.mono BW0.out.size)).alloc (Nat.le_trans BW0.out.size o1.size) (.cells #[.int .i64 f0, .int .i64 f1] 35))
  clear o1 t0 t1 ls KC0
  obtain ⟨t0, t1, ls⟩ := KC1.out
  have ne1 : w.heap.size ≠ w1.heap.size := by omega
  have BA2 := Lib.hid (Bq.fresh w1 f0 f1 35)
  have o2 := below_new w1 (.cells #[.int .i64 f0, .int .i64 f1] 35)
  have KC2 : Hid ((w1.alloc (.cells #[.int .i64 f0, .int .i64 f1] 35)).cell? ⟨w.heap.size, 0, none⟩ = some (.slice c.ta c.tabs.length c.tc) ∧ (w1.alloc (.cells #[.int .i64 f0, .int .i64 f1] 35)).cell? ⟨w.heap.size, 1, none⟩ = some (.slice c.la c.lamps.length c.lc) ∧ w.heap.size < (w1.alloc (.cells #[.int .i64 f0, .int .i64 f1] 35)).heap.size) := Lib.hid ⟨by rw [o2.cell (p := ⟨w.heap.size, 0, none⟩) ls]; exact t0, by rw [o2.cell (p := ⟨w.heap.size, 1, none⟩) ls]; exact t1, Nat.lt_of_lt_of_le ls o2.size⟩
  clear o2 KC1
  go_wp2_with fail
  generalize w1.alloc (.cells #[.int .i64 f0, .int .i64 f1] 35) = W2 at *
  generalize w1.heap.size = A at *
  with_reducible refine Calls.mono (SB.out _ (CI.out _ BW1.out)) ?_
  rintro e w2 ⟨rfl, o3⟩
  clear t0 t1 ls ne1
  have BA3 := Lib.hid (BA2.out.below o3)
  have KC3 : Hid (w2.cell? ⟨w.heap.size, 0, none⟩ = some (.slice c.ta c.tabs.length c.tc) ∧ w2.cell? ⟨w.heap.size, 1, none⟩ = some (.slice c.la c.lamps.length c.lc) ∧ w.heap.size < w2.heap.size) := Lib.hid ⟨by rw [o3.cell (p := ⟨w.heap.size, 0, none⟩) KC2.out.2.2]; exact KC2.out.1, by rw [o3.cell (p := ⟨w.heap.size, 1, none⟩) KC2.out.2.2]; exact KC2.out.2.1, Nat.lt_of_lt_of_le KC2.out.2.2 o3.size⟩
  have BW2 := Lib.hid ((BW1.out.trans (o3.mono BW1.out.size)).alloc (Nat.le_trans BW1.out.size o3.size) (.cells #[.int .i64 g0, .int .i64 g1] 35))
  obtain ⟨u0, u1, _, _, lA⟩ := BA3.out
  obtain ⟨t0, t1, ls⟩ := KC3.out
  have ne1 : w.heap.size ≠ w2.heap.size := by omega
  have ne2 : A ≠ w2.heap.size := by omega
  clear o3 BA2 BA3 BW1 KC2 KC3
  go_wp2_with fail
  with_reducible refine Calls.mono (awake_any _) ?_
  rintro e w3 ⟨rfl, b3'⟩
  go_wp2_with fail
  go_ret
  exact ⟨rfl, BW2.out.trans (b3'.mono BW2.out.size)⟩

set_option maxRecDepth 100000 in
set_option maxHeartbeats 8000000 in
theorem finer_false_good (c : Cat) (n : Int) (w : World) (hc : CatIn w.heap.size c w) (hz : errOf c n c.tabs.length = 0) :
    Calls Try.prog 12 #[.agg #[c.tv, c.lv], .int .i64 n, .bool false] w fun e w' => e = .returned (.bool true) ∧ Below w.heap.size w w' := by
  have HC := Lib.hid hc
  clear hc
  have CI := Lib.hid (fun (W : World) (g : Below w.heap.size w W) => (HC.out.keep g (Nat.le_refl _)).more g.size)
  have SA := Lib.hid (fun W (g : CatIn W.heap.size c W) => Share_any c n 1 W g)
  have SB := Lib.hid (fun W (g : CatIn W.heap.size c W) => Share_any c n 2 W g)
  obtain ⟨ok, hn0, hn1⟩ := errOf_ok hz
  have EA : shaE c n 1 = 0 := by unfold shaE; rw [if_neg (fun hh => hh hz)]; rfl
  have EB : shaE c n 2 = 0 := by unfold shaE; rw [if_neg (fun hh => hh hz)]; rfl
  obtain ⟨k, rfl⟩ := Int.eq_ofNat_of_zero_le hn0
  have hk : k < c.tabs.length := by omega
  have FF := finer_facts (ok.tab k hk) (s := 1) (by omega)
  have LA : shaLo c k 1 = toLo (tabAt c.tabs k) 1 / 1000 := by unfold shaLo; rw [EA]; rfl
  have HA : shaHi c k 1 = upD (toHi (tabAt c.tabs k) 1) 1000 := by unfold shaHi; rw [EA]; rfl
  have LB : shaLo c k 2 = toLo (tabAt c.tabs k) 2 / 1000 := by unfold shaLo; rw [EB]; rfl
  have HB : shaHi c k 2 = upD (toHi (tabAt c.tabs k) 2) 1000 := by unfold shaHi; rw [EB]; rfl
  rw [EA, LA, HA] at SA
  rw [EB, LB, HB] at SB
  have TA := Lib.hid (fun (W : World) (g : Below w.heap.size w W) => tabAt_cells (HC.out.keep g (Nat.le_refl _)) hk)
  have nu1 := (ok.tab k hk).us.n1
  have nv1 := (ok.tab k hk).vs.n1
  generalize tabAt c.tabs k = t at *
  obtain ⟨a0, a1, a2, a3, a4, a5, a6⟩ := FF
  simp only [show 2 * 1 = 2 from rfl, show ((2 : Nat) : Int) = 2 from rfl] at a1 a2 a3
  generalize toLo t 1 / 1000 = f0 at *
  generalize upD (toHi t 1) 1000 = f1 at *
  generalize toLo t 2 / 1000 = g0 at *
  generalize upD (toHi t 2) 1000 = g1 at *
  obtain ⟨p1, hp1⟩ : ∃ p1, (t.us.xs.length : Int) * (t.vs.xs.length : Int) = p1 := ⟨_, rfl⟩
  rw [hp1] at a2 a3 a4 a5
  have x1 : IntKind.i64.wrap ((t.us.xs.length : Int) * (t.vs.xs.length : Int)) = p1 := by rw [hp1]; exact IntWalk.i64_in _ (by omega)
  have x2 : IntKind.i64.wrap (p1 * 2) = p1 * 2 := IntWalk.i64_in _ (by omega)
  have x3 : IntKind.i64.wrap (p1 * 2 * 2) = p1 * 2 * 2 := IntWalk.i64_in _ (by omega)
  have x4 : IntKind.i64.wrap (p1 * 2 * 2 + 999) = p1 * 2 * 2 + 999 := IntWalk.i64_in _ (by omega)
  have x5 : IntKind.i64.wrap (2 * (p1 * 2 * 2 + 999)) = 2 * (p1 * 2 * 2 + 999) := IntWalk.i64_in _ (by omega)
  have x6 : (2 * (p1 * 2 * 2 + 999)).tdiv 1000 = 2 * (p1 * 2 * 2 + 999) / 1000 := Int.tdiv_eq_ediv_of_nonneg (by omega)
  obtain ⟨y, hy⟩ : ∃ y, 2 + 2 * (p1 * 2 * 2 + 999) / 1000 = y := ⟨_, rfl⟩
  have x7 : IntKind.i64.wrap (2 * (p1 * 2 * 2 + 999) / 1000) = 2 * (p1 * 2 * 2 + 999) / 1000 := IntWalk.i64_in _ (by omega)
  have x8 : IntKind.i64.wrap (2 + 2 * (p1 * 2 * 2 + 999) / 1000) = y := by rw [hy]; exact IntWalk.i64_in _ (by omega)
  rw [hy] at a2 a3
  have yb : 0 ≤ y ∧ y ≤ 100000 := by omega
  have x9 : IntKind.i64.wrap (f0 - y) = f0 - y := IntWalk.i64_in _ (by omega)
  have xa : IntKind.i64.wrap (f1 + y) = f1 + y := IntWalk.i64_in _ (by omega)
  have d0 : decide (f0 ≤ f1) = true := decide_eq_true a0
  have d1 : decide (g0 ≤ g1) = true := decide_eq_true a1
  have d2 : decide (f0 - y ≤ g0) = true := decide_eq_true a2
  have d3 : decide (g1 ≤ f1 + y) = true := decide_eq_true a3
  have d4 : decide ((k : Int) < 0) = false := decide_eq_false (by omega)
  have d5 : decide ((c.tabs.length : Int) ≤ (k : Int)) = false := decide_eq_false (by omega)
  have s3 : (0 : Int) ≤ (k : Int) := by omega
  have s4 : (k : Int) < (c.tabs.length : Int) := by omega
  clear hz EA EB LA HA LB HB ok hn0 hn1 a0 a1 a2 a3 a4 a5 a6 hp1 hy yb
  unfold Cat.tv Cat.lv at *
  have bw0 : Below w.heap.size w (w.alloc (.cells #[.slice c.ta c.tabs.length c.tc, .slice c.la c.lamps.length c.lc] 25)) := below_new w _
  have t0 : (w.alloc (.cells #[.slice c.ta c.tabs.length c.tc, .slice c.la c.lamps.length c.lc] 25)).cell? ⟨w.heap.size, 0, none⟩ = some (.slice c.ta c.tabs.length c.tc) := by simp [go_sem]
  have t1 : (w.alloc (.cells #[.slice c.ta c.tabs.length c.tc, .slice c.la c.lamps.length c.lc] 25)).cell? ⟨w.heap.size, 1, none⟩ = some (.slice c.la c.lamps.length c.lc) := by simp [go_sem]
  have ls : w.heap.size < (w.alloc (.cells #[.slice c.ta c.tabs.length c.tc, .slice c.la c.lamps.length c.lc] 25)).heap.size := by simp
  have BW0 := Lib.hid bw0
  clear bw0
  go_enter Try.func12, Try.ntmps12
  go_wp2_with fail
  generalize w.alloc (.cells #[.slice c.ta c.tabs.length c.tc, .slice c.la c.lamps.length c.lc] 25) = W0 at *
  have KC0 : Hid (W0.cell? ⟨w.heap.size, 0, none⟩ = some (.slice c.ta c.tabs.length c.tc) ∧ W0.cell? ⟨w.heap.size, 1, none⟩ = some (.slice c.la c.lamps.length c.lc) ∧ w.heap.size < W0.heap.size) := Lib.hid ⟨t0, t1, ls⟩
  with_reducible refine Calls.mono (SA.out _ (CI.out _ BW0.out)) ?_
  rintro e w1 ⟨rfl, o1⟩
  have KC1 : Hid (w1.cell? ⟨w.heap.size, 0, none⟩ = some (.slice c.ta c.tabs.length c.tc) ∧ w1.cell? ⟨w.heap.size, 1, none⟩ = some (.slice c.la c.lamps.length c.lc) ∧ w.heap.size < w1.heap.size) := Lib.hid ⟨by rw [o1.cell (p := ⟨w.heap.size, 0, none⟩) KC0.out.2.2]; exact KC0.out.1, by rw [o1.cell (p := ⟨w.heap.size, 1, none⟩) KC0.out.2.2]; exact KC0.out.2.1, Nat.lt_of_lt_of_le KC0.out.2.2 o1.size⟩
  have BW1 := Lib.hid ((BW0.out.trans (o1.mono BW0.out.size)).alloc (Nat.le_trans BW0.out.size o1.size) (.cells #[.int .i64 f0, .int .i64 f1] 35))
  clear o1 t0 t1 ls KC0
  obtain ⟨t0, t1, ls⟩ := KC1.out
  have ne1 : w.heap.size ≠ w1.heap.size := by omega
  have BA2 := Lib.hid (Bq.fresh w1 f0 f1 35)
  have o2 := below_new w1 (.cells #[.int .i64 f0, .int .i64 f1] 35)
  have KC2 : Hid ((w1.alloc (.cells #[.int .i64 f0, .int .i64 f1] 35)).cell? ⟨w.heap.size, 0, none⟩ = some (.slice c.ta c.tabs.length c.tc) ∧ (w1.alloc (.cells #[.int .i64 f0, .int .i64 f1] 35)).cell? ⟨w.heap.size, 1, none⟩ = some (.slice c.la c.lamps.length c.lc) ∧ w.heap.size < (w1.alloc (.cells #[.int .i64 f0, .int .i64 f1] 35)).heap.size) := Lib.hid ⟨by rw [o2.cell (p := ⟨w.heap.size, 0, none⟩) ls]; exact t0, by rw [o2.cell (p := ⟨w.heap.size, 1, none⟩) ls]; exact t1, Nat.lt_of_lt_of_le ls o2.size⟩
  clear o2 KC1
  go_wp2_with fail
  generalize w1.alloc (.cells #[.int .i64 f0, .int .i64 f1] 35) = W2 at *
  generalize w1.heap.size = A at *
  with_reducible refine Calls.mono (SB.out _ (CI.out _ BW1.out)) ?_
  rintro e w2 ⟨rfl, o3⟩
  clear t0 t1 ls ne1
  have BA3 := Lib.hid (BA2.out.below o3)
  have KC3 : Hid (w2.cell? ⟨w.heap.size, 0, none⟩ = some (.slice c.ta c.tabs.length c.tc) ∧ w2.cell? ⟨w.heap.size, 1, none⟩ = some (.slice c.la c.lamps.length c.lc) ∧ w.heap.size < w2.heap.size) := Lib.hid ⟨by rw [o3.cell (p := ⟨w.heap.size, 0, none⟩) KC2.out.2.2]; exact KC2.out.1, by rw [o3.cell (p := ⟨w.heap.size, 1, none⟩) KC2.out.2.2]; exact KC2.out.2.1, Nat.lt_of_lt_of_le KC2.out.2.2 o3.size⟩
  have BW2 := Lib.hid ((BW1.out.trans (o3.mono BW1.out.size)).alloc (Nat.le_trans BW1.out.size o3.size) (.cells #[.int .i64 g0, .int .i64 g1] 35))
  obtain ⟨u0, u1, _, _, lA⟩ := BA3.out
  obtain ⟨t0, t1, ls⟩ := KC3.out
  have ne1 : w.heap.size ≠ w2.heap.size := by omega
  have ne2 : A ≠ w2.heap.size := by omega
  obtain ⟨tb, tt, ha, hb, ht⟩ := TA.out _ (BW1.out.trans (o3.mono BW1.out.size))
  have c1 := ht.c1
  have c2 := ht.c2
  unfold Ints.val at c1 c2
  clear ht
  rw [ha] at t0
  clear ha
  have ne3 : tb ≠ w2.heap.size := by omega
  have lt3 : tb < w2.heap.size := by omega
  clear o3 BA2 BA3 BW1 KC2 KC3
  go_wp2_with fail
  go_quiet (fail)
  go_wp2_with fail
  with_reducible refine Calls.mono (awake_any _) ?_
  rintro e w3 ⟨rfl, b3'⟩
  go_wp2_with fail
  go_ret
  exact ⟨rfl, BW2.out.trans ((((Own.refl _ _).drewN nq).below.trans (b3'.mono (Nat.le_refl _))).mono BW2.out.size)⟩

set_option maxRecDepth 100000 in
set_option maxHeartbeats 4000000 in
theorem finer_true_bad (c : Cat) (n : Int) (w : World) (hc : CatIn w.heap.size c w) (hz : errOf c n c.tabs.length ≠ 0) :
    Calls Try.prog 12 #[.agg #[c.tv, c.lv], .int .i64 n, .bool true] w fun e w' => e = .returned (.bool true) ∧ Below w.heap.size w w' := by
  have HC := Lib.hid hc
  clear hc
  have CI := Lib.hid (fun (W : World) (g : Below w.heap.size w W) => (HC.out.keep g (Nat.le_refl _)).more g.size)
  have SA := Lib.hid (fun W (g : CatIn W.heap.size c W) => Share_any c n 2 W g)
  have SB := Lib.hid (fun W (g : CatIn W.heap.size c W) => Share_any c n 4 W g)
  have EA : shaE c n 2 = errOf c n c.tabs.length := if_pos hz
  have EB : shaE c n 4 = errOf c n c.tabs.length := if_pos hz
  rw [EA] at SA
  rw [EB] at SB
  generalize shaLo c n 2 = f0 at *
  generalize shaHi c n 2 = f1 at *
  generalize shaLo c n 4 = g0 at *
  generalize shaHi c n 4 = g1 at *
  generalize errOf c n c.tabs.length = er at *
  have d0 : (er != 0) = true := by simpa using hz
  have d1 : (er == er) = true := by simp
  clear hz EA EB
  unfold Cat.tv Cat.lv at *
  have bw0 : Below w.heap.size w (w.alloc (.cells #[.slice c.ta c.tabs.length c.tc, .slice c.la c.lamps.length c.lc] 25)) := below_new w _
  have t0 : (w.alloc (.cells #[.slice c.ta c.tabs.length c.tc, .slice c.la c.lamps.length c.lc] 25)).cell? ⟨w.heap.size, 0, none⟩ = some (.slice c.ta c.tabs.length c.tc) := by simp [go_sem]
  have t1 : (w.alloc (.cells #[.slice c.ta c.tabs.length c.tc, .slice c.la c.lamps.length c.lc] 25)).cell? ⟨w.heap.size, 1, none⟩ = some (.slice c.la c.lamps.length c.lc) := by simp [go_sem]
  have ls : w.heap.size < (w.alloc (.cells #[.slice c.ta c.tabs.length c.tc, .slice c.la c.lamps.length c.lc] 25)).heap.size := by simp
  have BW0 := Lib.hid bw0
  clear bw0
  go_enter Try.func12, Try.ntmps12
  go_wp2_with fail
  generalize w.alloc (.cells #[.slice c.ta c.tabs.length c.tc, .slice c.la c.lamps.length c.lc] 25) = W0 at *
  have KC0 : Hid (W0.cell? ⟨w.heap.size, 0, none⟩ = some (.slice c.ta c.tabs.length c.tc) ∧ W0.cell? ⟨w.heap.size, 1, none⟩ = some (.slice c.la c.lamps.length c.lc) ∧ w.heap.size < W0.heap.size) := Lib.hid ⟨t0, t1, ls⟩
  with_reducible refine Calls.mono (SA.out _ (CI.out _ BW0.out)) ?_
  rintro e w1 ⟨rfl, o1⟩
  have KC1 : Hid (w1.cell? ⟨w.heap.size, 0, none⟩ = some (.slice c.ta c.tabs.length c.tc) ∧ w1.cell? ⟨w.heap.size, 1, none⟩ = some (.slice c.la c.lamps.length c.lc) ∧ w.heap.size < w1.heap.size) := Lib.hid ⟨by rw [o1.cell (p := ⟨w.heap.size, 0, none⟩) KC0.out.2.2]; exact KC0.out.1, by rw [o1.cell (p := ⟨w.heap.size, 1, none⟩) KC0.out.2.2]; exact KC0.out.2.1, Nat.lt_of_lt_of_le KC0.out.2.2 o1.size⟩
  have BW1 := Lib.hid ((BW0.out.trans (o1.mono BW0.out.size)).alloc (Nat.le_trans BW0.out.size o1.size) (.cells #[.int .i64 f0, .int .i64 f1] 35))
  clear o1 t0 t1 ls KC0
  obtain ⟨t0, t1, ls⟩ := KC1.out
  have ne1 : w.heap.size ≠ w1.heap.size := by omega
  have BA2 := Lib.hid (Bq.fresh w1 f0 f1 35)
  have o2 := below_new w1 (.cells #[.int .i64 f0, .int .i64 f1] 35)
  have KC2 : Hid ((w1.alloc (.cells #[.int .i64 f0, .int .i64 f1] 35)).cell? ⟨w.heap.size, 0, none⟩ = some (.slice c.ta c.tabs.length c.tc) ∧ (w1.alloc (.cells #[.int .i64 f0, .int .i64 f1] 35)).cell? ⟨w.heap.size, 1, none⟩ = some (.slice c.la c.lamps.length c.lc) ∧ w.heap.size < (w1.alloc (.cells #[.int .i64 f0, .int .i64 f1] 35)).heap.size) := Lib.hid ⟨by rw [o2.cell (p := ⟨w.heap.size, 0, none⟩) ls]; exact t0, by rw [o2.cell (p := ⟨w.heap.size, 1, none⟩) ls]; exact t1, Nat.lt_of_lt_of_le ls o2.size⟩
  clear o2 KC1
  go_wp2_with fail
  generalize w1.alloc (.cells #[.int .i64 f0, .int .i64 f1] 35) = W2 at *
  generalize w1.heap.size = A at *
  with_reducible refine Calls.mono (SB.out _ (CI.out _ BW1.out)) ?_
  rintro e w2 ⟨rfl, o3⟩
  clear t0 t1 ls ne1
  have BA3 := Lib.hid (BA2.out.below o3)
  have KC3 : Hid (w2.cell? ⟨w.heap.size, 0, none⟩ = some (.slice c.ta c.tabs.length c.tc) ∧ w2.cell? ⟨w.heap.size, 1, none⟩ = some (.slice c.la c.lamps.length c.lc) ∧ w.heap.size < w2.heap.size) := Lib.hid ⟨by rw [o3.cell (p := ⟨w.heap.size, 0, none⟩) KC2.out.2.2]; exact KC2.out.1, by rw [o3.cell (p := ⟨w.heap.size, 1, none⟩) KC2.out.2.2]; exact KC2.out.2.1, Nat.lt_of_lt_of_le KC2.out.2.2 o3.size⟩
  have BW2 := Lib.hid ((BW1.out.trans (o3.mono BW1.out.size)).alloc (Nat.le_trans BW1.out.size o3.size) (.cells #[.int .i64 g0, .int .i64 g1] 35))
  obtain ⟨u0, u1, _, _, lA⟩ := BA3.out
  obtain ⟨t0, t1, ls⟩ := KC3.out
  have ne1 : w.heap.size ≠ w2.heap.size := by omega
  have ne2 : A ≠ w2.heap.size := by omega
  clear o3 BA2 BA3 BW1 KC2 KC3
  go_wp2_with fail
  with_reducible refine Calls.mono (awake_any _) ?_
  rintro e w3 ⟨rfl, b3'⟩
  go_wp2_with fail
  go_ret
  exact ⟨rfl, BW2.out.trans (b3'.mono BW2.out.size)⟩

set_option maxRecDepth 100000 in
set_option maxHeartbeats 8000000 in
theorem finer_true_good (c : Cat) (n : Int) (w : World) (hc : CatIn w.heap.size c w) (hz : errOf c n c.tabs.length = 0) :
    Calls Try.prog 12 #[.agg #[c.tv, c.lv], .int .i64 n, .bool true] w fun e w' => e = .returned (.bool true) ∧ Below w.heap.size w w' := by
  have HC := Lib.hid hc
  clear hc
  have CI := Lib.hid (fun (W : World) (g : Below w.heap.size w W) => (HC.out.keep g (Nat.le_refl _)).more g.size)
  have SA := Lib.hid (fun W (g : CatIn W.heap.size c W) => Share_any c n 2 W g)
  have SB := Lib.hid (fun W (g : CatIn W.heap.size c W) => Share_any c n 4 W g)
  obtain ⟨ok, hn0, hn1⟩ := errOf_ok hz
  have EA : shaE c n 2 = 0 := by unfold shaE; rw [if_neg (fun hh => hh hz)]; rfl
  have EB : shaE c n 4 = 0 := by unfold shaE; rw [if_neg (fun hh => hh hz)]; rfl
  obtain ⟨k, rfl⟩ := Int.eq_ofNat_of_zero_le hn0
  have hk : k < c.tabs.length := by omega
  have FF := finer_facts (ok.tab k hk) (s := 2) (by omega)
  have LA : shaLo c k 2 = toLo (tabAt c.tabs k) 2 / 1000 := by unfold shaLo; rw [EA]; rfl
  have HA : shaHi c k 2 = upD (toHi (tabAt c.tabs k) 2) 1000 := by unfold shaHi; rw [EA]; rfl
  have LB : shaLo c k 4 = toLo (tabAt c.tabs k) 4 / 1000 := by unfold shaLo; rw [EB]; rfl
  have HB : shaHi c k 4 = upD (toHi (tabAt c.tabs k) 4) 1000 := by unfold shaHi; rw [EB]; rfl
  rw [EA, LA, HA] at SA
  rw [EB, LB, HB] at SB
  have TA := Lib.hid (fun (W : World) (g : Below w.heap.size w W) => tabAt_cells (HC.out.keep g (Nat.le_refl _)) hk)
  have nu1 := (ok.tab k hk).us.n1
  have nv1 := (ok.tab k hk).vs.n1
  generalize tabAt c.tabs k = t at *
  obtain ⟨a0, a1, a2, a3, a4, a5, a6⟩ := FF
  simp only [show 2 * 2 = 4 from rfl, show ((4 : Nat) : Int) = 4 from rfl] at a1 a2 a3
  generalize toLo t 2 / 1000 = f0 at *
  generalize upD (toHi t 2) 1000 = f1 at *
  generalize toLo t 4 / 1000 = g0 at *
  generalize upD (toHi t 4) 1000 = g1 at *
  obtain ⟨p1, hp1⟩ : ∃ p1, (t.us.xs.length : Int) * (t.vs.xs.length : Int) = p1 := ⟨_, rfl⟩
  rw [hp1] at a2 a3 a4 a5
  have x1 : IntKind.i64.wrap ((t.us.xs.length : Int) * (t.vs.xs.length : Int)) = p1 := by rw [hp1]; exact IntWalk.i64_in _ (by omega)
  have x2 : IntKind.i64.wrap (p1 * 4) = p1 * 4 := IntWalk.i64_in _ (by omega)
  have x3 : IntKind.i64.wrap (p1 * 4 * 4) = p1 * 4 * 4 := IntWalk.i64_in _ (by omega)
  have x4 : IntKind.i64.wrap (p1 * 4 * 4 + 999) = p1 * 4 * 4 + 999 := IntWalk.i64_in _ (by omega)
  have x5 : IntKind.i64.wrap (2 * (p1 * 4 * 4 + 999)) = 2 * (p1 * 4 * 4 + 999) := IntWalk.i64_in _ (by omega)
  have x6 : (2 * (p1 * 4 * 4 + 999)).tdiv 1000 = 2 * (p1 * 4 * 4 + 999) / 1000 := Int.tdiv_eq_ediv_of_nonneg (by omega)
  obtain ⟨y, hy⟩ : ∃ y, 2 + 2 * (p1 * 4 * 4 + 999) / 1000 = y := ⟨_, rfl⟩
  have x7 : IntKind.i64.wrap (2 * (p1 * 4 * 4 + 999) / 1000) = 2 * (p1 * 4 * 4 + 999) / 1000 := IntWalk.i64_in _ (by omega)
  have x8 : IntKind.i64.wrap (2 + 2 * (p1 * 4 * 4 + 999) / 1000) = y := by rw [hy]; exact IntWalk.i64_in _ (by omega)
  rw [hy] at a2 a3
  have yb : 0 ≤ y ∧ y ≤ 100000 := by omega
  have x9 : IntKind.i64.wrap (f0 - y) = f0 - y := IntWalk.i64_in _ (by omega)
  have xa : IntKind.i64.wrap (f1 + y) = f1 + y := IntWalk.i64_in _ (by omega)
  have d0 : decide (f0 ≤ f1) = true := decide_eq_true a0
  have d1 : decide (g0 ≤ g1) = true := decide_eq_true a1
  have d2 : decide (f0 - y ≤ g0) = true := decide_eq_true a2
  have d3 : decide (g1 ≤ f1 + y) = true := decide_eq_true a3
  have d4 : decide ((k : Int) < 0) = false := decide_eq_false (by omega)
  have d5 : decide ((c.tabs.length : Int) ≤ (k : Int)) = false := decide_eq_false (by omega)
  have s3 : (0 : Int) ≤ (k : Int) := by omega
  have s4 : (k : Int) < (c.tabs.length : Int) := by omega
  clear hz EA EB LA HA LB HB ok hn0 hn1 a0 a1 a2 a3 a4 a5 a6 hp1 hy yb
  unfold Cat.tv Cat.lv at *
  have bw0 : Below w.heap.size w (w.alloc (.cells #[.slice c.ta c.tabs.length c.tc, .slice c.la c.lamps.length c.lc] 25)) := below_new w _
  have t0 : (w.alloc (.cells #[.slice c.ta c.tabs.length c.tc, .slice c.la c.lamps.length c.lc] 25)).cell? ⟨w.heap.size, 0, none⟩ = some (.slice c.ta c.tabs.length c.tc) := by simp [go_sem]
  have t1 : (w.alloc (.cells #[.slice c.ta c.tabs.length c.tc, .slice c.la c.lamps.length c.lc] 25)).cell? ⟨w.heap.size, 1, none⟩ = some (.slice c.la c.lamps.length c.lc) := by simp [go_sem]
  have ls : w.heap.size < (w.alloc (.cells #[.slice c.ta c.tabs.length c.tc, .slice c.la c.lamps.length c.lc] 25)).heap.size := by simp
  have BW0 := Lib.hid bw0
  clear bw0
  go_enter Try.func12, Try.ntmps12
  go_wp2_with fail
  generalize w.alloc (.cells #[.slice c.ta c.tabs.length c.tc, .slice c.la c.lamps.length c.lc] 25) = W0 at *
  have KC0 : Hid (W0.cell? ⟨w.heap.size, 0, none⟩ = some (.slice c.ta c.tabs.length c.tc) ∧ W0.cell? ⟨w.heap.size, 1, none⟩ = some (.slice c.la c.lamps.length c.lc) ∧ w.heap.size < W0.heap.size) := Lib.hid ⟨t0, t1, ls⟩
  with_reducible refine Calls.mono (SA.out _ (CI.out _ BW0.out)) ?_
  rintro e w1 ⟨rfl, o1⟩
  have KC1 : Hid (w1.cell? ⟨w.heap.size, 0, none⟩ = some (.slice c.ta c.tabs.length c.tc) ∧ w1.cell? ⟨w.heap.size, 1, none⟩ = some (.slice c.la c.lamps.length c.lc) ∧ w.heap.size < w1.heap.size) := Lib.hid ⟨by rw [o1.cell (p := ⟨w.heap.size, 0, none⟩) KC0.out.2.2]; exact KC0.out.1, by rw [o1.cell (p := ⟨w.heap.size, 1, none⟩) KC0.out.2.2]; exact KC0.out.2.1, Nat.lt_of_lt_of_le KC0.out.2.2 o1.size⟩
  have BW1 := Lib.hid ((BW0.out.trans (o1.mono BW0.out.size)).alloc (Nat.le_trans BW0.out.size o1.size) (.cells #[.int .i64 f0, .int .i64 f1] 35))
  clear o1 t0 t1 ls KC0
  obtain ⟨t0, t1, ls⟩ := KC1.out
  have ne1 : w.heap.size ≠ w1.heap.size := by omega
  have BA2 := Lib.hid (Bq.fresh w1 f0 f1 35)
  have o2 := below_new w1 (.cells #[.int .i64 f0, .int .i64 f1] 35)
  have KC2 : Hid ((w1.alloc (.cells #[.int .i64 f0, .int .i64 f1] 35)).cell? ⟨w.heap.size, 0, none⟩ = some (.slice c.ta c.tabs.length c.tc) ∧ (w1.alloc (.cells #[.int .i64 f0, .int .i64 f1] 35)).cell? ⟨w.heap.size, 1, none⟩ = some (.slice c.la c.lamps.length c.lc) ∧ w.heap.size < (w1.alloc (.cells #[.int .i64 f0, .int .i64 f1] 35)).heap.size) := Lib.hid ⟨by rw [o2.cell (p := ⟨w.heap.size, 0, none⟩) ls]; exact t0, by rw [o2.cell (p := ⟨w.heap.size, 1, none⟩) ls]; exact t1, Nat.lt_of_lt_of_le ls o2.size⟩
  clear o2 KC1
  go_wp2_with fail
  generalize w1.alloc (.cells #[.int .i64 f0, .int .i64 f1] 35) = W2 at *
  generalize w1.heap.size = A at *
  with_reducible refine Calls.mono (SB.out _ (CI.out _ BW1.out)) ?_
  rintro e w2 ⟨rfl, o3⟩
  clear t0 t1 ls ne1
  have BA3 := Lib.hid (BA2.out.below o3)
  have KC3 : Hid (w2.cell? ⟨w.heap.size, 0, none⟩ = some (.slice c.ta c.tabs.length c.tc) ∧ w2.cell? ⟨w.heap.size, 1, none⟩ = some (.slice c.la c.lamps.length c.lc) ∧ w.heap.size < w2.heap.size) := Lib.hid ⟨by rw [o3.cell (p := ⟨w.heap.size, 0, none⟩) KC2.out.2.2]; exact KC2.out.1, by rw [o3.cell (p := ⟨w.heap.size, 1, none⟩) KC2.out.2.2]; exact KC2.out.2.1, Nat.lt_of_lt_of_le KC2.out.2.2 o3.size⟩
  have BW2 := Lib.hid ((BW1.out.trans (o3.mono BW1.out.size)).alloc (Nat.le_trans BW1.out.size o3.size) (.cells #[.int .i64 g0, .int .i64 g1] 35))
  obtain ⟨u0, u1, _, _, lA⟩ := BA3.out
  obtain ⟨t0, t1, ls⟩ := KC3.out
  have ne1 : w.heap.size ≠ w2.heap.size := by omega
  have ne2 : A ≠ w2.heap.size := by omega
  obtain ⟨tb, tt, ha, hb, ht⟩ := TA.out _ (BW1.out.trans (o3.mono BW1.out.size))
  have c1 := ht.c1
  have c2 := ht.c2
  unfold Ints.val at c1 c2
  clear ht
  rw [ha] at t0
  clear ha
  have ne3 : tb ≠ w2.heap.size := by omega
  have lt3 : tb < w2.heap.size := by omega
  clear o3 BA2 BA3 BW1 KC2 KC3
  go_wp2_with fail
  go_quiet (fail)
  go_wp2_with fail
  with_reducible refine Calls.mono (awake_any _) ?_
  rintro e w3 ⟨rfl, b3'⟩
  go_wp2_with fail
  go_ret
  exact ⟨rfl, BW2.out.trans ((((Own.refl _ _).drewN nq).below.trans (b3'.mono (Nat.le_refl _))).mono BW2.out.size)⟩

theorem lawFiner_any (c : Cat) (n : Int) (b : Bool) (w : World) (hc : CatIn w.heap.size c w) :
    Calls Try.prog 12 #[.agg #[c.tv, c.lv], .int .i64 n, .bool b] w fun e w' => e = .returned (.bool true) ∧ Below w.heap.size w w' := by
  by_cases hz : errOf c n c.tabs.length = 0
  · cases b
    · exact finer_false_good c n w hc hz
    · exact finer_true_good c n w hc hz
  · cases b
    · exact finer_false_bad c n w hc hz
    · exact finer_true_bad c n w hc hz
end Go.Proofs.Ytgmpipciinphiaa
