/- The night after a day (code). -/
import Derived.Test.YtjcgojbfjefbcaaDoorLv
import Derived.Test.YtjcgojbfjefbcaaDoorNb
namespace Go.Proofs.YtjcgojbfjefbcaaDoor
set_option linter.unusedSimpArgs false
set_option linter.unusedVariables false
open Go.RowKit SineNear

set_option maxRecDepth 100000 in
set_option maxHeartbeats 4000000 in
theorem night_ll (cb : Nat) (la lo zo a0 a1 day k m p0 p1 q0 q1 u0 u1 u2 : Int) (dd0 : 0 ≤ day) (dd1 : day ≤ 40000)
    (P1 : Hid (RetC cb la lo zo a0 a1 81 #[hv (reP false) false, .pointer (some ⟨cb, 0, none⟩), .int .i64 day] (.tuple #[.int .i64 2, en (p0, p1)])))
    (P2 : Hid (RetC cb la lo zo a0 a1 81 #[hv (reP true) true, .pointer (some ⟨cb, 0, none⟩), .int .i64 (day + 1)] (.tuple #[.int .i64 2, en (q0, q1)])))
    (w : World) (cl : cb < w.heap.size) (ct : City cb la lo zo a0 a1 w) (ev : TabE w) (tm : TabM w) :
    Calls Tryd.prog 71 #[.pointer (some ⟨cb, 0, none⟩), .int .i64 day] w fun e w' => e = .returned (en (0, 0)) ∧ Below w.heap.size w w' := by
  have hb : Below w.heap.size w w := Below.refl _ _
  have EV := Lib.hid ev
  obtain ⟨e0, e1, e2, el⟩ := ev
  have en0 : 1 ≠ w.heap.size := by omega
  go_enter Tryd.func71, Tryd.ntmps71
  go_wp2_with fail
  clear e0 e1 e2 el en0
  have ev := EV.out
  clear EV
  refine fresh_call (fun W => Box w.heap.size 0 0 W ∧ City cb la lo zo a0 a1 W ∧ TabE W ∧ TabM W ∧ Below w.heap.size w W) ⟨Box.fresh _ _ _ _, ct.alloc _, ev.alloc _, tm.alloc _, hb.alloc (Nat.le_refl _) _⟩ ?_
  clear ct ev tm hb
  rintro W1 ⟨r, ct, ev, tm, hb⟩
  refine (P1.out _ ct).mono ?_
  rintro e v1 ⟨rfl, hq⟩
  have r := r.below hq
  have ct := ct.below hq
  have ev := ev.below hq
  have tm := tm.below hq
  have hb := hb.trans (hq.mono hb.size)
  clear hq
  clear P1
  have TM := Lib.hid tm
  obtain ⟨m0, m1, m2, ml⟩ := tm
  have mn0 : 2 ≠ v1.heap.size := by omega
  go_wp2_with fail
  clear m0 m1 m2 ml mn0
  have tm := TM.out
  clear TM
  have rl : w.heap.size < v1.heap.size := r.lt
  refine fresh_call (fun W => Box w.heap.size 0 0 W ∧ Box v1.heap.size p0 p1 W ∧ City cb la lo zo a0 a1 W ∧ TabE W ∧ TabM W ∧ Below w.heap.size w W) ⟨r.alloc _, Box.fresh _ _ _ _, ct.alloc _, ev.alloc _, tm.alloc _, hb.alloc hb.size _⟩ ?_
  clear r ct ev tm hb
  rintro W2 ⟨r, x, ct, ev, tm, hb⟩
  refine (P2.out _ ct).mono ?_
  rintro e v2 ⟨rfl, hq⟩
  have r := r.below hq
  have x := x.below hq
  have ct := ct.below hq
  have ev := ev.below hq
  have tm := tm.below hq
  have hb := hb.trans (hq.mono hb.size)
  clear hq
  clear P2
  have xl : v1.heap.size < v2.heap.size := x.lt
  have RB := Lib.hid r
  have XB := Lib.hid x
  obtain ⟨r0, r1, r2, r3, r4⟩ := r
  obtain ⟨x0, x1, x2, x3, x4⟩ := x
  have rn0 : w.heap.size ≠ v2.heap.size := by omega
  have rn1 : w.heap.size ≠ v2.heap.size + 1 := by omega
  have xn0 : v1.heap.size ≠ v2.heap.size := by omega
  have xn1 : v1.heap.size ≠ v2.heap.size + 1 := by omega
  go_wp2_with fail
  exact bodyPost_ret (v := en (0, 0)) (by simp [results, Tryd.results71, go_sem, r0, r1, r2, r3, r4]) rfl ⟨rfl, ((hb.setCell (by simp) _).setCell (by simp) _).alloc (by simpa using hb.size) _⟩

set_option maxRecDepth 100000 in
set_option maxHeartbeats 4000000 in
theorem night_pp (cb : Nat) (la lo zo a0 a1 day k m p0 p1 q0 q1 u0 u1 u2 : Int) (dd0 : 0 ≤ day) (dd1 : day ≤ 40000)
    (P1 : Hid (RetC cb la lo zo a0 a1 81 #[hv (reP false) false, .pointer (some ⟨cb, 0, none⟩), .int .i64 day] (.tuple #[.int .i64 k, en (p0, p1)])))
    (P2 : Hid (RetC cb la lo zo a0 a1 81 #[hv (reP true) true, .pointer (some ⟨cb, 0, none⟩), .int .i64 (day + 1)] (.tuple #[.int .i64 m, en (q0, q1)])))
    (L1 : Hid (RetC cb la lo zo a0 a1 82 #[.pointer (some ⟨cb, 0, none⟩), .int .i64 day, en (p0, q1)] (en (loP zo day (p0, q1)))))
    (hk : (k == 2) = false) (hm : (m == 2) = false)
    (w : World) (cl : cb < w.heap.size) (ct : City cb la lo zo a0 a1 w) (ev : TabE w) (tm : TabM w) :
    Calls Tryd.prog 71 #[.pointer (some ⟨cb, 0, none⟩), .int .i64 day] w fun e w' => e = .returned (en (loP zo day (p0, q1))) ∧ Below w.heap.size w w' := by
  have hb : Below w.heap.size w w := Below.refl _ _
  have EV := Lib.hid ev
  obtain ⟨e0, e1, e2, el⟩ := ev
  have en0 : 1 ≠ w.heap.size := by omega
  go_enter Tryd.func71, Tryd.ntmps71
  go_wp2_with fail
  clear e0 e1 e2 el en0
  have ev := EV.out
  clear EV
  refine fresh_call (fun W => Box w.heap.size 0 0 W ∧ City cb la lo zo a0 a1 W ∧ TabE W ∧ TabM W ∧ Below w.heap.size w W) ⟨Box.fresh _ _ _ _, ct.alloc _, ev.alloc _, tm.alloc _, hb.alloc (Nat.le_refl _) _⟩ ?_
  clear ct ev tm hb
  rintro W1 ⟨r, ct, ev, tm, hb⟩
  refine (P1.out _ ct).mono ?_
  rintro e v1 ⟨rfl, hq⟩
  have r := r.below hq
  have ct := ct.below hq
  have ev := ev.below hq
  have tm := tm.below hq
  have hb := hb.trans (hq.mono hb.size)
  clear hq
  clear P1
  have TM := Lib.hid tm
  obtain ⟨m0, m1, m2, ml⟩ := tm
  have mn0 : 2 ≠ v1.heap.size := by omega
  go_wp2_with fail
  clear m0 m1 m2 ml mn0
  have tm := TM.out
  clear TM
  have rl : w.heap.size < v1.heap.size := r.lt
  refine fresh_call (fun W => Box w.heap.size 0 0 W ∧ Box v1.heap.size p0 p1 W ∧ City cb la lo zo a0 a1 W ∧ TabE W ∧ TabM W ∧ Below w.heap.size w W) ⟨r.alloc _, Box.fresh _ _ _ _, ct.alloc _, ev.alloc _, tm.alloc _, hb.alloc hb.size _⟩ ?_
  clear r ct ev tm hb
  rintro W2 ⟨r, x, ct, ev, tm, hb⟩
  refine (P2.out _ ct).mono ?_
  rintro e v2 ⟨rfl, hq⟩
  have r := r.below hq
  have x := x.below hq
  have ct := ct.below hq
  have ev := ev.below hq
  have tm := tm.below hq
  have hb := hb.trans (hq.mono hb.size)
  clear hq
  clear P2
  have xl : v1.heap.size < v2.heap.size := x.lt
  have RB := Lib.hid r
  have XB := Lib.hid x
  obtain ⟨r0, r1, r2, r3, r4⟩ := r
  obtain ⟨x0, x1, x2, x3, x4⟩ := x
  have rn0 : w.heap.size ≠ v2.heap.size := by omega
  have rn1 : w.heap.size ≠ v2.heap.size + 1 := by omega
  have xn0 : v1.heap.size ≠ v2.heap.size := by omega
  have xn1 : v1.heap.size ≠ v2.heap.size + 1 := by omega
  go_wp2_with fail
  clear r0 r1 r2 r3 r4 x0 x1 x2 x3 x4 rn0 rn1 xn0 xn1
  have r := RB.out
  clear RB XB
  have hn : Below v2.heap.size v2 ((v2.alloc (.cells #[.int .i64 q0, .int .i64 q1] 51)).alloc (.cells #[.int .i64 p0, .int .i64 q1] 51)) := ((Below.refl _ _).alloc (Nat.le_refl _) _).alloc (by simp) _
  refine fresh_call (fun W => Box w.heap.size 0 0 W ∧ Box (v2.heap.size + 1) p0 q1 W ∧ City cb la lo zo a0 a1 W ∧ TabE W ∧ TabM W ∧ Below w.heap.size w W) ⟨r.below hn, Box.freshAt (by simp) _ _ _, ct.below hn, ev.below hn, tm.below hn, hb.trans (hn.mono hb.size)⟩ ?_
  clear hn r ct ev tm hb
  rintro W3 ⟨r, d, ct, ev, tm, hb⟩
  have dl := d.lt
  refine (L1.out _ ct).mono ?_
  rintro e v9 ⟨rfl, hq⟩
  have r := r.below hq
  have d := d.below hq
  have hb := hb.trans (hq.mono hb.size)
  clear hq
  clear L1 ct
  have rd : w.heap.size ≠ v2.heap.size + 1 := by omega
  obtain ⟨r0, r1, r2, r3, r4⟩ := r
  obtain ⟨d0, d1, d2, d3, d4⟩ := d
  go_wp2_with fail
  exact bodyPost_ret (v := en (loP zo day (p0, q1))) (by simp [results, Tryd.results71, go_sem, r0, r1, r2, r3, r4]) rfl ⟨rfl, (((hb.setCell (by simp; omega) _).setCell (by simp; omega) _).setCell (by simp) _).setCell (by simp) _⟩

set_option maxRecDepth 100000 in
set_option maxHeartbeats 4000000 in
theorem night_lp (cb : Nat) (la lo zo a0 a1 day k m p0 p1 q0 q1 u0 u1 u2 : Int) (dd0 : 0 ≤ day) (dd1 : day ≤ 40000)
    (P1 : Hid (RetC cb la lo zo a0 a1 81 #[hv (reP false) false, .pointer (some ⟨cb, 0, none⟩), .int .i64 day] (.tuple #[.int .i64 2, en (p0, p1)])))
    (P2 : Hid (RetC cb la lo zo a0 a1 81 #[hv (reP true) true, .pointer (some ⟨cb, 0, none⟩), .int .i64 (day + 1)] (.tuple #[.int .i64 m, en (q0, q1)])))
    (Q1 : Hid (RetC cb la lo zo a0 a1 95 #[hv (reP true) true, .pointer (some ⟨cb, 0, none⟩), .int .i64 (day + 1)] (.agg #[.int .i64 u0, .int .i64 u2])))
    (L1 : Hid (RetC cb la lo zo a0 a1 82 #[.pointer (some ⟨cb, 0, none⟩), .int .i64 day, en (u0, q1)] (en (loP zo day (u0, q1)))))
    (hm : (m == 2) = false)
    (w : World) (cl : cb < w.heap.size) (ct : City cb la lo zo a0 a1 w) (ev : TabE w) (tm : TabM w) :
    Calls Tryd.prog 71 #[.pointer (some ⟨cb, 0, none⟩), .int .i64 day] w fun e w' => e = .returned (en (loP zo day (u0, q1))) ∧ Below w.heap.size w w' := by
  have F0 : ∀ w : World, (Instr.field 51 (.agg #[.int .i64 u0, .int .i64 u2]) 0).run Tryd.prog w = .ok (.int .i64 u0) w := fun w => field0 u0 u2 w
  have hb : Below w.heap.size w w := Below.refl _ _
  have EV := Lib.hid ev
  obtain ⟨e0, e1, e2, el⟩ := ev
  have en0 : 1 ≠ w.heap.size := by omega
  go_enter Tryd.func71, Tryd.ntmps71
  go_wp2_with fail
  clear e0 e1 e2 el en0
  have ev := EV.out
  clear EV
  refine fresh_call (fun W => Box w.heap.size 0 0 W ∧ City cb la lo zo a0 a1 W ∧ TabE W ∧ TabM W ∧ Below w.heap.size w W) ⟨Box.fresh _ _ _ _, ct.alloc _, ev.alloc _, tm.alloc _, hb.alloc (Nat.le_refl _) _⟩ ?_
  clear ct ev tm hb
  rintro W1 ⟨r, ct, ev, tm, hb⟩
  refine (P1.out _ ct).mono ?_
  rintro e v1 ⟨rfl, hq⟩
  have r := r.below hq
  have ct := ct.below hq
  have ev := ev.below hq
  have tm := tm.below hq
  have hb := hb.trans (hq.mono hb.size)
  clear hq
  clear P1
  have TM := Lib.hid tm
  obtain ⟨m0, m1, m2, ml⟩ := tm
  have mn0 : 2 ≠ v1.heap.size := by omega
  go_wp2_with fail
  clear m0 m1 m2 ml mn0
  have tm := TM.out
  clear TM
  have rl : w.heap.size < v1.heap.size := r.lt
  refine fresh_call (fun W => Box w.heap.size 0 0 W ∧ Box v1.heap.size p0 p1 W ∧ City cb la lo zo a0 a1 W ∧ TabE W ∧ TabM W ∧ Below w.heap.size w W) ⟨r.alloc _, Box.fresh _ _ _ _, ct.alloc _, ev.alloc _, tm.alloc _, hb.alloc hb.size _⟩ ?_
  clear r ct ev tm hb
  rintro W2 ⟨r, x, ct, ev, tm, hb⟩
  refine (P2.out _ ct).mono ?_
  rintro e v2 ⟨rfl, hq⟩
  have r := r.below hq
  have x := x.below hq
  have ct := ct.below hq
  have ev := ev.below hq
  have tm := tm.below hq
  have hb := hb.trans (hq.mono hb.size)
  clear hq
  clear P2
  have xl : v1.heap.size < v2.heap.size := x.lt
  have RB := Lib.hid r
  have XB := Lib.hid x
  obtain ⟨r0, r1, r2, r3, r4⟩ := r
  obtain ⟨x0, x1, x2, x3, x4⟩ := x
  have rn0 : w.heap.size ≠ v2.heap.size := by omega
  have rn1 : w.heap.size ≠ v2.heap.size + 1 := by omega
  have xn0 : v1.heap.size ≠ v2.heap.size := by omega
  have xn1 : v1.heap.size ≠ v2.heap.size + 1 := by omega
  have TM := Lib.hid tm
  obtain ⟨m0, m1, m2, ml⟩ := tm
  have mn0 : 2 ≠ v2.heap.size := by omega
  have mn1 : 2 ≠ v2.heap.size + 1 := by omega
  have mn2 : 2 ≠ v2.heap.size + 1 + 1 := by omega
  have ml2 : 2 < v2.heap.size + 1 := by omega
  go_wp2_with fail
  clear ml2
  clear m0 m1 m2 ml mn0 mn1 mn2
  have tm := TM.out
  clear TM
  clear r0 r1 r2 r3 r4 x0 x1 x2 x3 x4 rn0 rn1 xn0 xn1
  have r := RB.out
  clear RB XB
  have hn : Below v2.heap.size v2 ((v2.alloc (.cells #[.int .i64 q0, .int .i64 q1] 51)).alloc (.cells #[.int .i64 p0, .int .i64 q1] 51)) := ((Below.refl _ _).alloc (Nat.le_refl _) _).alloc (by simp) _
  refine fresh_call (fun W => Box w.heap.size 0 0 W ∧ Box (v2.heap.size + 1) p0 q1 W ∧ City cb la lo zo a0 a1 W ∧ TabE W ∧ TabM W ∧ Below w.heap.size w W) ⟨r.below hn, Box.freshAt (by simp) _ _ _, ct.below hn, ev.below hn, tm.below hn, hb.trans (hn.mono hb.size)⟩ ?_
  clear hn r ct ev tm hb
  rintro W3 ⟨r, d, ct, ev, tm, hb⟩
  refine (Q1.out _ ct).mono ?_
  rintro e v3 ⟨rfl, hq⟩
  have r := r.below hq
  have d := d.below hq
  have ct := ct.below hq
  have hb := hb.trans (hq.mono hb.size)
  clear hq
  clear Q1
  have dl := d.lt
  have rd0 : w.heap.size ≠ v2.heap.size + 1 := by omega
  have DB := Lib.hid d
  obtain ⟨d0, d1, d2, d3, d4⟩ := d
  go_wp2_with fail
  have d := DB.out
  clear DB d0 d1 d2 d3 d4
  have BT : But [v2.heap.size + 1] v3 (v3.setCell ⟨v2.heap.size + 1, 0, none⟩ (.int .i64 u0)) := (But.of (Below.refl _ _)).set (by simp) _ _
  have dn : Box (v2.heap.size + 1) u0 q1 (v3.setCell ⟨v2.heap.size + 1, 0, none⟩ (.int .i64 u0)) := by
    obtain ⟨d0, d1, d2, d3, d4⟩ := d
    refine ⟨?_, ?_, ?_, ?_, by simpa using d4⟩ <;> simp [go_sem, d0, d1, d2, d3, d4]
  refine fresh_call (fun W => Box w.heap.size 0 0 W ∧ Box (v2.heap.size + 1) u0 q1 W ∧ City cb la lo zo a0 a1 W ∧ Below w.heap.size w W) ⟨BT.box r (by simp; omega), dn, BT.city ct (by simp; have := cl; omega), BT.toBelow hb (Nat.le_refl _) (by intro k hk; simp at hk; omega)⟩ ?_
  clear BT dn r d ct hb
  rintro W4 ⟨r, d, ct, hb⟩
  refine (L1.out _ ct).mono ?_
  rintro e v9 ⟨rfl, hq⟩
  have r := r.below hq
  have d := d.below hq
  have hb := hb.trans (hq.mono hb.size)
  clear hq
  clear L1 ct
  have rd : w.heap.size ≠ v2.heap.size + 1 := by omega
  obtain ⟨r0, r1, r2, r3, r4⟩ := r
  obtain ⟨d0, d1, d2, d3, d4⟩ := d
  go_wp2_with fail
  exact bodyPost_ret (v := en (loP zo day (u0, q1))) (by simp [results, Tryd.results71, go_sem, r0, r1, r2, r3, r4]) rfl ⟨rfl, (((hb.setCell (by simp; omega) _).setCell (by simp; omega) _).setCell (by simp) _).setCell (by simp) _⟩

set_option maxRecDepth 100000 in
set_option maxHeartbeats 4000000 in
theorem night_pl (cb : Nat) (la lo zo a0 a1 day k m p0 p1 q0 q1 u0 u1 u2 : Int) (dd0 : 0 ≤ day) (dd1 : day ≤ 40000)
    (P1 : Hid (RetC cb la lo zo a0 a1 81 #[hv (reP false) false, .pointer (some ⟨cb, 0, none⟩), .int .i64 day] (.tuple #[.int .i64 k, en (p0, p1)])))
    (P2 : Hid (RetC cb la lo zo a0 a1 81 #[hv (reP true) true, .pointer (some ⟨cb, 0, none⟩), .int .i64 (day + 1)] (.tuple #[.int .i64 2, en (q0, q1)])))
    (Q2 : Hid (RetC cb la lo zo a0 a1 95 #[hv (reP false) false, .pointer (some ⟨cb, 0, none⟩), .int .i64 day] (.agg #[.int .i64 u2, .int .i64 u1])))
    (L1 : Hid (RetC cb la lo zo a0 a1 82 #[.pointer (some ⟨cb, 0, none⟩), .int .i64 day, en (p0, u1)] (en (loP zo day (p0, u1)))))
    (hk : (k == 2) = false)
    (w : World) (cl : cb < w.heap.size) (ct : City cb la lo zo a0 a1 w) (ev : TabE w) (tm : TabM w) :
    Calls Tryd.prog 71 #[.pointer (some ⟨cb, 0, none⟩), .int .i64 day] w fun e w' => e = .returned (en (loP zo day (p0, u1))) ∧ Below w.heap.size w w' := by
  have F0 : ∀ w : World, (Instr.field 51 (.agg #[.int .i64 u2, .int .i64 u1]) 1).run Tryd.prog w = .ok (.int .i64 u1) w := fun w => field1 u2 u1 w
  have hb : Below w.heap.size w w := Below.refl _ _
  have EV := Lib.hid ev
  obtain ⟨e0, e1, e2, el⟩ := ev
  have en0 : 1 ≠ w.heap.size := by omega
  go_enter Tryd.func71, Tryd.ntmps71
  go_wp2_with fail
  clear e0 e1 e2 el en0
  have ev := EV.out
  clear EV
  refine fresh_call (fun W => Box w.heap.size 0 0 W ∧ City cb la lo zo a0 a1 W ∧ TabE W ∧ TabM W ∧ Below w.heap.size w W) ⟨Box.fresh _ _ _ _, ct.alloc _, ev.alloc _, tm.alloc _, hb.alloc (Nat.le_refl _) _⟩ ?_
  clear ct ev tm hb
  rintro W1 ⟨r, ct, ev, tm, hb⟩
  refine (P1.out _ ct).mono ?_
  rintro e v1 ⟨rfl, hq⟩
  have r := r.below hq
  have ct := ct.below hq
  have ev := ev.below hq
  have tm := tm.below hq
  have hb := hb.trans (hq.mono hb.size)
  clear hq
  clear P1
  have TM := Lib.hid tm
  obtain ⟨m0, m1, m2, ml⟩ := tm
  have mn0 : 2 ≠ v1.heap.size := by omega
  go_wp2_with fail
  clear m0 m1 m2 ml mn0
  have tm := TM.out
  clear TM
  have rl : w.heap.size < v1.heap.size := r.lt
  refine fresh_call (fun W => Box w.heap.size 0 0 W ∧ Box v1.heap.size p0 p1 W ∧ City cb la lo zo a0 a1 W ∧ TabE W ∧ TabM W ∧ Below w.heap.size w W) ⟨r.alloc _, Box.fresh _ _ _ _, ct.alloc _, ev.alloc _, tm.alloc _, hb.alloc hb.size _⟩ ?_
  clear r ct ev tm hb
  rintro W2 ⟨r, x, ct, ev, tm, hb⟩
  refine (P2.out _ ct).mono ?_
  rintro e v2 ⟨rfl, hq⟩
  have r := r.below hq
  have x := x.below hq
  have ct := ct.below hq
  have ev := ev.below hq
  have tm := tm.below hq
  have hb := hb.trans (hq.mono hb.size)
  clear hq
  clear P2
  have xl : v1.heap.size < v2.heap.size := x.lt
  have RB := Lib.hid r
  have XB := Lib.hid x
  obtain ⟨r0, r1, r2, r3, r4⟩ := r
  obtain ⟨x0, x1, x2, x3, x4⟩ := x
  have rn0 : w.heap.size ≠ v2.heap.size := by omega
  have rn1 : w.heap.size ≠ v2.heap.size + 1 := by omega
  have xn0 : v1.heap.size ≠ v2.heap.size := by omega
  have xn1 : v1.heap.size ≠ v2.heap.size + 1 := by omega
  have EV := Lib.hid ev
  obtain ⟨e0, e1, e2, el⟩ := ev
  have en0 : 1 ≠ v2.heap.size := by omega
  have en1 : 1 ≠ v2.heap.size + 1 := by omega
  have en2 : 1 ≠ v2.heap.size + 1 + 1 := by omega
  have el2 : 1 < v2.heap.size + 1 := by omega
  go_wp2_with fail
  clear el2
  clear e0 e1 e2 el en0 en1 en2
  have ev := EV.out
  clear EV
  clear r0 r1 r2 r3 r4 x0 x1 x2 x3 x4 rn0 rn1 xn0 xn1
  have r := RB.out
  clear RB XB
  have hn : Below v2.heap.size v2 ((v2.alloc (.cells #[.int .i64 q0, .int .i64 q1] 51)).alloc (.cells #[.int .i64 p0, .int .i64 q1] 51)) := ((Below.refl _ _).alloc (Nat.le_refl _) _).alloc (by simp) _
  refine fresh_call (fun W => Box w.heap.size 0 0 W ∧ Box (v2.heap.size + 1) p0 q1 W ∧ City cb la lo zo a0 a1 W ∧ TabE W ∧ TabM W ∧ Below w.heap.size w W) ⟨r.below hn, Box.freshAt (by simp) _ _ _, ct.below hn, ev.below hn, tm.below hn, hb.trans (hn.mono hb.size)⟩ ?_
  clear hn r ct ev tm hb
  rintro W3 ⟨r, d, ct, ev, tm, hb⟩
  refine (Q2.out _ ct).mono ?_
  rintro e v3 ⟨rfl, hq⟩
  have r := r.below hq
  have d := d.below hq
  have ct := ct.below hq
  have hb := hb.trans (hq.mono hb.size)
  clear hq
  clear Q2
  have dl := d.lt
  have rd0 : w.heap.size ≠ v2.heap.size + 1 := by omega
  have DB := Lib.hid d
  obtain ⟨d0, d1, d2, d3, d4⟩ := d
  go_wp2_with fail
  have d := DB.out
  clear DB d0 d1 d2 d3 d4
  have BT : But [v2.heap.size + 1] v3 (v3.setCell ⟨v2.heap.size + 1, 1, none⟩ (.int .i64 u1)) := (But.of (Below.refl _ _)).set (by simp) _ _
  have dn : Box (v2.heap.size + 1) p0 u1 (v3.setCell ⟨v2.heap.size + 1, 1, none⟩ (.int .i64 u1)) := by
    obtain ⟨d0, d1, d2, d3, d4⟩ := d
    refine ⟨?_, ?_, ?_, ?_, by simpa using d4⟩ <;> simp [go_sem, d0, d1, d2, d3, d4]
  refine fresh_call (fun W => Box w.heap.size 0 0 W ∧ Box (v2.heap.size + 1) p0 u1 W ∧ City cb la lo zo a0 a1 W ∧ Below w.heap.size w W) ⟨BT.box r (by simp; omega), dn, BT.city ct (by simp; have := cl; omega), BT.toBelow hb (Nat.le_refl _) (by intro k hk; simp at hk; omega)⟩ ?_
  clear BT dn r d ct hb
  rintro W4 ⟨r, d, ct, hb⟩
  refine (L1.out _ ct).mono ?_
  rintro e v9 ⟨rfl, hq⟩
  have r := r.below hq
  have d := d.below hq
  have hb := hb.trans (hq.mono hb.size)
  clear hq
  clear L1 ct
  have rd : w.heap.size ≠ v2.heap.size + 1 := by omega
  obtain ⟨r0, r1, r2, r3, r4⟩ := r
  obtain ⟨d0, d1, d2, d3, d4⟩ := d
  go_wp2_with fail
  exact bodyPost_ret (v := en (loP zo day (p0, u1))) (by simp [results, Tryd.results71, go_sem, r0, r1, r2, r3, r4]) rfl ⟨rfl, (((hb.setCell (by simp; omega) _).setCell (by simp; omega) _).setCell (by simp) _).setCell (by simp) _⟩
end Go.Proofs.YtjcgojbfjefbcaaDoor
