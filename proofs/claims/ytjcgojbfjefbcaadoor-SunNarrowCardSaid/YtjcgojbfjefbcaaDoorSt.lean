/- Errors of cities; when the sun sets and rises (code). -/
import Derived.Test.YtjcgojbfjefbcaaDoorSs
namespace Go.Proofs.YtjcgojbfjefbcaaDoor
set_option linter.unusedSimpArgs false
set_option linter.unusedVariables false
open Go.RowKit SineNear
attribute [local go_sem ↓] Go.wp_at_zero Go.wp_at_succ

/-- a number from least to most -/
def frB (n l m : Int) : Bool := decide (l ≤ n ∧ n ≤ m)
theorem frB_yes {n l m : Int} (h : frB n l m = true) : l ≤ n ∧ n ≤ m := of_decide_eq_true h
theorem from_T (n l m : Int) : RetT 49 #[.int .i64 n, .int .i64 l, .int .i64 m] (.bool (frB n l m)) := by
  intro w
  by_cases h : l ≤ n
  · go_enter Tryd.func49, Tryd.ntmps49
    go_wp2
    go_ret
    exact ⟨ret_bool (by unfold frB; simp [h]), Below.refl _ _⟩
  · go_enter Tryd.func49, Tryd.ntmps49
    go_wp2
    go_ret
    exact ⟨ret_bool (by unfold frB; simp; omega), Below.refl _ _⟩
theorem within_T (x : P2) (l m : Int) : RetT 67 #[en x, .int .i64 l, .int .i64 m] (.bool (inB x.1 x.2 l m)) := fun w => (isWithin_any x.1 x.2 l m w).mono fun _ _ ⟨e, o⟩ => ⟨e, o.below⟩

/-- a city as a value -/
abbrev cv (la lo zo : Int) (alt : P2) : Value := .agg #[.int .i64 la, .int .i64 lo, .int .i64 zo, .int .i64 alt.1, .int .i64 alt.2]
def okB (la lo zo : Int) (alt : P2) : Bool := frB la (-88000000) 88000000 && frB lo (-180000000) 180000000 && frB zo (-50400) 50400 && inB alt.1 alt.2 (-18000000) 0
def chE (la lo zo : Int) (alt : P2) : Int := if okB la lo zo alt then 0 else 7

set_option maxHeartbeats 1000000 in
theorem check_1n (la lo zo : Int) (alt : P2) (h0 : frB la (-88000000) 88000000 = false) : RetT 38 #[cv la lo zo alt] (.int .i64 7) := by
  intro w
  have C0 := from_T la (-88000000) 88000000
  rw [h0] at C0
  have C0 := Lib.hid C0
  clear h0
  go_enter Tryd.func38, Tryd.ntmps38
  go_wp2_with fail
  refine fresh_call (fun W => City (w.heap.size) (la) (lo) (zo) (alt.1) (alt.2) W ∧ Below w.heap.size w W) ⟨(City.fresh _ _ _ _ _ _ _), ((Below.refl _ _).alloc (Nat.le_refl _) _)⟩ ?_
  rintro W1 ⟨ct, hb⟩
  refine (C0.out _).mono ?_
  rintro e v2 ⟨rfl, hq⟩
  have ct := ct.below hq
  have hb := hb.trans (hq.mono hb.size)
  clear hq
  go_wp2_with fail
  go_ret
  exact ⟨rfl, hb⟩
set_option maxHeartbeats 1000000 in
theorem check_2n (la lo zo : Int) (alt : P2) (h0 : frB la (-88000000) 88000000 = true) (h1 : frB lo (-180000000) 180000000 = false) : RetT 38 #[cv la lo zo alt] (.int .i64 7) := by
  intro w
  have C0 := from_T la (-88000000) 88000000
  rw [h0] at C0
  have C0 := Lib.hid C0
  have C1 := from_T lo (-180000000) 180000000
  rw [h1] at C1
  have C1 := Lib.hid C1
  clear h0 h1
  go_enter Tryd.func38, Tryd.ntmps38
  go_wp2_with fail
  refine fresh_call (fun W => City (w.heap.size) (la) (lo) (zo) (alt.1) (alt.2) W ∧ Below w.heap.size w W) ⟨(City.fresh _ _ _ _ _ _ _), ((Below.refl _ _).alloc (Nat.le_refl _) _)⟩ ?_
  rintro W1 ⟨ct, hb⟩
  refine (C0.out _).mono ?_
  rintro e v2 ⟨rfl, hq⟩
  have ct := ct.below hq
  have hb := hb.trans (hq.mono hb.size)
  clear hq
  have Hct := Lib.hid ct
  obtain ⟨ct_0, ct_1, ct_2, ct_3, ct_4, ct_5⟩ := ct
  have ct_n : (w.heap.size) ≠ v2.heap.size := Nat.ne_of_lt ct_5
  go_wp2_with fail
  clear ct_n ct_0 ct_1 ct_2 ct_3 ct_4 ct_5
  have ct := Hct.out
  clear Hct
  refine (C1.out _).mono ?_
  rintro e v3 ⟨rfl, hq⟩
  have ct := ct.below hq
  have hb := hb.trans (hq.mono hb.size)
  clear hq
  go_wp2_with fail
  go_ret
  exact ⟨rfl, hb⟩
set_option maxHeartbeats 1000000 in
theorem check_3n (la lo zo : Int) (alt : P2) (h0 : frB la (-88000000) 88000000 = true) (h1 : frB lo (-180000000) 180000000 = true) (h2 : frB zo (-50400) 50400 = false) : RetT 38 #[cv la lo zo alt] (.int .i64 7) := by
  intro w
  have C0 := from_T la (-88000000) 88000000
  rw [h0] at C0
  have C0 := Lib.hid C0
  have C1 := from_T lo (-180000000) 180000000
  rw [h1] at C1
  have C1 := Lib.hid C1
  have C2 := from_T zo (-50400) 50400
  rw [h2] at C2
  have C2 := Lib.hid C2
  clear h0 h1 h2
  go_enter Tryd.func38, Tryd.ntmps38
  go_wp2_with fail
  refine fresh_call (fun W => City (w.heap.size) (la) (lo) (zo) (alt.1) (alt.2) W ∧ Below w.heap.size w W) ⟨(City.fresh _ _ _ _ _ _ _), ((Below.refl _ _).alloc (Nat.le_refl _) _)⟩ ?_
  rintro W1 ⟨ct, hb⟩
  refine (C0.out _).mono ?_
  rintro e v2 ⟨rfl, hq⟩
  have ct := ct.below hq
  have hb := hb.trans (hq.mono hb.size)
  clear hq
  have Hct := Lib.hid ct
  obtain ⟨ct_0, ct_1, ct_2, ct_3, ct_4, ct_5⟩ := ct
  have ct_n : (w.heap.size) ≠ v2.heap.size := Nat.ne_of_lt ct_5
  go_wp2_with fail
  clear ct_n ct_0 ct_1 ct_2 ct_3 ct_4 ct_5
  have ct := Hct.out
  clear Hct
  refine (C1.out _).mono ?_
  rintro e v3 ⟨rfl, hq⟩
  have ct := ct.below hq
  have hb := hb.trans (hq.mono hb.size)
  clear hq
  have Hct := Lib.hid ct
  obtain ⟨ct_0, ct_1, ct_2, ct_3, ct_4, ct_5⟩ := ct
  have ct_n : (w.heap.size) ≠ v3.heap.size := Nat.ne_of_lt ct_5
  go_wp2_with fail
  clear ct_n ct_0 ct_1 ct_2 ct_3 ct_4 ct_5
  have ct := Hct.out
  clear Hct
  refine (C2.out _).mono ?_
  rintro e v4 ⟨rfl, hq⟩
  have ct := ct.below hq
  have hb := hb.trans (hq.mono hb.size)
  clear hq
  go_wp2_with fail
  go_ret
  exact ⟨rfl, hb⟩
set_option maxHeartbeats 1000000 in
theorem check_4n (la lo zo : Int) (alt : P2) (h0 : frB la (-88000000) 88000000 = true) (h1 : frB lo (-180000000) 180000000 = true) (h2 : frB zo (-50400) 50400 = true) (h3 : inB alt.1 alt.2 (-18000000) 0 = false) : RetT 38 #[cv la lo zo alt] (.int .i64 7) := by
  intro w
  have C0 := from_T la (-88000000) 88000000
  rw [h0] at C0
  have C0 := Lib.hid C0
  have C1 := from_T lo (-180000000) 180000000
  rw [h1] at C1
  have C1 := Lib.hid C1
  have C2 := from_T zo (-50400) 50400
  rw [h2] at C2
  have C2 := Lib.hid C2
  have C3 := within_T alt (-18000000) 0
  rw [h3] at C3
  have C3 := Lib.hid C3
  clear h0 h1 h2 h3
  go_enter Tryd.func38, Tryd.ntmps38
  go_wp2_with fail
  refine fresh_call (fun W => City (w.heap.size) (la) (lo) (zo) (alt.1) (alt.2) W ∧ Below w.heap.size w W) ⟨(City.fresh _ _ _ _ _ _ _), ((Below.refl _ _).alloc (Nat.le_refl _) _)⟩ ?_
  rintro W1 ⟨ct, hb⟩
  refine (C0.out _).mono ?_
  rintro e v2 ⟨rfl, hq⟩
  have ct := ct.below hq
  have hb := hb.trans (hq.mono hb.size)
  clear hq
  have Hct := Lib.hid ct
  obtain ⟨ct_0, ct_1, ct_2, ct_3, ct_4, ct_5⟩ := ct
  have ct_n : (w.heap.size) ≠ v2.heap.size := Nat.ne_of_lt ct_5
  go_wp2_with fail
  clear ct_n ct_0 ct_1 ct_2 ct_3 ct_4 ct_5
  have ct := Hct.out
  clear Hct
  refine (C1.out _).mono ?_
  rintro e v3 ⟨rfl, hq⟩
  have ct := ct.below hq
  have hb := hb.trans (hq.mono hb.size)
  clear hq
  have Hct := Lib.hid ct
  obtain ⟨ct_0, ct_1, ct_2, ct_3, ct_4, ct_5⟩ := ct
  have ct_n : (w.heap.size) ≠ v3.heap.size := Nat.ne_of_lt ct_5
  go_wp2_with fail
  clear ct_n ct_0 ct_1 ct_2 ct_3 ct_4 ct_5
  have ct := Hct.out
  clear Hct
  refine (C2.out _).mono ?_
  rintro e v4 ⟨rfl, hq⟩
  have ct := ct.below hq
  have hb := hb.trans (hq.mono hb.size)
  clear hq
  have Hct := Lib.hid ct
  obtain ⟨ct_0, ct_1, ct_2, ct_3, ct_4, ct_5⟩ := ct
  have ct_n : (w.heap.size) ≠ v4.heap.size := Nat.ne_of_lt ct_5
  go_wp2_with fail
  clear ct_n ct_0 ct_1 ct_2 ct_3 ct_4 ct_5
  have ct := Hct.out
  clear Hct
  refine (C3.out _).mono ?_
  rintro e v5 ⟨rfl, hq⟩
  have ct := ct.below hq
  have hb := hb.trans (hq.mono hb.size)
  clear hq
  go_wp2_with fail
  go_ret
  exact ⟨rfl, hb⟩
set_option maxHeartbeats 1000000 in
theorem check_4y (la lo zo : Int) (alt : P2) (h0 : frB la (-88000000) 88000000 = true) (h1 : frB lo (-180000000) 180000000 = true) (h2 : frB zo (-50400) 50400 = true) (h3 : inB alt.1 alt.2 (-18000000) 0 = true) : RetT 38 #[cv la lo zo alt] (.int .i64 0) := by
  intro w
  have C0 := from_T la (-88000000) 88000000
  rw [h0] at C0
  have C0 := Lib.hid C0
  have C1 := from_T lo (-180000000) 180000000
  rw [h1] at C1
  have C1 := Lib.hid C1
  have C2 := from_T zo (-50400) 50400
  rw [h2] at C2
  have C2 := Lib.hid C2
  have C3 := within_T alt (-18000000) 0
  rw [h3] at C3
  have C3 := Lib.hid C3
  clear h0 h1 h2 h3
  go_enter Tryd.func38, Tryd.ntmps38
  go_wp2_with fail
  refine fresh_call (fun W => City (w.heap.size) (la) (lo) (zo) (alt.1) (alt.2) W ∧ Below w.heap.size w W) ⟨(City.fresh _ _ _ _ _ _ _), ((Below.refl _ _).alloc (Nat.le_refl _) _)⟩ ?_
  rintro W1 ⟨ct, hb⟩
  refine (C0.out _).mono ?_
  rintro e v2 ⟨rfl, hq⟩
  have ct := ct.below hq
  have hb := hb.trans (hq.mono hb.size)
  clear hq
  have Hct := Lib.hid ct
  obtain ⟨ct_0, ct_1, ct_2, ct_3, ct_4, ct_5⟩ := ct
  have ct_n : (w.heap.size) ≠ v2.heap.size := Nat.ne_of_lt ct_5
  go_wp2_with fail
  clear ct_n ct_0 ct_1 ct_2 ct_3 ct_4 ct_5
  have ct := Hct.out
  clear Hct
  refine (C1.out _).mono ?_
  rintro e v3 ⟨rfl, hq⟩
  have ct := ct.below hq
  have hb := hb.trans (hq.mono hb.size)
  clear hq
  have Hct := Lib.hid ct
  obtain ⟨ct_0, ct_1, ct_2, ct_3, ct_4, ct_5⟩ := ct
  have ct_n : (w.heap.size) ≠ v3.heap.size := Nat.ne_of_lt ct_5
  go_wp2_with fail
  clear ct_n ct_0 ct_1 ct_2 ct_3 ct_4 ct_5
  have ct := Hct.out
  clear Hct
  refine (C2.out _).mono ?_
  rintro e v4 ⟨rfl, hq⟩
  have ct := ct.below hq
  have hb := hb.trans (hq.mono hb.size)
  clear hq
  have Hct := Lib.hid ct
  obtain ⟨ct_0, ct_1, ct_2, ct_3, ct_4, ct_5⟩ := ct
  have ct_n : (w.heap.size) ≠ v4.heap.size := Nat.ne_of_lt ct_5
  go_wp2_with fail
  clear ct_n ct_0 ct_1 ct_2 ct_3 ct_4 ct_5
  have ct := Hct.out
  clear Hct
  refine (C3.out _).mono ?_
  rintro e v5 ⟨rfl, hq⟩
  have ct := ct.below hq
  have hb := hb.trans (hq.mono hb.size)
  clear hq
  go_wp2_with fail
  go_ret
  exact ⟨rfl, hb⟩
theorem check_T (la lo zo : Int) (alt : P2) : RetT 38 #[cv la lo zo alt] (.int .i64 (chE la lo zo alt)) := by
  unfold chE okB
  cases h0 : frB la (-88000000) 88000000
  · simpa using check_1n la lo zo alt h0
  · cases h1 : frB lo (-180000000) 180000000
    · simpa using check_2n la lo zo alt h0 h1
    · cases h2 : frB zo (-50400) 50400
      · simpa using check_3n la lo zo alt h0 h1 h2
      · cases h3 : inB alt.1 alt.2 (-18000000) 0
        · simpa using check_4n la lo zo alt h0 h1 h2 h3
        · simpa using check_4y la lo zo alt h0 h1 h2 h3
theorem ok_bd {la lo zo : Int} {alt : P2} (h : okB la lo zo alt = true) : (-88000000 ≤ la ∧ la ≤ 88000000) ∧ (-180000000 ≤ lo ∧ lo ≤ 180000000) ∧ (-50400 ≤ zo ∧ zo ≤ 50400) ∧ -18000000 ≤ alt.1 ∧ alt.1 ≤ alt.2 ∧ alt.2 ≤ 0 := by
  unfold okB at h
  simp only [Bool.and_eq_true] at h
  exact ⟨frB_yes h.1.1.1, frB_yes h.1.1.2, frB_yes h.1.2, inB_bd h.2⟩

/-- the error of a city and a day -/
def erE (la lo zo : Int) (alt : P2) (day last : Int) : Int := if okB la lo zo alt && frB day 0 last then 0 else 7
set_option maxHeartbeats 1000000 in
theorem err_1n (la lo zo : Int) (alt : P2) (day last : Int) (h0 : okB la lo zo alt = false) : RetT 70 #[cv la lo zo alt, .int .i64 day, .int .i64 last] (.int .i64 7) := by
  intro w
  have C0 := check_T la lo zo alt
  unfold chE at C0
  rw [h0] at C0
  simp only [Bool.false_eq_true, if_false, if_true] at C0
  have C0 := Lib.hid C0
  clear h0
  go_enter Tryd.func70, Tryd.ntmps70
  go_wp2_with fail
  refine fresh_call (fun W => City (w.heap.size) (la) (lo) (zo) (alt.1) (alt.2) W ∧ Below w.heap.size w W) ⟨(City.fresh _ _ _ _ _ _ _), ((Below.refl _ _).alloc (Nat.le_refl _) _)⟩ ?_
  rintro W1 ⟨ct, hb⟩
  refine (C0.out _).mono ?_
  rintro e v2 ⟨rfl, hq⟩
  have ct := ct.below hq
  have hb := hb.trans (hq.mono hb.size)
  clear hq
  go_wp2_with fail
  go_ret
  exact ⟨rfl, hb⟩
set_option maxHeartbeats 1000000 in
theorem err_2n (la lo zo : Int) (alt : P2) (day last : Int) (h0 : okB la lo zo alt = true) (h1 : frB day 0 last = false) : RetT 70 #[cv la lo zo alt, .int .i64 day, .int .i64 last] (.int .i64 7) := by
  intro w
  have C0 := check_T la lo zo alt
  unfold chE at C0
  rw [h0] at C0
  simp only [Bool.false_eq_true, if_false, if_true] at C0
  have C0 := Lib.hid C0
  have C1 := from_T day 0 last
  rw [h1] at C1
  have C1 := Lib.hid C1
  clear h0 h1
  go_enter Tryd.func70, Tryd.ntmps70
  go_wp2_with fail
  refine fresh_call (fun W => City (w.heap.size) (la) (lo) (zo) (alt.1) (alt.2) W ∧ Below w.heap.size w W) ⟨(City.fresh _ _ _ _ _ _ _), ((Below.refl _ _).alloc (Nat.le_refl _) _)⟩ ?_
  rintro W1 ⟨ct, hb⟩
  refine (C0.out _).mono ?_
  rintro e v2 ⟨rfl, hq⟩
  have ct := ct.below hq
  have hb := hb.trans (hq.mono hb.size)
  clear hq
  go_wp2_with fail
  refine (C1.out _).mono ?_
  rintro e v3 ⟨rfl, hq⟩
  have ct := ct.below hq
  have hb := hb.trans (hq.mono hb.size)
  clear hq
  go_wp2_with fail
  go_ret
  exact ⟨rfl, hb⟩
set_option maxHeartbeats 1000000 in
theorem err_2y (la lo zo : Int) (alt : P2) (day last : Int) (h0 : okB la lo zo alt = true) (h1 : frB day 0 last = true) : RetT 70 #[cv la lo zo alt, .int .i64 day, .int .i64 last] (.int .i64 0) := by
  intro w
  have C0 := check_T la lo zo alt
  unfold chE at C0
  rw [h0] at C0
  simp only [Bool.false_eq_true, if_false, if_true] at C0
  have C0 := Lib.hid C0
  have C1 := from_T day 0 last
  rw [h1] at C1
  have C1 := Lib.hid C1
  clear h0 h1
  go_enter Tryd.func70, Tryd.ntmps70
  go_wp2_with fail
  refine fresh_call (fun W => City (w.heap.size) (la) (lo) (zo) (alt.1) (alt.2) W ∧ Below w.heap.size w W) ⟨(City.fresh _ _ _ _ _ _ _), ((Below.refl _ _).alloc (Nat.le_refl _) _)⟩ ?_
  rintro W1 ⟨ct, hb⟩
  refine (C0.out _).mono ?_
  rintro e v2 ⟨rfl, hq⟩
  have ct := ct.below hq
  have hb := hb.trans (hq.mono hb.size)
  clear hq
  go_wp2_with fail
  refine (C1.out _).mono ?_
  rintro e v3 ⟨rfl, hq⟩
  have ct := ct.below hq
  have hb := hb.trans (hq.mono hb.size)
  clear hq
  go_wp2_with fail
  go_ret
  exact ⟨rfl, hb⟩
theorem err_T (la lo zo : Int) (alt : P2) (day last : Int) : RetT 70 #[cv la lo zo alt, .int .i64 day, .int .i64 last] (.int .i64 (erE la lo zo alt day last)) := by
  unfold erE
  cases h0 : okB la lo zo alt
  · simpa using err_1n la lo zo alt day last h0
  · cases h1 : frB day 0 last
    · simpa using err_2n la lo zo alt day last h0 h1
    · simpa using err_2y la lo zo alt day last h0 h1

/-- what Set and Rise return -/
def psK (la lo zo : Int) (alt : P2) (day : Int) (rise : Bool) : Int := if okB la lo zo alt && frB day 0 40000 then (paM alt la lo day rise).1 else 0
def psP (la lo zo : Int) (alt : P2) (day : Int) (rise : Bool) : P2 := if okB la lo zo alt && frB day 0 40000 then (if (paM alt la lo day rise).1 = 0 then loP zo day (paM alt la lo day rise).2 else (0, 0)) else (0, 0)
abbrev trV (k : Int) (p : P2) (e : Int) : Value := .tuple #[.int .i64 k, .agg #[.int .i64 p.1, .int .i64 p.2], .int .i64 e]

set_option maxHeartbeats 2000000 in
theorem passes_err (la lo zo : Int) (alt : P2) (day : Int) (rise : Bool) (E1 : Hid (RetT 70 #[cv la lo zo alt, .int .i64 day, .int .i64 40000] (.int .i64 7))) : RetT 66 #[cv la lo zo alt, .int .i64 day, hv (reP rise) rise] (trV 0 (0, 0) 7) := by
  intro w
  go_enter Tryd.func66, Tryd.ntmps66
  go_wp2_with fail
  refine fresh_call (fun W => City (w.heap.size) (la) (lo) (zo) (alt.1) (alt.2) W ∧ Half (w.heap.size + 1) ((reP rise).1) ((reP rise).2) (rise) W ∧ Box (w.heap.size + 1 + 1) (0) (0) W ∧ Below w.heap.size w W) ⟨(((City.fresh _ _ _ _ _ _ _)).alloc _).alloc _, ((Half.freshAt (by simp) _ _ _ _)).alloc _, (Box.freshAt (by simp) _ _ _), ((((Below.refl _ _).alloc (Nat.le_refl _) _).alloc (by simp) _).alloc (by simp; omega) _)⟩ ?_
  rintro W1 ⟨ct, hf, rt, hb⟩
  refine (E1.out _).mono ?_
  rintro e v2 ⟨rfl, hq⟩
  have ct := ct.below hq
  have hf := hf.below hq
  have rt := rt.below hq
  have hb := hb.trans (hq.mono hb.size)
  clear hq
  have Hrt := Lib.hid rt
  obtain ⟨rt_0, rt_1, rt_2, rt_3, rt_4⟩ := rt
  have rt_n : (w.heap.size + 1 + 1) ≠ v2.heap.size := Nat.ne_of_lt rt_4
  go_wp2_with fail
  exact bodyPost_ret (v := trV 0 (0, 0) 7) (by simp [results, Tryd.results66, go_sem, rt_0, rt_1, rt_2, rt_3, rt_4]) rfl ⟨rfl, (hb.setCell (by first | (simp; done) | (simp; omega)) _).setCell (by first | (simp; done) | (simp; omega)) _⟩

set_option maxHeartbeats 2000000 in
theorem passes_not (la lo zo : Int) (alt : P2) (day kz : Int) (pz : P2) (rise : Bool) (E1 : Hid (RetT 70 #[cv la lo zo alt, .int .i64 day, .int .i64 40000] (.int .i64 0)))
    (P1 : Hid (∀ cb, RetC cb la lo zo alt.1 alt.2 81 #[hv (reP rise) rise, .pointer (some ⟨cb, 0, none⟩), .int .i64 day] (.tuple #[.int .i64 kz, en pz]))) (hz : (kz != 0) = true) (hz' : (kz == 0) = false) : RetT 66 #[cv la lo zo alt, .int .i64 day, hv (reP rise) rise] (trV kz (0, 0) 0) := by
  intro w
  go_enter Tryd.func66, Tryd.ntmps66
  go_wp2_with fail
  refine fresh_call (fun W => City (w.heap.size) (la) (lo) (zo) (alt.1) (alt.2) W ∧ Half (w.heap.size + 1) ((reP rise).1) ((reP rise).2) (rise) W ∧ Box (w.heap.size + 1 + 1) (0) (0) W ∧ Below w.heap.size w W) ⟨(((City.fresh _ _ _ _ _ _ _)).alloc _).alloc _, ((Half.freshAt (by simp) _ _ _ _)).alloc _, (Box.freshAt (by simp) _ _ _), ((((Below.refl _ _).alloc (Nat.le_refl _) _).alloc (by simp) _).alloc (by simp; omega) _)⟩ ?_
  rintro W1 ⟨ct, hf, rt, hb⟩
  refine (E1.out _).mono ?_
  rintro e v2 ⟨rfl, hq⟩
  have ct := ct.below hq
  have hf := hf.below hq
  have rt := rt.below hq
  have hb := hb.trans (hq.mono hb.size)
  clear hq
  have Hhf := Lib.hid hf
  obtain ⟨hf_0, hf_1, hf_2, hf_3⟩ := hf
  have hf_n : (w.heap.size + 1) ≠ v2.heap.size := Nat.ne_of_lt hf_3
  go_wp2_with fail
  clear hf_n hf_0 hf_1 hf_2 hf_3
  have hf := Hhf.out
  clear Hhf
  refine (P1.out _ _ ct).mono ?_
  rintro e v3 ⟨rfl, hq⟩
  have ct := ct.below hq
  have hf := hf.below hq
  have rt := rt.below hq
  have hb := hb.trans (hq.mono hb.size)
  clear hq
  have Hrt := Lib.hid rt
  obtain ⟨rt_0, rt_1, rt_2, rt_3, rt_4⟩ := rt
  have rt_n : (w.heap.size + 1 + 1) ≠ v3.heap.size := Nat.ne_of_lt rt_4
  go_wp2_with fail
  exact bodyPost_ret (v := trV kz (0, 0) 0) (by simp [results, Tryd.results66, go_sem, rt_0, rt_1, rt_2, rt_3, rt_4]) rfl ⟨rfl, by first | exact ((hb.alloc hb.size _).setCell (by first | (simp; done) | (simp; omega)) _).setCell (by first | (simp; done) | (simp; omega)) _ | exact (((hb.setCell (by first | (simp; done) | (simp; omega)) _).setCell (by first | (simp; done) | (simp; omega)) _).alloc (by simp; exact hb.size) _)⟩

set_option maxHeartbeats 2000000 in
theorem passes_yes (la lo zo : Int) (alt : P2) (day : Int) (pz : P2) (rise : Bool) (E1 : Hid (RetT 70 #[cv la lo zo alt, .int .i64 day, .int .i64 40000] (.int .i64 0)))
    (P1 : Hid (∀ cb, RetC cb la lo zo alt.1 alt.2 81 #[hv (reP rise) rise, .pointer (some ⟨cb, 0, none⟩), .int .i64 day] (.tuple #[.int .i64 0, en pz])))
    (L1 : Hid (∀ cb, RetC cb la lo zo alt.1 alt.2 82 #[.pointer (some ⟨cb, 0, none⟩), .int .i64 day, en pz] (en (loP zo day pz)))) : RetT 66 #[cv la lo zo alt, .int .i64 day, hv (reP rise) rise] (trV 0 (loP zo day pz) 0) := by
  intro w
  go_enter Tryd.func66, Tryd.ntmps66
  go_wp2_with fail
  refine fresh_call (fun W => City (w.heap.size) (la) (lo) (zo) (alt.1) (alt.2) W ∧ Half (w.heap.size + 1) ((reP rise).1) ((reP rise).2) (rise) W ∧ Box (w.heap.size + 1 + 1) (0) (0) W ∧ Below w.heap.size w W) ⟨(((City.fresh _ _ _ _ _ _ _)).alloc _).alloc _, ((Half.freshAt (by simp) _ _ _ _)).alloc _, (Box.freshAt (by simp) _ _ _), ((((Below.refl _ _).alloc (Nat.le_refl _) _).alloc (by simp) _).alloc (by simp; omega) _)⟩ ?_
  rintro W1 ⟨ct, hf, rt, hb⟩
  refine (E1.out _).mono ?_
  rintro e v2 ⟨rfl, hq⟩
  have ct := ct.below hq
  have hf := hf.below hq
  have rt := rt.below hq
  have hb := hb.trans (hq.mono hb.size)
  clear hq
  have Hhf := Lib.hid hf
  obtain ⟨hf_0, hf_1, hf_2, hf_3⟩ := hf
  have hf_n : (w.heap.size + 1) ≠ v2.heap.size := Nat.ne_of_lt hf_3
  go_wp2_with fail
  clear hf_n hf_0 hf_1 hf_2 hf_3
  have hf := Hhf.out
  clear Hhf
  refine (P1.out _ _ ct).mono ?_
  rintro e v3 ⟨rfl, hq⟩
  have ct := ct.below hq
  have hf := hf.below hq
  have rt := rt.below hq
  have hb := hb.trans (hq.mono hb.size)
  clear hq
  go_wp2_with fail
  have at2_lb : w.heap.size + 1 + 1 < v3.heap.size := rt.lt
  refine fresh_call (fun W => City (w.heap.size) (la) (lo) (zo) (alt.1) (alt.2) W ∧ Half (w.heap.size + 1) ((reP rise).1) ((reP rise).2) (rise) W ∧ Box (w.heap.size + 1 + 1) (0) (0) W ∧ Box (v3.heap.size) ((pz).1) ((pz).2) W ∧ Below w.heap.size w W) ⟨ct.alloc _, hf.alloc _, rt.alloc _, Box.fresh _ _ _ _, hb.alloc hb.size _⟩ ?_
  clear ct hf rt hb
  rintro W4 ⟨ct, hf, rt, at2, hb⟩
  refine (L1.out _ _ ct).mono ?_
  rintro e v5 ⟨rfl, hq⟩
  have ct := ct.below hq
  have hf := hf.below hq
  have rt := rt.below hq
  have at2 := at2.below hq
  have hb := hb.trans (hq.mono hb.size)
  clear hq
  have Hrt := Lib.hid rt
  obtain ⟨rt_0, rt_1, rt_2, rt_3, rt_4⟩ := rt
  have rt_n : (w.heap.size + 1 + 1) ≠ v5.heap.size := Nat.ne_of_lt rt_4
  go_wp2_with fail
  exact bodyPost_ret (v := trV 0 (loP zo day pz) 0) (by simp [results, Tryd.results66, go_sem, rt_0, rt_1, rt_2, rt_3, rt_4]) rfl ⟨rfl, (hb.setCell (by first | (simp; done) | (simp; omega)) _).setCell (by first | (simp; done) | (simp; omega)) _⟩

/-- the window that is left -/
theorem ro_bd {alt : P2} {la lo day : Int} {rise : Bool} (d0 : 0 ≤ day) (d1 : day ≤ 100000) (l0 : -180000000 ≤ lo) (l1 : lo ≤ 180000000) : ∀ (n : Nat) (x : P2), Bd 10000000000 x → Bd 10000000000 (roM alt la lo day rise n x).2
  | 0, x, h => h
  | n + 1, x, h => by
    by_cases hk : kiM (raP alt la x) = 0
    · rw [show roM alt la lo day rise (n + 1) x = roM alt la lo day rise n (nxP day lo rise (raP alt la x) x) from if_pos hk]
      exact ro_bd d0 d1 l0 l1 n _ (nx_bd d0 d1 l0 l1 hk)
    · rw [show roM alt la lo day rise (n + 1) x = (kiM (raP alt la x), wiP day lo rise) from if_neg hk]
      exact wi_bd d0 d1 l0 l1
theorem passes_T (la lo zo : Int) (alt : P2) (day : Int) (rise : Bool) : RetT 66 #[cv la lo zo alt, .int .i64 day, hv (reP rise) rise] (trV (psK la lo zo alt day rise) (psP la lo zo alt day rise) (erE la lo zo alt day 40000)) := by
  have E1 := err_T la lo zo alt day 40000
  unfold psK psP
  unfold erE at *
  cases h0 : (okB la lo zo alt && frB day 0 40000)
  · rw [h0] at E1
    simp only [Bool.false_eq_true, if_false] at E1 ⊢
    exact passes_err la lo zo alt day rise E1
  · rw [h0] at E1
    simp only [if_true] at E1 ⊢
    simp only [Bool.and_eq_true] at h0
    obtain ⟨b1, b2, b3, _⟩ := ok_bd h0.1
    have b4 := frB_yes h0.2
    have P1 := fun cb => passing_T cb la lo zo day alt rise b4.1 (by omega) b2.1 b2.2
    have bd := ro_bd (alt := alt) (la := la) (rise := rise) b4.1 (show day ≤ 100000 by omega) b2.1 b2.2 3 (wiP day lo rise) (wi_bd b4.1 (by omega) b2.1 b2.2)
    have L1 := fun cb => local_T cb la lo zo alt.1 alt.2 day (paM alt la lo day rise).2 b4.1 (by omega) b3.1 b3.2 (Bd.mono bd (by omega))
    generalize paM alt la lo day rise = pp at *
    obtain ⟨kz, pz⟩ := pp
    by_cases hz : kz = 0
    · subst hz
      rw [if_pos rfl]
      exact passes_yes la lo zo alt day pz rise E1 P1 L1
    · rw [if_neg hz]
      exact passes_not la lo zo alt day kz pz rise E1 P1 (by simp [hz]) (by simp [hz])
end Go.Proofs.YtjcgojbfjefbcaaDoor
