/- Tables: their shapes, their values, and which has a name. -/
import Derived.Test.YtgmpipciinphiaaSml
namespace Go.Proofs.Ytgmpipciinphiaa
set_option linter.unusedSimpArgs false
set_option linter.unusedVariables false
open Go.RowKit
attribute [local go_sem ↓] Go.wp_at_zero Go.wp_at_succ

/-- a value for each pair of tangents -/
def rowsB (rows : List Ints) (m : Nat) : Bool := rows.all fun r => decide (r.xs.length = m)
def shapeB (t : Tab) : Bool := decide (t.rows.length = t.us.xs.length) && rowsB t.rows t.vs.xs.length

theorem rowAt_eq {rows : List Ints} {j : Nat} (h : j < rows.length) : rowAt rows j = rows[j] := by simp [rowAt, h]
theorem rowsB_step {rows : List Ints} {m j : Nat} (h : j < rows.length) : rowsB (rows.take (j+1)) m = (rowsB (rows.take j) m && decide ((rowAt rows j).xs.length = m)) := by
  unfold rowsB
  rw [rowAt_eq h, List.take_succ_eq_append_getElem h, List.all_append]
  simp
theorem rowsB_no {rows : List Ints} {m j : Nat} (h : j < rows.length) (hn : (rowAt rows j).xs.length ≠ m) : rowsB rows m = false := by
  unfold rowsB
  rw [rowAt_eq h] at hn
  rw [List.all_eq_false]
  exact ⟨rows[j], List.getElem_mem h, by simpa using hn⟩

set_option maxHeartbeats 1000000 in
theorem hasShape_any (b o : Nat) (t : Tab) (w : World) (h : TabIn w.heap.size b o t w) :
    Calls Try.prog 70 #[.pointer (some ⟨b, o, none⟩)] w fun e w' => e = .returned (.bool (shapeB t)) ∧ ∃ n, w' = w.drewN n := by
  obtain ⟨name, ⟨ua, uc, us⟩, ⟨va, vc, vs⟩, ra, rc, rows, side, sky⟩ := t
  obtain ⟨hsz, hlt, c0, c1, c2, c3, c4, c5, hu, hv, hr⟩ := h
  dsimp only [Ints.val] at c0 c1 c2 c3 c4 c5 hu hv hr
  have mu := hu.1
  have mv := hv.1
  have mr := hr.1
  have HR := Lib.hid hr
  clear hr
  have HU := Lib.hid hu
  have HV := Lib.hid hv
  clear hu hv
  by_cases h1 : rows.length = us.length
  · have h1' := Lib.hid h1
    have key : Hid (shapeB ⟨name, ⟨ua, uc, us⟩, ⟨va, vc, vs⟩, ra, rc, rows, side, sky⟩ = rowsB rows vs.length) := by
      show (decide (rows.length = us.length) && _) = _
      rw [decide_eq_true h1]; rfl
    have hd := Lib.hid (decide_eq_true h1)
    clear h1
    have mr' := mr
    unfold maxLen at mr'
    go_enter Try.func70, Try.ntmps70
    go_wp2_with fail
    go_quiet ((go_at_call 98; exact Calls.quiet_of_same ((asMany_rows _ _ _ _ _ _ _ mr mu).mono (fun e w' hh => ⟨hh.1, hh.2.symm⟩))))
    rw [hd.out]
    go_wp2_with fail
    go_loopg [20] rows.length (fun n i' wr => ∃ i q : Nat, i ≤ rows.length ∧ n = rows.length - i ∧ i' = .int .i64 i ∧ Hid (rowsB (rows.take i) vs.length = true) ∧ wr = w.drewN q)
    case atStart => exact ⟨0, _, by omega, by omega, rfl, rfl, rfl⟩
    case round =>
      obtain ⟨i, q, hi, hn0, rfl, ha, rfl⟩ := hrel
      have HN := Lib.hid hn0
      clear hn0
      by_cases hlt : i < rows.length
      · obtain ⟨b', o', rfl, hb', hc'⟩ := HR.out.2 (by omega)
        obtain ⟨hci, hii⟩ := hc' i hlt
        have hmi := hii.1
        have HII := Lib.hid hii
        clear hc' hii
        unfold Ints.val at hci
        have hs := rowsB_step (m := vs.length) hlt
        by_cases he : (rowAt rows i).xs.length = vs.length
        · have ha' : Hid (rowsB (rows.take (i+1)) vs.length = true) := by
            show rowsB (rows.take (i+1)) vs.length = true
            rw [hs, ha, decide_eq_true he]; rfl
          have HD := Lib.hid (decide_eq_true he)
          clear he hs
          go_wp2_with fail
          refine (asMany_ints _ _ _ _ _ _ _ hmi mv).mono ?_
          rintro e w1 ⟨rfl, rfl⟩
          rw [HD.out]
          go_wp2_with fail
          go_roundg (rows.length - (i + 1))
          case measure => have := HN.out; omega
          case rel => exact ⟨i + 1, _, by omega, rfl, by go_num, ha', rfl⟩
        · have HF : Hid (shapeB ⟨name, ⟨ua, uc, us⟩, ⟨va, vc, vs⟩, some ⟨b', o', none⟩, rc, rows, side, sky⟩ = false) := key.out.trans (rowsB_no hlt he)
          have HD := Lib.hid (decide_eq_false he)
          clear he hs
          go_wp2_with fail
          refine (asMany_ints _ _ _ _ _ _ _ hmi mv).mono ?_
          rintro e w1 ⟨rfl, rfl⟩
          rw [HD.out]
          go_wp2_with fail
          go_ret
          exact ⟨by rw [HF.out]; rfl, _, rfl⟩
      · obtain rfl : i = rows.length := by omega
        have HA : Hid (shapeB ⟨name, ⟨ua, uc, us⟩, ⟨va, vc, vs⟩, ra, rc, rows, side, sky⟩ = true) := by
          have := ha
          rw [List.take_length] at this
          exact key.out.trans this
        clear ha
        go_wp2_with fail
        go_ret
        exact ⟨by rw [HA.out]; rfl, _, rfl⟩
  · have key : Hid (shapeB ⟨name, ⟨ua, uc, us⟩, ⟨va, vc, vs⟩, ra, rc, rows, side, sky⟩ = false) := by
      show (decide (rows.length = us.length) && _) = _
      rw [decide_eq_false h1]; rfl
    have hd := Lib.hid (decide_eq_false h1)
    clear h1
    go_enter Try.func70, Try.ntmps70
    go_wp2_with fail
    go_quiet ((go_at_call 98; exact Calls.quiet_of_same ((asMany_rows _ _ _ _ _ _ _ mr mu).mono (fun e w' hh => ⟨hh.1, hh.2.symm⟩))))
    rw [hd.out]
    go_wp2_with fail
    go_ret
    exact ⟨by rw [key.out]; rfl, _, rfl⟩

/-- all intensities are of their range -/
def rowsR (rows : List Ints) : Bool := rows.all fun r => allB r.xs 0 10000000
def valsB (t : Tab) : Bool := rowsR t.rows && (inB t.side 0 10000000 && inB t.sky 0 10000000)

theorem rowsR_step {rows : List Ints} {j : Nat} (h : j < rows.length) : rowsR (rows.take (j+1)) = (rowsR (rows.take j) && allB (rowAt rows j).xs 0 10000000) := by
  unfold rowsR
  rw [rowAt_eq h, List.take_succ_eq_append_getElem h, List.all_append]
  simp
theorem rowsR_no {rows : List Ints} {j : Nat} (h : j < rows.length) (hn : allB (rowAt rows j).xs 0 10000000 = false) : rowsR rows = false := by
  unfold rowsR
  rw [rowAt_eq h] at hn
  rw [List.all_eq_false]
  exact ⟨rows[j], List.getElem_mem h, by rw [hn]; decide⟩

set_option maxHeartbeats 1000000 in
theorem areIntensities_any (b o : Nat) (t : Tab) (w : World) (h : TabIn w.heap.size b o t w) :
    Calls Try.prog 71 #[.pointer (some ⟨b, o, none⟩)] w fun e w' => e = .returned (.bool (valsB t)) ∧ w = w' := by
  obtain ⟨name, ⟨ua, uc, us⟩, ⟨va, vc, vs⟩, ra, rc, rows, side, sky⟩ := t
  obtain ⟨hsz, hlt, c0, c1, c2, c3, c4, c5, hu, hv, hr⟩ := h
  dsimp only [Ints.val] at c0 c1 c2 c3 c4 c5 hu hv hr
  have mr := hr.1
  have HR := Lib.hid hr
  clear hr
  have HU := Lib.hid hu
  have HV := Lib.hid hv
  clear hu hv
  unfold maxLen at mr
  go_enter Try.func71, Try.ntmps71
  go_wp2_with fail
  go_loopg [10] rows.length (fun n i' wr => ∃ i : Nat, i ≤ rows.length ∧ n = rows.length - i ∧ i' = .int .i64 i ∧ Hid (rowsR (rows.take i) = true) ∧ w = wr)
  case atStart => exact ⟨0, by omega, by omega, rfl, rfl, rfl⟩
  case round =>
    obtain ⟨i, hi, hn0, rfl, ha, rfl⟩ := hrel
    have HN := Lib.hid hn0
    clear hn0
    by_cases hlt : i < rows.length
    · obtain ⟨b', o', rfl, hb', hc'⟩ := HR.out.2 (by omega)
      obtain ⟨hci, hii⟩ := hc' i hlt
      have HII := Lib.hid hii
      clear hc' hii
      unfold Ints.val at hci
      have hs := rowsR_step hlt
      cases he : allB (rowAt rows i).xs 0 10000000
      · have HF : Hid (valsB ⟨name, ⟨ua, uc, us⟩, ⟨va, vc, vs⟩, some ⟨b', o', none⟩, rc, rows, side, sky⟩ = false) := by
          show (rowsR rows && _) = _
          rw [rowsR_no hlt he]; rfl
        have HD := Lib.hid he
        clear he hs
        go_wp2_with fail
        refine (areFrom_any _ _ _ _ _ _ HII.out).mono ?_
        rintro e w1 ⟨rfl, rfl⟩
        rw [HD.out]
        go_wp2_with fail
        go_ret
        exact ⟨by rw [HF.out]; rfl, rfl⟩
      · have ha' : Hid (rowsR (rows.take (i+1)) = true) := by
          show rowsR (rows.take (i+1)) = true
          rw [hs, ha, he]; rfl
        have HD := Lib.hid he
        clear he hs
        go_wp2_with fail
        refine (areFrom_any _ _ _ _ _ _ HII.out).mono ?_
        rintro e w1 ⟨rfl, rfl⟩
        rw [HD.out]
        go_wp2_with fail
        go_roundg (rows.length - (i + 1))
        case measure => have := HN.out; omega
        case rel => exact ⟨i + 1, by omega, rfl, by go_num, ha', rfl⟩
    · obtain rfl : i = rows.length := by omega
      have HA : Hid (valsB ⟨name, ⟨ua, uc, us⟩, ⟨va, vc, vs⟩, ra, rc, rows, side, sky⟩ = (inB side 0 10000000 && inB sky 0 10000000)) := by
        have := ha
        rw [List.take_length] at this
        show (rowsR rows && _) = _
        rw [this]; rfl
      clear ha
      cases h1 : inB side 0 10000000
      · have HS := Lib.hid h1
        clear h1
        go_wp2_with fail
        refine (isFrom_any _ _ _ _).mono ?_
        rintro e w1 ⟨rfl, rfl⟩
        rw [HS.out]
        go_wp2_with fail
        go_ret
        exact ⟨by rw [HA.out, HS.out]; rfl, rfl⟩
      · have HS := Lib.hid h1
        clear h1
        go_wp2_with fail
        refine (isFrom_any _ _ _ _).mono ?_
        rintro e w1 ⟨rfl, rfl⟩
        rw [HS.out]
        go_wp2_with fail
        refine (isFrom_any _ _ _ _).mono ?_
        rintro e w1 ⟨rfl, rfl⟩
        go_wp2_with fail
        go_ret
        exact ⟨by rw [HA.out, HS.out]; rfl, rfl⟩

/-- two names are one -/
def nmEq (a b : ByteArray) : Bool := a.toList == b.toList
theorem nmEq_refl (a : ByteArray) : nmEq a a = true := by simp [nmEq]

theorem sameTab_any (n m : ByteArray) (v1 v2 v3 v4 v5 : Value) (p : Nat) (w : World) (hp : p < w.heap.size) (hc : w.cell? ⟨p, 0, none⟩ = some (.string m))
    (k1 : v1.oneCell' = true) (k2 : v2.oneCell' = true) (k3 : v3.oneCell' = true) (k4 : v4.oneCell' = true) (k5 : v5.oneCell' = true) :
    Calls Try.prog 97 #[.agg #[.string n, v1, v2, v3, v4, v5], .pointer (some ⟨p, 0, none⟩)] w fun e w' => e = .returned (.bool (nmEq n m)) ∧ Own w.heap.size w w' := by
  unfold nmEq
  have hne : p ≠ w.heap.size := by omega
  go_enter Try.func97, Try.ntmps97
  go_wp2_with fail
  go_ret
  exact ⟨rfl, (Own.refl _ _).alloc (Nat.le_refl _) _⟩

/-- the index of the first table with a name, or -1 -/
def firstN (names : Nat → ByteArray) (m : ByteArray) : Nat → Nat → Int
  | _, 0 => -1
  | i, n + 1 => if nmEq (names i) m then (i : Int) else firstN names m (i + 1) n
theorem firstN_at {names : Nat → ByteArray} {m : ByteArray} {i n : Nat} (h : nmEq (names i) m = true) : firstN names m i (n + 1) = i := by
  simp [firstN, h]
theorem firstN_next {names : Nat → ByteArray} {m : ByteArray} {i n : Nat} (h : nmEq (names i) m = false) : firstN names m i (n + 1) = firstN names m (i + 1) n := by
  simp [firstN, h]
def tabIdx (ts : List Tab) (m : ByteArray) : Int := firstN (fun i => (tabAt ts i).name) m 0 ts.length
def lmpIdx (ls : List Lmp) (m : ByteArray) : Int := firstN (fun i => (lmpAt ls i).name) m 0 ls.length

set_option maxHeartbeats 1000000 in
theorem idxTab_any (A : Option Addr) (c : Nat) (ts : List Tab) (m : ByteArray) (p : Nat) (w : World) (h : TabsIn w.heap.size A ts w) (hp : p < w.heap.size) (hc : w.cell? ⟨p, 0, none⟩ = some (.string m)) :
    Calls Try.prog 96 #[.slice A ts.length c, .func (.func 97) #[] #[.pointer (some ⟨p, 0, none⟩)]] w fun e w' => e = .returned (.int .i64 (tabIdx ts m)) ∧ Own w.heap.size w w' := by
  have hm := h.1
  unfold maxLen at hm
  go_enter Try.func96, Try.ntmps96
  go_wp2_with fail
  go_loopg [8] ts.length (fun n i' wr => ∃ i : Nat, i ≤ ts.length ∧ n = ts.length - i ∧ i' = .int .i64 i ∧ Hid (tabIdx ts m = firstN (fun i => (tabAt ts i).name) m i (ts.length - i)) ∧ Own w.heap.size w wr)
  case atStart => exact ⟨0, by omega, by omega, rfl, rfl, Own.refl _ _⟩
  case round =>
    obtain ⟨i, hi, hn0, rfl, ha, hb⟩ := hrel
    have HN := Lib.hid hn0
    clear hn0
    have hsz := hb.size
    by_cases hlt : i < ts.length
    · obtain ⟨b', o', rfl, hb', hc'⟩ := h.2 (by omega)
      obtain ⟨d0, d1, c0, c1, c2, c3, c4, c5, d3, d4, d5⟩ := (hc' i hlt).keep hb.below (Nat.le_refl _)
      clear hc' d0 d1 d3 d4 d5
      have hcp : wr.cell? ⟨p, 0, none⟩ = some (.string m) := by rw [hb.cell (p := ⟨p, 0, none⟩) hp]; exact hc
      unfold Ints.val at c1 c2
      have he : ts.length - i = (ts.length - (i + 1)) + 1 := by omega
      cases hq : nmEq (tabAt ts i).name m
      · have ha' : Hid (tabIdx ts m = firstN (fun i => (tabAt ts i).name) m (i + 1) (ts.length - (i + 1))) := ha.out.trans (by rw [he, firstN_next hq])
        have HQ := Lib.hid hq
        clear hq he
        go_wp2_with fail
        refine (sameTab_any _ _ _ _ _ _ _ p _ (by omega) hcp rfl rfl rfl rfl rfl).mono ?_
        rintro e w1 ⟨rfl, hb1⟩
        rw [HQ.out]
        have hb2 := hb.trans (hb1.mono hsz)
        go_wp2_with fail
        go_roundg (ts.length - (i + 1))
        case measure => have := HN.out; omega
        case rel => exact ⟨i + 1, by omega, rfl, by go_num, ha', hb2⟩
      · have HF : Hid (tabIdx ts m = (i : Int)) := ha.out.trans (by rw [he, firstN_at hq])
        have HQ := Lib.hid hq
        clear hq he
        go_wp2_with fail
        refine (sameTab_any _ _ _ _ _ _ _ p _ (by omega) hcp rfl rfl rfl rfl rfl).mono ?_
        rintro e w1 ⟨rfl, hb1⟩
        rw [HQ.out]
        have hb2 := hb.trans (hb1.mono hsz)
        go_wp2_with fail
        go_ret
        exact ⟨by rw [HF.out]; rfl, hb2⟩
    · obtain rfl : i = ts.length := by omega
      have HF : Hid (tabIdx ts m = -1) := ha.out.trans (by rw [Nat.sub_self]; rfl)
      go_wp2_with fail
      go_ret
      exact ⟨by rw [HF.out]; rfl, hb⟩

theorem tableOf_any (A : Option Addr) (c : Nat) (ts : List Tab) (m : ByteArray) (w : World) (h : TabsIn w.heap.size A ts w) :
    Calls Try.prog 67 #[.slice A ts.length c, .string m] w fun e w' => e = .returned (.int .i64 (tabIdx ts m)) ∧ Own w.heap.size w w' := by
  go_enter Try.func67, Try.ntmps67
  go_wp2_with fail
  have h1 := (h.keep ((Below.refl _ w).alloc (Nat.le_refl _) (.cells #[.string m] 9)) (Nat.le_refl _)).more (B' := (w.alloc (.cells #[.string m] 9)).heap.size) (by simp)
  refine (idxTab_any A c ts m w.heap.size _ h1 (by simp) (by simp [go_sem])).mono ?_
  rintro e w1 ⟨rfl, hb1⟩
  go_wp2_with fail
  go_ret
  exact ⟨rfl, ((Own.refl _ _).alloc (Nat.le_refl _) _).trans (hb1.mono (by simp))⟩

theorem sameLmp_any (n m : ByteArray) (v1 v2 v3 v4 v5 v6 v7 v8 v9 v10 v11 v12 v13 : Int) (p : Nat) (w : World) (hp : p < w.heap.size) (hc : w.cell? ⟨p, 0, none⟩ = some (.string m)) :
    Calls Try.prog 101 #[.agg #[.string n, .int .i64 v1, .int .i64 v2, .int .i64 v3, .int .i64 v4, .int .i64 v5, .int .i64 v6, .int .i64 v7, .int .i64 v8, .int .i64 v9, .int .i64 v10, .int .i64 v11, .int .i64 v12, .int .i64 v13], .pointer (some ⟨p, 0, none⟩)] w fun e w' => e = .returned (.bool (nmEq n m)) ∧ Own w.heap.size w w' := by
  unfold nmEq
  have hne : p ≠ w.heap.size := by omega
  go_enter Try.func101, Try.ntmps101
  go_wp2_with fail
  go_ret
  exact ⟨rfl, (Own.refl _ _).alloc (Nat.le_refl _) _⟩

set_option maxHeartbeats 1000000 in
theorem idxLmp_any (A : Option Addr) (c : Nat) (ls : List Lmp) (m : ByteArray) (p : Nat) (w : World) (h : LmpsIn w.heap.size A ls w) (hp : p < w.heap.size) (hc : w.cell? ⟨p, 0, none⟩ = some (.string m)) :
    Calls Try.prog 100 #[.slice A ls.length c, .func (.func 101) #[] #[.pointer (some ⟨p, 0, none⟩)]] w fun e w' => e = .returned (.int .i64 (lmpIdx ls m)) ∧ Own w.heap.size w w' := by
  have hm := h.1
  unfold maxLen at hm
  go_enter Try.func100, Try.ntmps100
  go_wp2_with fail
  go_loopg [8] ls.length (fun n i' wr => ∃ i : Nat, i ≤ ls.length ∧ n = ls.length - i ∧ i' = .int .i64 i ∧ Hid (lmpIdx ls m = firstN (fun i => (lmpAt ls i).name) m i (ls.length - i)) ∧ Own w.heap.size w wr)
  case atStart => exact ⟨0, by omega, by omega, rfl, rfl, Own.refl _ _⟩
  case round =>
    obtain ⟨i, hi, hn0, rfl, ha, hb⟩ := hrel
    have HN := Lib.hid hn0
    clear hn0
    have hsz := hb.size
    by_cases hlt : i < ls.length
    · obtain ⟨b', o', rfl, hb', hc'⟩ := h.2 (by omega)
      obtain ⟨d0, d1, c0, c1, c2, c3, c4, c5, c6, c7, c8, c9, c10, c11, c12, c13⟩ := (hc' i hlt).keep hb.below (Nat.le_refl _)
      clear hc' d0 d1
      have hcp : wr.cell? ⟨p, 0, none⟩ = some (.string m) := by rw [hb.cell (p := ⟨p, 0, none⟩) hp]; exact hc
      have he : ls.length - i = (ls.length - (i + 1)) + 1 := by omega
      cases hq : nmEq (lmpAt ls i).name m
      · have ha' : Hid (lmpIdx ls m = firstN (fun i => (lmpAt ls i).name) m (i + 1) (ls.length - (i + 1))) := ha.out.trans (by rw [he, firstN_next hq])
        have HQ := Lib.hid hq
        clear hq he
        go_wp2_with fail
        refine (sameLmp_any _ _ _ _ _ _ _ _ _ _ _ _ _ _ _ p _ (by omega) hcp).mono ?_
        rintro e w1 ⟨rfl, hb1⟩
        rw [HQ.out]
        have hb2 := hb.trans (hb1.mono hsz)
        go_wp2_with fail
        go_roundg (ls.length - (i + 1))
        case measure => have := HN.out; omega
        case rel => exact ⟨i + 1, by omega, rfl, by go_num, ha', hb2⟩
      · have HF : Hid (lmpIdx ls m = (i : Int)) := ha.out.trans (by rw [he, firstN_at hq])
        have HQ := Lib.hid hq
        clear hq he
        go_wp2_with fail
        refine (sameLmp_any _ _ _ _ _ _ _ _ _ _ _ _ _ _ _ p _ (by omega) hcp).mono ?_
        rintro e w1 ⟨rfl, hb1⟩
        rw [HQ.out]
        have hb2 := hb.trans (hb1.mono hsz)
        go_wp2_with fail
        go_ret
        exact ⟨by rw [HF.out]; rfl, hb2⟩
    · obtain rfl : i = ls.length := by omega
      have HF : Hid (lmpIdx ls m = -1) := ha.out.trans (by rw [Nat.sub_self]; rfl)
      go_wp2_with fail
      go_ret
      exact ⟨by rw [HF.out]; rfl, hb⟩

theorem lampOf_any (A : Option Addr) (c : Nat) (ls : List Lmp) (m : ByteArray) (w : World) (h : LmpsIn w.heap.size A ls w) :
    Calls Try.prog 72 #[.slice A ls.length c, .string m] w fun e w' => e = .returned (.int .i64 (lmpIdx ls m)) ∧ Own w.heap.size w w' := by
  go_enter Try.func72, Try.ntmps72
  go_wp2_with fail
  have h1 := (h.keep ((Below.refl _ w).alloc (Nat.le_refl _) (.cells #[.string m] 9)) (Nat.le_refl _)).more (B' := (w.alloc (.cells #[.string m] 9)).heap.size) (by simp)
  refine (idxLmp_any A c ls m w.heap.size _ h1 (by simp) (by simp [go_sem])).mono ?_
  rintro e w1 ⟨rfl, hb1⟩
  go_wp2_with fail
  go_ret
  exact ⟨rfl, ((Own.refl _ _).alloc (Nat.le_refl _) _).trans (hb1.mono (by simp))⟩
end Go.Proofs.Ytgmpipciinphiaa
