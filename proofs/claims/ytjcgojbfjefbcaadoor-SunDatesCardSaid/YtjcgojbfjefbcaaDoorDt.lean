/- Date and Easter of the code. -/
import Derived.Test.YtjcgojbfjefbcaaDoorDa
namespace Go.Proofs.YtjcgojbfjefbcaaDoor
set_option linter.unusedSimpArgs false
set_option linter.unusedVariables false
open Go.RowKit SineNear

/-- the next date -/
theorem next_date {y m d : Int} (h : IsDate y m d) : (d < ln y m ∧ IsDate y m (d + 1) ∧ num y m (d + 1) = num y m d + 1) ∨
    (d = ln y m ∧ m < 12 ∧ IsDate y (m + 1) 1 ∧ num y (m + 1) 1 = num y m d + 1) ∨ (d = ln y m ∧ m = 12 ∧ IsDate (y + 1) 1 1 ∧ num (y + 1) 1 1 = num y m d + 1) := by
  obtain ⟨m0, m1, d0, d1⟩ := h
  by_cases hd : d < ln y m
  · exact Or.inl ⟨hd, ⟨m0, m1, by omega, by omega⟩, by unfold num; omega⟩
  · have e : d = ln y m := by omega
    have cs := cu_succ y m m0 m1
    by_cases hm : m < 12
    · have := ln_bd y (m + 1)
      exact Or.inr (Or.inl ⟨e, hm, ⟨by omega, by omega, by omega, by omega⟩, by unfold num; omega⟩)
    · obtain rfl : m = 12 := by omega
      have := ln_bd (y + 1) 1
      have c13 := cu_year y
      have c1 := cu_one (y + 1)
      have ns := ny_step y
      rw [show (12 : Int) + 1 = 13 from rfl] at cs
      exact Or.inr (Or.inr ⟨e, rfl, ⟨by omega, by omega, by omega, by omega⟩, by unfold num; omega⟩)
theorem year_le {y m d : Int} (h : IsDate y m d) (hn : num y m d ≤ 40000) : y ≤ 2109 := by
  have := (num_year h).1
  have : ny y ≤ 40000 := by omega
  unfold ny at this
  omega
theorem is_date : ∀ n : Nat, n ≤ 40000 → ∃ y m d, 2000 ≤ y ∧ y ≤ 2109 ∧ IsDate y m d ∧ num y m d = n := by
  intro n
  induction n with
  | zero => exact fun _ => ⟨2000, 1, 1, by omega, by omega, by decide +kernel, by decide +kernel⟩
  | succ n ih =>
    intro hn
    obtain ⟨y, m, d, y0, y1, hd, e⟩ := ih (by omega)
    rcases next_date hd with ⟨_, h, e1⟩ | ⟨_, _, h, e1⟩ | ⟨_, _, h, e1⟩
    · exact ⟨y, m, d + 1, y0, y1, h, by omega⟩
    · exact ⟨y, m + 1, 1, y0, y1, h, by omega⟩
    · exact ⟨y + 1, 1, 1, by omega, year_le h (by omega), h, by omega⟩
theorem date_of (day : Int) (h : frB day 0 40000 = true) : ∃ y m d, 2000 ≤ y ∧ y ≤ 2109 ∧ IsDate y m d ∧ num y m d = day := by
  obtain ⟨h0, h1⟩ := frB_yes h
  obtain ⟨y, m, d, a, b, c, e⟩ := is_date day.toNat (by omega)
  exact ⟨y, m, d, a, b, c, by omega⟩

set_option maxRecDepth 100000 in
set_option maxHeartbeats 4000000 in
theorem dateOf_T (ea : Addr) (y m d : Int) (y0 : 2000 ≤ y) (y1 : y ≤ 2109) (hd : IsDate y m d) : RetD ea 52 #[.int .i64 (num y m d)] (.tuple #[.int .i64 y, .int .i64 m, .int .i64 d]) := by
  intro w t
  obtain ⟨n0, n1⟩ := num_year hd
  obtain ⟨m0, m1, d0, d1⟩ := hd
  have lb := ln_bd y m
  have nb := ny_bd y (by omega) (by omega)
  have nb1 := ny_bd (y + 1) (by omega) (by omega)
  have NY := Lib.hid (fun (k : Int) (k0 : 1990 ≤ k) (k1 : k ≤ 2120) => newYear_T k k0 k1)
  have LN := Lib.hid (fun (k : Int) (k0 : 1 ≤ k) (k1 : k ≤ 12) => len_T ea y k (by omega) (by omega) k0 k1)
  have hb : Below w.heap.size w w := Below.refl _ _
  obtain ⟨N, hN⟩ : ∃ N, N = num y m d := ⟨_, rfl⟩
  rw [← hN] at n0 n1 ⊢
  have eN : Hid (N = ny y + cu y m + d - 1) := Lib.hid hN
  clear hN lb
  go_enter Tryd.func52, Tryd.ntmps52
  go_wp2_with fail
  go_loopw [2] (fun i wr => ∃ k : Int, 2000 ≤ k ∧ k ≤ y ∧ i = .int .i64 k ∧ TabD ea wr ∧ Below w.heap.size w wr) (fun i _ => (y - intOf i).toNat)
  case atStart => exact ⟨2000, by omega, by omega, rfl, t, hb⟩
  case round =>
    clear t hb
    obtain ⟨k, k0, k1, rfl, t, hb⟩ := hrel
    have CK := Lib.hid (NY.out (k + 1) (by omega) (by omega))
    have kb := ny_bd (k + 1) (by omega) (by omega)
    by_cases hlt : k < y
    · have hm : ny (k + 1) ≤ N := by have := ny_mono (show k + 1 ≤ y by omega); omega
      go_wp2_with fail
      refine (CK.out _).mono ?_
      rintro e v6 ⟨rfl, hq⟩
      have t := t.below hq
      have hb := hb.trans (hq.mono hb.size)
      clear hq
      go_wp2_with fail
      go_roundw
      case rel => exact ⟨k + 1, by omega, by omega, rfl, t, hb⟩
      case measure => simp [intOf]; omega
    · obtain rfl : k = y := by omega
      have CY := Lib.hid (NY.out k (by omega) (by omega))
      have hm : ¬ ny (k + 1) ≤ N := by omega
      go_wp2_with fail
      refine (CK.out _).mono ?_
      rintro e v6 ⟨rfl, hq⟩
      have t := t.below hq
      have hb := hb.trans (hq.mono hb.size)
      clear hq
      go_wp2_with fail
      refine (CY.out _).mono ?_
      rintro e v7 ⟨rfl, hq⟩
      have t := t.below hq
      have hb := hb.trans (hq.mono hb.size)
      clear hq
      go_wp2_with fail
      have e0 := eN.out
      have w2 : IntKind.i64.wrap (cu k m + d - 1 - cu k 1) = cu k m + d - 1 - cu k 1 := IntWalk.i64_in _ (by have := cu_bd k m; have := cu_bd k 1; have := ln_bd k m; omega)
      rw [show N - ny k = cu k m + d - 1 - cu k 1 by rw [cu_one]; omega]
      clear e0 hm n0 n1 nb nb1 kb
      go_loopw [0, 3] (fun r i wr => ∃ j : Int, 1 ≤ j ∧ j ≤ m ∧ i = .int .i64 j ∧ r = .int .i64 (cu k m + d - 1 - cu k j) ∧ TabD ea wr ∧ Below w.heap.size w wr) (fun _ i _ => (m - intOf i).toNat)
      case atStart => exact ⟨1, by omega, by omega, rfl, rfl, t, hb⟩
      case round =>
        clear t hb
        obtain ⟨j, j0, j1, rfl, rfl, t, hb⟩ := hrel
        have cb := cu_bd k j
        have cm := cu_bd k m
        have lb := ln_bd k j
        have lm := ln_bd k m
        by_cases hlt : j < m
        · have CK := Lib.hid (LN.out j j0 (by omega))
          have cs := Lib.hid (cu_succ k j j0 (by omega))
          have mo := cu_mono k j0 hlt (by omega)
          have hg : ln k j ≤ cu k m + d - 1 - cu k j := by omega
          go_wp2_with fail
          refine (CK.out _ t).mono ?_
          rintro e v8 ⟨rfl, hq⟩
          have t := t.below hq
          have hb := hb.trans (hq.mono hb.size)
          clear hq
          go_wp2_with fail
          refine (CK.out _ t).mono ?_
          rintro e v9 ⟨rfl, hq⟩
          have t := t.below hq
          have hb := hb.trans (hq.mono hb.size)
          clear hq
          go_wp2_with fail
          go_roundw
          case rel => exact ⟨j + 1, by omega, by omega, rfl, by rw [cs.out]; congr 1; omega, t, hb⟩
          case measure => simp [intOf]; omega
        · obtain rfl : j = m := by omega
          have CK := Lib.hid (LN.out j j0 (by omega))
          have hg : ¬ ln k j ≤ cu k j + d - 1 - cu k j := by omega
          go_wp2_with fail
          refine (CK.out _ t).mono ?_
          rintro e v8 ⟨rfl, hq⟩
          have t := t.below hq
          have hb := hb.trans (hq.mono hb.size)
          clear hq
          go_wp2_with fail
          exact bodyPost_ret (v := .tuple #[.int .i64 k, .int .i64 j, .int .i64 (cu k j + d - 1 - cu k j + 1)]) (by simp [results, Tryd.results52, go_sem]) rfl ⟨by rw [show cu k j + d - 1 - cu k j + 1 = d by omega], hb⟩

set_option maxHeartbeats 2000000 in
theorem date_yes (ea : Addr) (y m d : Int) (y0 : 2000 ≤ y) (y1 : y ≤ 2109) (hd : IsDate y m d) (hn : frB (num y m d) 0 40000 = true) : RetD ea 21 #[.int .i64 (num y m d)] (.tuple #[.int .i64 y, .int .i64 m, .int .i64 d, .int .i64 0]) := by
  intro w t
  have C1 := isDay_T (num y m d)
  rw [hn] at C1
  have C1 := Lib.hid C1
  have C2 := Lib.hid (dateOf_T ea y m d y0 y1 hd)
  have hb : Below w.heap.size w w := Below.refl _ _
  clear hn hd y0 y1
  obtain ⟨N, hN⟩ : ∃ N, N = num y m d := ⟨_, rfl⟩
  rw [← hN] at C1 C2 ⊢
  clear hN
  go_enter Tryd.func21, Tryd.ntmps21
  go_wp2_with fail
  refine (C1.out _).mono ?_
  rintro e v1 ⟨rfl, hq⟩
  have t := t.below hq
  have hb := hb.trans (hq.mono hb.size)
  clear hq
  go_wp2_with fail
  refine (C2.out _ t).mono ?_
  rintro e v2 ⟨rfl, hq⟩
  have hb := hb.trans (hq.mono hb.size)
  clear hq
  go_wp2_with fail
  exact bodyPost_ret (v := .tuple #[.int .i64 y, .int .i64 m, .int .i64 d, .int .i64 0]) (by simp [results, Tryd.results21, go_sem]) rfl ⟨rfl, hb⟩
set_option maxHeartbeats 2000000 in
theorem date_no (N : Int) (hn : frB N 0 40000 = false) : RetT 21 #[.int .i64 N] (.tuple #[.int .i64 0, .int .i64 0, .int .i64 0, .int .i64 7]) := by
  intro w
  have C1 := isDay_T N
  rw [hn] at C1
  have C1 := Lib.hid C1
  have hb : Below w.heap.size w w := Below.refl _ _
  clear hn
  go_enter Tryd.func21, Tryd.ntmps21
  go_wp2_with fail
  refine (C1.out _).mono ?_
  rintro e v1 ⟨rfl, hq⟩
  have hb := hb.trans (hq.mono hb.size)
  clear hq
  go_wp2_with fail
  exact bodyPost_ret (v := .tuple #[.int .i64 0, .int .i64 0, .int .i64 0, .int .i64 7]) (by simp [results, Tryd.results21, go_sem]) rfl ⟨rfl, hb⟩

/-- Easter Sunday -/
def esD (y : Int) : Int := num y (esN y / 31) (esN y % 31 + 1)
theorem easter_of (y : Int) (y0 : 2000 ≤ y) (y1 : y ≤ 2108) : IsDate y (esN y / 31) (esN y % 31 + 1) ∧ 3 ≤ esN y / 31 ∧ esN y / 31 ≤ 4 ∧ esD y ≤ 40000 := by
  have h := easter_date (y - 1999).toNat (by omega)
  rw [show (1999 : Int) + ((y - 1999).toNat : Int) = y by omega] at h
  exact h
set_option maxRecDepth 100000 in
set_option maxHeartbeats 4000000 in
theorem easter_T (ea : Addr) (y : Int) (y0 : 2000 ≤ y) (y1 : y ≤ 2108) : RetD ea 50 #[.int .i64 y] (.int .i64 (esD y)) := by
  intro w t
  obtain ⟨hd, _, _, _⟩ := easter_of y y0 y1
  have C1 : RetD ea 44 #[.int .i64 y, .int .i64 (esN y / 31), .int .i64 (esN y % 31 + 1)] (.tuple #[.int .i64 (esD y), .nilIface]) := dayOf_yes ea y (esN y / 31) (esN y % 31 + 1) (by omega) (by omega) hd
  have EN : esN y = (19 * (y % 19) + y / 100 - y / 100 / 4 - (y / 100 - (y / 100 + 8) / 25 + 1) / 3 + 15) % 30 + (32 + 2 * (y / 100 % 4) + 2 * (y % 100 / 4) - (19 * (y % 19) + y / 100 - y / 100 / 4 - (y / 100 - (y / 100 + 8) / 25 + 1) / 3 + 15) % 30 - y % 4) % 7 - 7 * ((y % 19 + 11 * ((19 * (y % 19) + y / 100 - y / 100 / 4 - (y / 100 - (y / 100 + 8) / 25 + 1) / 3 + 15) % 30) + 22 * ((32 + 2 * (y / 100 % 4) + 2 * (y % 100 / 4) - (19 * (y % 19) + y / 100 - y / 100 / 4 - (y / 100 - (y / 100 + 8) / 25 + 1) / 3 + 15) % 30 - y % 4) % 7)) / 451) + 114 := by
    unfold esN esM esL esH
    rw [show y % 100 % 4 = y % 4 by omega]
  obtain ⟨V, hV⟩ : ∃ V, V = esD y := ⟨_, rfl⟩
  rw [← hV] at C1 ⊢
  rw [EN] at C1
  have C1 := Lib.hid C1
  have hb : Below w.heap.size w w := Below.refl _ _
  clear hd hV EN
  go_enter Tryd.func50, Tryd.ntmps50
  go_wp2_with fail
  refine (C1.out _ t).mono ?_
  rintro e v1 ⟨rfl, hq⟩
  have hb := hb.trans (hq.mono hb.size)
  clear hq
  go_wp2_with fail
  go_ret
  exact ⟨rfl, hb⟩
/-- what Easter returns -/
def etV (y : Int) : Int := if frB y 2000 2108 then esD y else 0
def etE (y : Int) : Int := if frB y 2000 2108 then 0 else 7
set_option maxHeartbeats 2000000 in
theorem Easter_T (ea : Addr) (y : Int) : RetD ea 19 #[.int .i64 y] (.tuple #[.int .i64 (etV y), .int .i64 (etE y)]) := by
  intro w t
  have hb : Below w.heap.size w w := Below.refl _ _
  have C1 := from_T y 2000 2108
  cases h : frB y 2000 2108
  · rw [h] at C1
    have C1 := Lib.hid C1
    have E1 := Lib.hid (show etV y = 0 by unfold etV; rw [h]; rfl)
    have E2 := Lib.hid (show etE y = 7 by unfold etE; rw [h]; rfl)
    clear h
    go_enter Tryd.func19, Tryd.ntmps19
    go_wp2_with fail
    refine (C1.out _).mono ?_
    rintro e v1 ⟨rfl, hq⟩
    have hb := hb.trans (hq.mono hb.size)
    clear hq
    go_wp2_with fail
    go_ret2
    exact ⟨by rw [E1.out, E2.out]; rfl, hb⟩
  · obtain ⟨y0, y1⟩ := frB_yes h
    have C2 := Lib.hid (easter_T ea y y0 y1)
    rw [h] at C1
    have C1 := Lib.hid C1
    have E1 := Lib.hid (show etV y = esD y by unfold etV; rw [h]; rfl)
    have E2 := Lib.hid (show etE y = 0 by unfold etE; rw [h]; rfl)
    clear h y0 y1
    go_enter Tryd.func19, Tryd.ntmps19
    go_wp2_with fail
    refine (C1.out _).mono ?_
    rintro e v1 ⟨rfl, hq⟩
    have t := t.below hq
    have hb := hb.trans (hq.mono hb.size)
    clear hq
    go_wp2_with fail
    refine (C2.out _ t).mono ?_
    rintro e v2 ⟨rfl, hq⟩
    have hb := hb.trans (hq.mono hb.size)
    clear hq
    go_wp2_with fail
    go_ret2
    exact ⟨by rw [E1.out, E2.out]; rfl, hb⟩
end Go.Proofs.YtjcgojbfjefbcaaDoor
