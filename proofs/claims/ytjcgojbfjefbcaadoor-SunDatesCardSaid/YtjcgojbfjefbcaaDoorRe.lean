/- Date and Easter of the reference. -/
import Derived.Test.YtjcgojbfjefbcaaDoorRd
namespace Go.Proofs.YtjcgojbfjefbcaaDoor
set_option linter.unusedSimpArgs false
set_option linter.unusedVariables false
open Go.RowKit SineNear

set_option maxHeartbeats 2000000 in
theorem rdate_no (N : Int) (hn : frB N 0 40000 = false) : RetT 22 #[.int .i64 N] (.tuple #[.int .i64 0, .int .i64 0, .int .i64 0, .int .i64 7]) := by
  intro w
  have C1 := rfrom_T N 0 40000
  rw [hn] at C1
  have C1 := Lib.hid C1
  have hb : Below w.heap.size w w := Below.refl _ _
  clear hn
  go_enter Tryd.func22, Tryd.ntmps22
  go_wp2_with fail
  refine (C1.out _).mono ?_
  rintro e v1 ⟨rfl, hq⟩
  have hb := hb.trans (hq.mono hb.size)
  clear hq
  go_wp2_with fail
  exact bodyPost_ret (v := .tuple #[.int .i64 0, .int .i64 0, .int .i64 0, .int .i64 7]) (by simp [results, Tryd.results22, go_sem]) rfl ⟨rfl, hb⟩

/-- a month earlier -/
theorem more_left {Y M D : Int} (hd : IsDate Y M D) {y m : Int} (m0 : 1 ≤ m) (m1 : m ≤ 12) (h : y < Y ∨ (y = Y ∧ m < M)) : ln y m ≤ num Y M D - ny y - cu y m := by
  obtain ⟨M0, M1, d0, d1⟩ := hd
  have cM := cu_bd Y M
  rcases h with h | ⟨rfl, h⟩
  · have c := cu_mono y m0 (show m < 13 by omega) (by omega)
    rw [cu_year] at c
    have s := ny_step y
    have mo := ny_mono (show y + 1 ≤ Y by omega)
    unfold num; omega
  · have c := cu_mono y m0 h (by omega)
    unfold num; omega

set_option maxRecDepth 100000 in
set_option maxHeartbeats 8000000 in
theorem rdate_yes (Y M D : Int) (y0 : 2000 ≤ Y) (y1 : Y ≤ 2109) (hd : IsDate Y M D) (hn : frB (num Y M D) 0 40000 = true) : RetT 22 #[.int .i64 (num Y M D)] (.tuple #[.int .i64 Y, .int .i64 M, .int .i64 D, .int .i64 0]) := by
  intro w
  have C1 := rfrom_T (num Y M D) 0 40000
  rw [hn] at C1
  obtain ⟨n0, n1⟩ := frB_yes hn
  have ML := Lib.hid (fun y m m0 m1 h => more_left hd (y := y) (m := m) m0 m1 h)
  obtain ⟨M0, M1, d0, d1⟩ := hd
  have lb := ln_bd Y M
  have d2 : D ≤ 31 := by omega
  have LD := Lib.hid (show ¬ ln Y M ≤ D - 1 by omega)
  have EN : Hid (num Y M D - ny Y - cu Y M = D - 1) := Lib.hid (by unfold num; omega)
  have C1 := Lib.hid C1
  have DY := Lib.hid (fun (y m : Int) (y0 : 0 ≤ y) (m0 : 1 ≤ m) (m1 : m ≤ 12) => days_T y m y0 m0 m1)
  have hb : Below w.heap.size w w := Below.refl _ _
  obtain ⟨N, hN⟩ : ∃ N, N = num Y M D := ⟨_, rfl⟩
  rw [← hN] at n0 n1 EN ML C1 ⊢
  clear hN hn lb d1
  go_enter Tryd.func22, Tryd.ntmps22
  go_wp2_with fail
  refine (C1.out _).mono ?_
  rintro e v1 ⟨rfl, hq⟩
  have hb := hb.trans (hq.mono hb.size)
  clear hq
  clear C1
  go_wp2_with fail
  go_loopw [0, 6, 7] (fun r y' m' wr => ∃ y m : Int, 2000 ≤ y ∧ y ≤ Y ∧ 1 ≤ m ∧ m ≤ 12 ∧ (y < Y ∨ m ≤ M) ∧ r = .int .i64 (N - ny y - cu y m) ∧ y' = .int .i64 y ∧ m' = .int .i64 m ∧ Below w.heap.size w wr) (fun _ y' m' _ => (Y * 12 + M - (intOf y' * 12 + intOf m')).toNat)
  case atStart => exact ⟨2000, 1, by omega, y0, by omega, by omega, Or.inr M0, by rw [cu_one, show ny 2000 = 0 by decide]; simp, rfl, rfl, hb⟩
  case round =>
    clear hb
    obtain ⟨y, m, yy0, yy1, m0, m1, hle, rfl, rfl, rfl, hb⟩ := hrel
    have CM := Lib.hid (DY.out y m (by omega) m0 m1)
    have nb := ny_bd y (by omega) (by omega)
    have cb := cu_bd y m
    have lb := ln_bd y m
    by_cases hlt : y < Y ∨ (y = Y ∧ m < M)
    · have ml := ML.out y m m0 m1 hlt
      have cs := Lib.hid (cu_succ y m m0 m1)
      have hyp : Hid (y < Y ∨ (y = Y ∧ m < M)) := Lib.hid hlt
      have HLE := Lib.hid hle
      clear hlt hle
      by_cases hm : m < 12
      · go_wp2_with fail
        refine (CM.out _).mono ?_
        rintro e v2 ⟨rfl, hq⟩
        have hb := hb.trans (hq.mono hb.size)
        clear hq
        go_wp2_with fail
        refine (CM.out _).mono ?_
        rintro e v3 ⟨rfl, hq⟩
        have hb := hb.trans (hq.mono hb.size)
        clear hq
        go_wp2_with fail
        go_roundw
        case rel =>
          have h := hyp.out
          exact ⟨y, m + 1, by omega, by omega, by omega, by omega, by omega, by rw [cs.out]; congr 1; omega, rfl, rfl, hb⟩
        case measure => have h := hyp.out; simp [intOf]; omega
      · obtain rfl : m = 12 := by omega
        have hyY : y < Y := by have := hyp.out; omega
        have c13 := Lib.hid (cu_year y)
        have ns := Lib.hid (ny_step y)
        go_wp2_with fail
        refine (CM.out _).mono ?_
        rintro e v2 ⟨rfl, hq⟩
        have hb := hb.trans (hq.mono hb.size)
        clear hq
        go_wp2_with fail
        refine (CM.out _).mono ?_
        rintro e v3 ⟨rfl, hq⟩
        have hb := hb.trans (hq.mono hb.size)
        clear hq
        go_wp2_with fail
        go_roundw
        case rel =>
          have c1 := cs.out
          have c2 := c13.out
          rw [show (12 : Int) + 1 = 13 from rfl] at c1
          exact ⟨y + 1, 1, by omega, by omega, by omega, by omega, Or.inr M0, by rw [cu_one, ns.out]; congr 1; omega, rfl, rfl, hb⟩
        case measure => have h := hyp.out; simp [intOf]; omega
    · have e : y = Y ∧ m = M := by
        have k1 : ¬ y < Y := fun h => hlt (Or.inl h)
        have k2 : y = Y := by omega
        have k3 : ¬ m < M := fun h => hlt (Or.inr ⟨k2, h⟩)
        rcases hle with h | h
        · exact absurd h k1
        · exact ⟨k2, by omega⟩
      obtain ⟨rfl, rfl⟩ := e
      have ld := LD.out
      rw [EN.out]
      clear hlt hle cb nb
      go_wp2_with fail
      refine (CM.out _).mono ?_
      rintro e v2 ⟨rfl, hq⟩
      have hb := hb.trans (hq.mono hb.size)
      clear hq
      go_wp2_with fail
      exact bodyPost_ret (v := .tuple #[.int .i64 y, .int .i64 m, .int .i64 (D - 1 + 1), .int .i64 0]) (by simp [results, Tryd.results22, go_sem]) rfl ⟨by rw [show D - 1 + 1 = D by omega], hb⟩

set_option maxRecDepth 100000 in
set_option maxHeartbeats 4000000 in
theorem reaster_T (y : Int) (y0 : 2000 ≤ y) (y1 : y ≤ 2108) : RetT 51 #[.int .i64 y] (.int .i64 (esD y)) := by
  intro w
  obtain ⟨hd, _, _, h4⟩ := easter_of y y0 y1
  obtain ⟨z, _, _⟩ := easter_sun y y0 y1
  have C1 : RetT 18 #[.int .i64 y, .int .i64 (esN y / 31), .int .i64 (esN y % 31 + 1)] (.tuple #[.int .i64 (esD y), .int .i64 0]) := by
    have r := rday_yes y _ _ y0 (by omega) hd
    have e : frB (num y (esN y / 31) (esN y % 31 + 1)) 0 40000 = true := decide_eq_true ⟨z, h4⟩
    rw [e] at r
    exact r
  have EN : esN y = (19 * (y % 19) + y / 100 - y / 100 / 4 - (y / 100 - (y / 100 + 8) / 25 + 1) / 3 + 15) % 30 + (32 + 2 * (y / 100 % 4) + 2 * (y % 100 / 4) - (19 * (y % 19) + y / 100 - y / 100 / 4 - (y / 100 - (y / 100 + 8) / 25 + 1) / 3 + 15) % 30 - y % 4) % 7 - 7 * ((y % 19 + 11 * ((19 * (y % 19) + y / 100 - y / 100 / 4 - (y / 100 - (y / 100 + 8) / 25 + 1) / 3 + 15) % 30) + 22 * ((32 + 2 * (y / 100 % 4) + 2 * (y % 100 / 4) - (19 * (y % 19) + y / 100 - y / 100 / 4 - (y / 100 - (y / 100 + 8) / 25 + 1) / 3 + 15) % 30 - y % 4) % 7)) / 451) + 114 := by
    unfold esN esM esL esH
    rw [show y % 100 % 4 = y % 4 by omega]
  obtain ⟨V, hV⟩ : ∃ V, V = esD y := ⟨_, rfl⟩
  rw [← hV] at C1 ⊢
  rw [EN] at C1
  have C1 := Lib.hid C1
  have hb : Below w.heap.size w w := Below.refl _ _
  clear hd hV EN z h4
  go_enter Tryd.func51, Tryd.ntmps51
  go_wp2_with fail
  refine (C1.out _).mono ?_
  rintro e v1 ⟨rfl, hq⟩
  have hb := hb.trans (hq.mono hb.size)
  clear hq
  go_wp2_with fail
  go_ret
  exact ⟨rfl, hb⟩
set_option maxHeartbeats 2000000 in
theorem rEaster_T (y : Int) : RetT 20 #[.int .i64 y] (.tuple #[.int .i64 (etV y), .int .i64 (etE y)]) := by
  intro w
  have hb : Below w.heap.size w w := Below.refl _ _
  have C1 := rfrom_T y 2000 2108
  cases h : frB y 2000 2108
  · rw [h] at C1
    have C1 := Lib.hid C1
    have E1 := Lib.hid (show etV y = 0 by unfold etV; rw [h]; rfl)
    have E2 := Lib.hid (show etE y = 7 by unfold etE; rw [h]; rfl)
    clear h
    go_enter Tryd.func20, Tryd.ntmps20
    go_wp2_with fail
    refine (C1.out _).mono ?_
    rintro e v1 ⟨rfl, hq⟩
    have hb := hb.trans (hq.mono hb.size)
    clear hq
    go_wp2_with fail
    go_ret2
    exact ⟨by rw [E1.out, E2.out]; rfl, hb⟩
  · obtain ⟨y0, y1⟩ := frB_yes h
    have C2 := Lib.hid (reaster_T y y0 y1)
    rw [h] at C1
    have C1 := Lib.hid C1
    have E1 := Lib.hid (show etV y = esD y by unfold etV; rw [h]; rfl)
    have E2 := Lib.hid (show etE y = 0 by unfold etE; rw [h]; rfl)
    clear h y0 y1
    go_enter Tryd.func20, Tryd.ntmps20
    go_wp2_with fail
    refine (C1.out _).mono ?_
    rintro e v1 ⟨rfl, hq⟩
    have hb := hb.trans (hq.mono hb.size)
    clear hq
    go_wp2_with fail
    refine (C2.out _).mono ?_
    rintro e v2 ⟨rfl, hq⟩
    have hb := hb.trans (hq.mono hb.size)
    clear hq
    go_wp2_with fail
    go_ret2
    exact ⟨by rw [E1.out, E2.out]; rfl, hb⟩

/-- both sides' Date -/
theorem dates_is (ea : Addr) (day : Int) : ∃ y m d e1, RetD ea 21 #[.int .i64 day] (.tuple #[.int .i64 y, .int .i64 m, .int .i64 d, .int .i64 e1]) ∧ RetT 22 #[.int .i64 day] (.tuple #[.int .i64 y, .int .i64 m, .int .i64 d, .int .i64 e1]) := by
  cases h : frB day 0 40000
  · exact ⟨0, 0, 0, 7, fun w t => date_no day h w, rdate_no day h⟩
  · obtain ⟨y, m, d, y0, y1, hd, hn⟩ := date_of day h
    have a := date_yes ea y m d y0 y1 hd (by rw [hn]; exact h)
    have b := rdate_yes y m d y0 y1 hd (by rw [hn]; exact h)
    rw [hn] at a b
    exact ⟨y, m, d, 0, a, b⟩
end Go.Proofs.YtjcgojbfjefbcaaDoor
