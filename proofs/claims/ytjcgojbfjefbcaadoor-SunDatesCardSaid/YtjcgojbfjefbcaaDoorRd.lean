/- Dates of the reference. -/
import Derived.Test.YtjcgojbfjefbcaaDoorKa
namespace Go.Proofs.YtjcgojbfjefbcaaDoor
set_option linter.unusedSimpArgs false
set_option linter.unusedVariables false
open Go.RowKit SineNear

set_option maxHeartbeats 1000000 in
theorem rfrom_T (n l m : Int) : RetT 47 #[.int .i64 n, .int .i64 l, .int .i64 m] (.bool (frB n l m)) := by
  intro w
  by_cases h1 : l ≤ n
  · by_cases h2 : n ≤ m
    · have e : frB n l m = true := decide_eq_true ⟨h1, h2⟩
      rw [e]
      clear e
      go_enter Tryd.func47, Tryd.ntmps47
      go_wp2
      go_ret
      exact ⟨rfl, Below.refl _ _⟩
    · have e : frB n l m = false := decide_eq_false (fun h => h2 h.2)
      rw [e]
      clear e
      go_enter Tryd.func47, Tryd.ntmps47
      go_wp2
      go_ret
      exact ⟨rfl, Below.refl _ _⟩
  · have e : frB n l m = false := decide_eq_false (fun h => h1 h.1)
    rw [e]
    clear e
    go_enter Tryd.func47, Tryd.ntmps47
    go_wp2
    go_ret
    exact ⟨rfl, Below.refl _ _⟩

set_option maxRecDepth 100000 in
set_option maxHeartbeats 4000000 in
theorem days_T (y m : Int) (y0 : 0 ≤ y) (m0 : 1 ≤ m) (m1 : m ≤ 12) : RetT 48 #[.int .i64 y, .int .i64 m] (.int .i64 (ln y m)) := by
  intro w
  have : m = 2 ∨ m = 1 ∨ m = 3 ∨ m = 4 ∨ m = 5 ∨ m = 6 ∨ m = 7 ∨ m = 8 ∨ m = 9 ∨ m = 10 ∨ m = 11 ∨ m = 12 := by omega
  clear m0 m1
  rcases this with rfl | rfl | rfl | rfl | rfl | rfl | rfl | rfl | rfl | rfl | rfl | rfl
  · have L := lp_leap y
    have e : ln y 2 = lp y + 28 := by unfold ln; rw [if_pos rfl]
    rw [e]
    clear e
    by_cases h4 : y % 4 = 0
    · by_cases h1 : y % 100 = 0
      · by_cases h5 : y % 400 = 0
        · have e : lp y = 1 := by omega
          rw [e]
          clear e L
          go_enter Tryd.func48, Tryd.ntmps48
          go_wp2
          go_ret
          exact ⟨rfl, Below.refl _ _⟩
        · have e : lp y = 0 := by omega
          rw [e]
          clear e L
          go_enter Tryd.func48, Tryd.ntmps48
          go_wp2
          go_ret
          exact ⟨rfl, Below.refl _ _⟩
      · have e : lp y = 1 := by omega
        rw [e]
        clear e L
        go_enter Tryd.func48, Tryd.ntmps48
        go_wp2
        go_ret
        exact ⟨rfl, Below.refl _ _⟩
    · have e : lp y = 0 := by omega
      rw [e]
      clear e L
      go_enter Tryd.func48, Tryd.ntmps48
      go_wp2
      go_ret
      exact ⟨rfl, Below.refl _ _⟩
  · have e : ln y 1 = 31 := by unfold ln; simp
    rw [e]
    clear e
    go_enter Tryd.func48, Tryd.ntmps48
    go_wp2
    go_ret
    exact ⟨rfl, Below.refl _ _⟩
  · have e : ln y 3 = 31 := by unfold ln; simp
    rw [e]
    clear e
    go_enter Tryd.func48, Tryd.ntmps48
    go_wp2
    go_ret
    exact ⟨rfl, Below.refl _ _⟩
  · have e : ln y 4 = 30 := by unfold ln; simp
    rw [e]
    clear e
    go_enter Tryd.func48, Tryd.ntmps48
    go_wp2
    go_ret
    exact ⟨rfl, Below.refl _ _⟩
  · have e : ln y 5 = 31 := by unfold ln; simp
    rw [e]
    clear e
    go_enter Tryd.func48, Tryd.ntmps48
    go_wp2
    go_ret
    exact ⟨rfl, Below.refl _ _⟩
  · have e : ln y 6 = 30 := by unfold ln; simp
    rw [e]
    clear e
    go_enter Tryd.func48, Tryd.ntmps48
    go_wp2
    go_ret
    exact ⟨rfl, Below.refl _ _⟩
  · have e : ln y 7 = 31 := by unfold ln; simp
    rw [e]
    clear e
    go_enter Tryd.func48, Tryd.ntmps48
    go_wp2
    go_ret
    exact ⟨rfl, Below.refl _ _⟩
  · have e : ln y 8 = 31 := by unfold ln; simp
    rw [e]
    clear e
    go_enter Tryd.func48, Tryd.ntmps48
    go_wp2
    go_ret
    exact ⟨rfl, Below.refl _ _⟩
  · have e : ln y 9 = 30 := by unfold ln; simp
    rw [e]
    clear e
    go_enter Tryd.func48, Tryd.ntmps48
    go_wp2
    go_ret
    exact ⟨rfl, Below.refl _ _⟩
  · have e : ln y 10 = 31 := by unfold ln; simp
    rw [e]
    clear e
    go_enter Tryd.func48, Tryd.ntmps48
    go_wp2
    go_ret
    exact ⟨rfl, Below.refl _ _⟩
  · have e : ln y 11 = 30 := by unfold ln; simp
    rw [e]
    clear e
    go_enter Tryd.func48, Tryd.ntmps48
    go_wp2
    go_ret
    exact ⟨rfl, Below.refl _ _⟩
  · have e : ln y 12 = 31 := by unfold ln; simp
    rw [e]
    clear e
    go_enter Tryd.func48, Tryd.ntmps48
    go_wp2
    go_ret
    exact ⟨rfl, Below.refl _ _⟩

/-- what Day returns -/
def rdB (y m d : Int) : Bool := frB y 2000 2109 && frB m 1 12 && frB d 1 (ln y m)
set_option maxRecDepth 100000 in
set_option maxHeartbeats 4000000 in
theorem rday_no (y m d : Int) (h : rdB y m d = false) : RetT 18 #[.int .i64 y, .int .i64 m, .int .i64 d] (.tuple #[.int .i64 0, .int .i64 7]) := by
  intro w
  have hb : Below w.heap.size w w := Below.refl _ _
  have C1 := rfrom_T y 2000 2109
  have C2 := rfrom_T m 1 12
  have C4 := rfrom_T d 1 (ln y m)
  unfold rdB at h
  cases h1 : frB y 2000 2109
  · rw [h1] at C1
    have C1 := Lib.hid C1
    clear h h1 C2 C4
    go_enter Tryd.func18, Tryd.ntmps18
    go_wp2_with fail
    refine (C1.out _).mono ?_
    rintro e v1 ⟨rfl, hq⟩
    have hb := hb.trans (hq.mono hb.size)
    clear hq
    go_wp2_with fail
    go_ret2
    exact ⟨rfl, hb⟩
  · rw [h1] at C1
    cases h2 : frB m 1 12
    · rw [h2] at C2
      have C1 := Lib.hid C1
      have C2 := Lib.hid C2
      clear h h1 h2 C4
      go_enter Tryd.func18, Tryd.ntmps18
      go_wp2_with fail
      refine (C1.out _).mono ?_
      rintro e v1 ⟨rfl, hq⟩
      have hb := hb.trans (hq.mono hb.size)
      clear hq
      go_wp2_with fail
      refine (C2.out _).mono ?_
      rintro e v2 ⟨rfl, hq⟩
      have hb := hb.trans (hq.mono hb.size)
      clear hq
      go_wp2_with fail
      go_ret2
      exact ⟨rfl, hb⟩
    · have h3 : frB d 1 (ln y m) = false := by simpa [h1, h2] using h
      rw [h2] at C2
      rw [h3] at C4
      obtain ⟨y0, y1⟩ := frB_yes h1
      obtain ⟨m0, m1⟩ := frB_yes h2
      have C3 := Lib.hid (days_T y m (by omega) m0 m1)
      have C1 := Lib.hid C1
      have C2 := Lib.hid C2
      have C4 := Lib.hid C4
      clear h h1 h2 h3 y0 y1 m0 m1
      go_enter Tryd.func18, Tryd.ntmps18
      go_wp2_with fail
      refine (C1.out _).mono ?_
      rintro e v1 ⟨rfl, hq⟩
      have hb := hb.trans (hq.mono hb.size)
      clear hq
      go_wp2_with fail
      refine (C2.out _).mono ?_
      rintro e v2 ⟨rfl, hq⟩
      have hb := hb.trans (hq.mono hb.size)
      clear hq
      go_wp2_with fail
      refine (C3.out _).mono ?_
      rintro e v3 ⟨rfl, hq⟩
      have hb := hb.trans (hq.mono hb.size)
      clear hq
      go_wp2_with fail
      refine (C4.out _).mono ?_
      rintro e v4 ⟨rfl, hq⟩
      have hb := hb.trans (hq.mono hb.size)
      clear hq
      go_wp2_with fail
      go_ret2
      exact ⟨rfl, hb⟩

/-- what is counted before a month of a year -/
def acc (Y M y m : Int) : Int := if y < Y then ny y + cu y m else if y = Y then ny Y + (if m ≤ M then cu Y m else cu Y M) else ny Y + cu Y M
theorem acc_start (Y M : Int) (hM : 1 ≤ M) : ∀ y, y ≤ Y + 1 → acc Y M y 1 = (if y ≤ Y then ny y else ny Y + cu Y M) := by
  intro y hy
  unfold acc
  by_cases h : y < Y
  · rw [if_pos h, if_pos (by omega), cu_one]; omega
  · by_cases e : y = Y
    · subst e; rw [if_neg h, if_pos rfl, if_pos hM, if_pos (by omega), cu_one]; omega
    · rw [if_neg h, if_neg e, if_neg (by omega)]
theorem acc_next (Y M y : Int) (hM : M ≤ 12) (hy : y ≤ Y) : acc Y M y 13 = (if y + 1 ≤ Y then ny (y + 1) else ny Y + cu Y M) := by
  unfold acc
  by_cases h : y < Y
  · rw [if_pos h, if_pos (by omega), cu_year, ny_step]; omega
  · obtain rfl : y = Y := by omega
    rw [if_neg h, if_pos rfl, if_neg (by omega), if_neg (by omega)]
theorem acc_in (Y M y m : Int) (hy : y ≤ Y) (m0 : 1 ≤ m) (m1 : m ≤ 12) (h : y < Y ∨ m < M) : acc Y M y (m + 1) = acc Y M y m + ln y m := by
  have cs := cu_succ y m m0 m1
  unfold acc
  by_cases hy2 : y < Y
  · rw [if_pos hy2, if_pos hy2, cs]; omega
  · obtain rfl : y = Y := by omega
    rw [if_neg hy2, if_neg hy2, if_pos rfl, if_pos rfl, if_pos (by omega), if_pos (by omega), cs]; omega
theorem acc_out (Y M m : Int) (h : M ≤ m) : acc Y M Y (m + 1) = acc Y M Y m := by
  unfold acc
  simp only [Int.lt_irrefl, ↓reduceIte]
  by_cases e : m ≤ M
  · obtain rfl : m = M := by omega
    rw [if_neg (by omega), if_pos (by omega)]
  · rw [if_neg (by omega), if_neg e]
theorem acc_bd (Y M y m : Int) (h0 : 1990 ≤ y) (h1 : y ≤ 2115) (h2 : 1990 ≤ Y) (h3 : Y ≤ 2115) : -4000 ≤ acc Y M y m ∧ acc Y M y m ≤ 45000 := by
  have a := ny_bd y (by omega) (by omega)
  have b := ny_bd Y (by omega) (by omega)
  have c := cu_bd y m
  have d := cu_bd Y m
  have e := cu_bd Y M
  unfold acc
  split
  · omega
  · split
    · split <;> omega
    · omega

set_option maxRecDepth 100000 in
set_option maxHeartbeats 8000000 in
theorem rday_yes (Y M D : Int) (y0 : 2000 ≤ Y) (y1 : Y ≤ 2109) (hd : IsDate Y M D) : RetT 18 #[.int .i64 Y, .int .i64 M, .int .i64 D] (.tuple #[.int .i64 (if frB (num Y M D) 0 40000 then num Y M D else 0), .int .i64 (if frB (num Y M D) 0 40000 then 0 else 7)]) := by
  intro w
  have nn : 0 ≤ num Y M D := by
    have := (num_year hd).1
    have := ny_mono y0
    rw [show ny 2000 = 0 by decide] at this
    omega
  obtain ⟨m0, m1, d0, d1⟩ := hd
  have lb := ln_bd Y M
  have C1 := rfrom_T Y 2000 2109
  rw [show frB Y 2000 2109 = true from decide_eq_true ⟨y0, y1⟩] at C1
  have C1 := Lib.hid C1
  have C2 := rfrom_T M 1 12
  rw [show frB M 1 12 = true from decide_eq_true ⟨m0, m1⟩] at C2
  have C2 := Lib.hid C2
  have C3 := Lib.hid (days_T Y M (by omega) m0 m1)
  have C4 := rfrom_T D 1 (ln Y M)
  rw [show frB D 1 (ln Y M) = true from decide_eq_true ⟨d0, d1⟩] at C4
  have C4 := Lib.hid C4
  have DY := Lib.hid (fun (y m : Int) (y0 : 0 ≤ y) (m0 : 1 ≤ m) (m1 : m ≤ 12) => days_T y m y0 m0 m1)
  have hb : Below w.heap.size w w := Below.refl _ _
  have d2 : D ≤ 31 := by omega
  have AS := Lib.hid (acc_start Y M m0)
  have AN := Lib.hid (fun y => acc_next Y M y m1)
  have AI := Lib.hid (acc_in Y M)
  have AO := Lib.hid (acc_out Y M)
  have AB := Lib.hid (acc_bd Y M)
  have EN : Hid (num Y M D = D - 1 + (ny Y + cu Y M)) := Lib.hid (by unfold num; omega)
  obtain ⟨N, hN⟩ : ∃ N, N = num Y M D := ⟨_, rfl⟩
  rw [← hN] at nn EN ⊢
  obtain ⟨V1, hV1⟩ : ∃ V : Int, V = (if frB N 0 40000 then N else 0) := ⟨_, rfl⟩
  obtain ⟨V2, hV2⟩ : ∃ V : Int, V = (if frB N 0 40000 then 0 else 7) := ⟨_, rfl⟩
  rw [← hV1, ← hV2]
  have hV1 := Lib.hid hV1
  have hV2 := Lib.hid hV2
  clear hN lb d1
  go_enter Tryd.func18, Tryd.ntmps18
  go_wp2_with fail
  refine (C1.out _).mono ?_
  rintro e v1 ⟨rfl, hq⟩
  have hb := hb.trans (hq.mono hb.size)
  clear hq
  go_wp2_with fail
  refine (C2.out _).mono ?_
  rintro e v2 ⟨rfl, hq⟩
  have hb := hb.trans (hq.mono hb.size)
  clear hq
  go_wp2_with fail
  refine (C3.out _).mono ?_
  rintro e v3 ⟨rfl, hq⟩
  have hb := hb.trans (hq.mono hb.size)
  clear hq
  go_wp2_with fail
  refine (C4.out _).mono ?_
  rintro e v4 ⟨rfl, hq⟩
  have hb := hb.trans (hq.mono hb.size)
  clear hq
  clear C1 C2 C3 C4
  go_wp2_with fail
  go_loopw [8, 9] (fun n i wr => ∃ y : Int, 2000 ≤ y ∧ y ≤ Y + 1 ∧ i = .int .i64 y ∧ n = .int .i64 (D - 1 + acc Y M y 1) ∧ Below w.heap.size w wr) (fun _ i _ => (Y + 1 - intOf i).toNat)
  case atStart => exact ⟨2000, by omega, by omega, rfl, by rw [AS.out 2000 (by omega), if_pos y0, show ny 2000 = 0 by decide]; simp, hb⟩
  case round =>
    clear hb
    obtain ⟨y, yy0, yy1, rfl, rfl, hb⟩ := hrel
    by_cases hy : y ≤ Y
    · go_wp2_with fail
      go_loopw [8, 10] (fun n i wr => ∃ m : Int, 1 ≤ m ∧ m ≤ 13 ∧ i = .int .i64 m ∧ n = .int .i64 (D - 1 + acc Y M y m) ∧ Below w.heap.size w wr) (fun _ i _ => (13 - intOf i).toNat)
      case atStart => exact ⟨1, by omega, by omega, rfl, rfl, hb⟩
      case round =>
        clear hb
        obtain ⟨m, mm0, mm1, rfl, rfl, hb⟩ := hrel
        by_cases hm : m ≤ 12
        · have ab := AB.out y m (by omega) (by omega) (by omega) (by omega)
          have lb := ln_bd y m
          have CM := Lib.hid (DY.out y m (by omega) mm0 hm)
          by_cases hy2 : y < Y
          · have ai := Lib.hid (AI.out y m hy mm0 hm (Or.inl hy2))
            go_wp2_with fail
            refine (CM.out _).mono ?_
            rintro e v5 ⟨rfl, hq⟩
            have hb := hb.trans (hq.mono hb.size)
            clear hq
            go_wp2_with fail
            go_roundw
            case rel => exact ⟨m + 1, by omega, by omega, rfl, by rw [ai.out, Int.add_assoc], hb⟩
            case measure => simp [intOf]; omega
          · by_cases hm2 : m < M
            · have ai := Lib.hid (AI.out y m hy mm0 hm (Or.inr hm2))
              go_wp2_with fail
              refine (CM.out _).mono ?_
              rintro e v5 ⟨rfl, hq⟩
              have hb := hb.trans (hq.mono hb.size)
              clear hq
              go_wp2_with fail
              go_roundw
              case rel => exact ⟨m + 1, by omega, by omega, rfl, by rw [ai.out, Int.add_assoc], hb⟩
              case measure => simp [intOf]; omega
            · have ao := Lib.hid (show acc Y M y (m + 1) = acc Y M y m by
                obtain rfl : y = Y := by omega
                exact AO.out m (by omega))
              go_wp2_with fail
              go_roundw
              case rel => exact ⟨m + 1, by omega, by omega, rfl, by rw [ao.out], hb⟩
              case measure => simp [intOf]; omega
        · obtain rfl : m = 13 := by omega
          have an := Lib.hid (AN.out y hy)
          have ast := Lib.hid (AS.out (y + 1) (by omega))
          go_wp2_with fail
          go_roundw
          case rel => exact ⟨y + 1, by omega, by omega, rfl, by rw [ast.out, an.out], hb⟩
          case measure => simp [intOf]; omega
    · obtain rfl : y = Y + 1 := by omega
      have e := AS.out (Y + 1) (by omega)
      rw [if_neg (by omega)] at e
      rw [e, ← EN.out]
      clear e
      by_cases hx : N ≤ 40000
      · have E := Lib.hid (show frB N 0 40000 = true from decide_eq_true ⟨nn, hx⟩)
        have e1 : Hid (V1 = N) := Lib.hid (hV1.out.trans (by rw [E.out]; rfl))
        have e2 : Hid (V2 = 0) := Lib.hid (hV2.out.trans (by rw [E.out]; rfl))
        go_wp2_with fail
        all_goals go_ret2
        all_goals (first | exact ⟨rfl, hb⟩ | exact absurd (by assumption : frB N 0 40000 = true) (by rw [E.out]; exact Bool.false_ne_true))
      · have E := Lib.hid (show frB N 0 40000 = false from decide_eq_false (fun h => hx h.2))
        have e1 : Hid (V1 = 0) := Lib.hid (hV1.out.trans (by rw [E.out]; rfl))
        have e2 : Hid (V2 = 7) := Lib.hid (hV2.out.trans (by rw [E.out]; rfl))
        go_wp2_with fail
        all_goals go_ret2
        all_goals (first | exact ⟨rfl, hb⟩ | exact absurd (by assumption : frB N 0 40000 = true) (by rw [E.out]; exact Bool.false_ne_true))

theorem rday_T (y m d : Int) : RetT 18 #[.int .i64 y, .int .i64 m, .int .i64 d] (.tuple #[.int .i64 (dyV y m d), .int .i64 (dyE y m d)]) := by
  cases h : rdB y m d
  · have o : (okD y m d && frB (num y m d) 0 40000) = false := by
      by_cases k : okD y m d = true
      · obtain ⟨y0, y1, hd⟩ := of_decide_eq_true k
        obtain ⟨m0, m1, d0, d1⟩ := hd
        have e : y = 1999 := by
          by_cases hy : 2000 ≤ y
          · exfalso
            unfold rdB at h
            rw [show frB y 2000 2109 = true from decide_eq_true ⟨hy, y1⟩, show frB m 1 12 = true from decide_eq_true ⟨m0, m1⟩, show frB d 1 (ln y m) = true from decide_eq_true ⟨d0, d1⟩] at h
            simp at h
          · omega
        subst e
        have := (num_year (show IsDate 1999 m d from ⟨m0, m1, d0, d1⟩)).2
        rw [show ny (1999 + 1) = 0 by decide] at this
        rw [show frB (num 1999 m d) 0 40000 = false from decide_eq_false (fun h => by omega)]
        simp
      · simp [k]
    rw [show dyV y m d = 0 by unfold dyV; rw [o]; rfl, show dyE y m d = 7 by unfold dyE; rw [o]; rfl]
    exact rday_no y m d h
  · unfold rdB at h
    simp only [Bool.and_eq_true] at h
    obtain ⟨⟨h1, h2⟩, h3⟩ := h
    obtain ⟨y0, y1⟩ := frB_yes h1
    obtain ⟨m0, m1⟩ := frB_yes h2
    obtain ⟨d0, d1⟩ := frB_yes h3
    have hd : IsDate y m d := ⟨m0, m1, d0, d1⟩
    have o : okD y m d = true := decide_eq_true ⟨by omega, y1, hd⟩
    have r := rday_yes y m d y0 y1 hd
    unfold dyV dyE
    rw [o, Bool.true_and]
    exact r
end Go.Proofs.YtjcgojbfjefbcaaDoor
