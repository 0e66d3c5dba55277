/- SunCalendar: the walk. -/
import Derived.Test.YtjcgojbfjefbcaaDoorDt
import Derived.Test.YtjcgojbfjefbcaaDoorAw
import Derived.Deep.DeepCutAuto
namespace Go.Proofs.YtjcgojbfjefbcaaDoor
set_option linter.unusedSimpArgs false
set_option linter.unusedVariables false
open Go.RowKit SineNear

theorem easter_more : ∀ k : Nat, k < 109 → 0 ≤ esD (2000 + k) ∧ esD (2000 + k) % 7 = 1 ∧ ((esN (2000 + k) / 31 = 3 ∧ 22 ≤ esN (2000 + k) % 31 + 1) ∨ (esN (2000 + k) / 31 = 4 ∧ esN (2000 + k) % 31 + 1 ≤ 25)) := by decide +kernel
theorem easter_sun (y : Int) (y0 : 2000 ≤ y) (y1 : y ≤ 2108) : 0 ≤ esD y ∧ esD y % 7 = 1 ∧ ((esN y / 31 = 3 ∧ 22 ≤ esN y % 31 + 1) ∨ (esN y / 31 = 4 ∧ esN y % 31 + 1 ≤ 25)) := by
  have h := easter_more (y - 2000).toNat (by omega)
  rw [show (2000 : Int) + ((y - 2000).toNat : Int) = y by omega] at h
  exact h
/-- what Date returns -/
theorem date_is (ea : Addr) (day : Int) : ∃ y m d e1, RetD ea 21 #[.int .i64 day] (.tuple #[.int .i64 y, .int .i64 m, .int .i64 d, .int .i64 e1]) ∧
    ((e1 = 0 ∧ (0 ≤ day ∧ day ≤ 40000) ∧ IsDate y m d ∧ num y m d = day ∧ 2000 ≤ y ∧ y ≤ 2109) ∨ e1 = 7) := by
  cases h : frB day 0 40000
  · exact ⟨0, 0, 0, 7, fun w t => date_no day h w, Or.inr rfl⟩
  · obtain ⟨y, m, d, y0, y1, hd, hn⟩ := date_of day h
    refine ⟨y, m, d, 0, ?_, Or.inl ⟨rfl, frB_yes h, hd, hn, y0, y1⟩⟩
    have := date_yes ea y m d y0 y1 hd (by rw [hn]; exact h)
    rw [hn] at this
    exact this
theorem day_is (ea : Addr) (y m d day : Int) (h0 : 0 ≤ day) (h1 : day ≤ 40000) (hd : IsDate y m d) (hn : num y m d = day) (y0 : 2000 ≤ y) (y1 : y ≤ 2109) : RetD ea 17 #[.int .i64 y, .int .i64 m, .int .i64 d] (.tuple #[.int .i64 day, .int .i64 0]) := by
  have h := day_T ea y m d
  have o : (okD y m d && frB (num y m d) 0 40000) = true := by
    rw [hn, show okD y m d = true from decide_eq_true ⟨by omega, y1, hd⟩, show frB day 0 40000 = true from decide_eq_true ⟨h0, h1⟩]; rfl
  rw [show dyV y m d = day by unfold dyV; rw [o, if_pos rfl, hn], show dyE y m d = 0 by unfold dyE; rw [o, if_pos rfl]] at h
  exact h
/-- what Easter returns, and the date of that day -/
theorem easter_is (ea : Addr) (year : Int) : ∃ a e1, RetD ea 19 #[.int .i64 year] (.tuple #[.int .i64 a, .int .i64 e1]) ∧
    ((e1 = 0 ∧ ∃ y m d, Hid (RetD ea 21 #[.int .i64 a] (.tuple #[.int .i64 y, .int .i64 m, .int .i64 d, .int .i64 0])) ∧ y = year ∧ (0 ≤ a ∧ a % 7 = 1) ∧ ((m = 3 ∧ 22 ≤ d) ∨ (m = 4 ∧ d ≤ 25))) ∨ e1 = 7) := by
  have h := Easter_T ea year
  cases hy : frB year 2000 2108
  · rw [show etV year = 0 by unfold etV; rw [hy]; rfl, show etE year = 7 by unfold etE; rw [hy]; rfl] at h
    exact ⟨0, 7, h, Or.inr rfl⟩
  · obtain ⟨y0, y1⟩ := frB_yes hy
    rw [show etV year = esD year by unfold etV; rw [hy]; rfl, show etE year = 0 by unfold etE; rw [hy]; rfl] at h
    obtain ⟨hd, _, _, h4⟩ := easter_of year y0 y1
    obtain ⟨z, h7, hw⟩ := easter_sun year y0 y1
    refine ⟨esD year, 0, h, Or.inl ⟨rfl, year, esN year / 31, esN year % 31 + 1, Lib.hid ?_, rfl, ⟨z, h7⟩, hw⟩⟩
    exact date_yes ea year _ _ y0 (by omega) hd (decide_eq_true ⟨z, h4⟩)

set_option maxRecDepth 100000 in
set_option maxHeartbeats 8000000 in
theorem calendar_any (ea : Addr) (day other year : Int) (w : World) (td : TabD ea w) (te : TabE w) :
    Calls Tryd.prog 6 #[.int .i64 day, .int .i64 other, .int .i64 year] w fun e w' => e = .returned (.bool true) ∧ Below w.heap.size w w' := by
  have hb : Below w.heap.size w w := Below.refl _ _
  obtain ⟨y, m, d, e1, C1, F1⟩ := date_is ea day
  obtain ⟨p, q, r, e2, C2, F2⟩ := date_is ea other
  obtain ⟨a, e4, C4, F4⟩ := easter_is ea year
  have C1 := Lib.hid C1
  have C2 := Lib.hid C2
  have C4 := Lib.hid C4
  rcases F1 with ⟨rfl, ⟨h0, h1⟩, hd, hn, y0, y1⟩ | rfl
  · have CD := Lib.hid (day_is ea y m d day h0 h1 hd hn y0 y1)
    have HNO := Lib.hid hn
    have F2 := Lib.hid F2
    have F4 := Lib.hid F4
    go_enter Tryd.func6, Tryd.ntmps6
    go_wp2_with fail
    refine (C1.out _ td).mono ?_
    rintro e v1 ⟨rfl, hq⟩
    have td := td.below hq
    have te := te.below hq
    have hb := hb.trans (hq.mono hb.size)
    clear hq
    go_wp2_with fail
    refine (CD.out _ td).mono ?_
    rintro e v2 ⟨rfl, hq⟩
    have td := td.below hq
    have te := te.below hq
    have hb := hb.trans (hq.mono hb.size)
    clear hq
    clear C1 CD
    go_wp2_with fail
    refine (C2.out _ td).mono ?_
    rintro e v3 ⟨rfl, hq⟩
    have td := td.below hq
    have te := te.below hq
    have hb := hb.trans (hq.mono hb.size)
    clear hq
    clear C2
    go_upto_if 56 with (fail)
    go_cut [] (fun wx => Hid (TabD ea wx) ∧ Hid (TabE wx) ∧ Hid (Below w.heap.size w wx))
    case first =>
      rcases F2.out with ⟨rfl, hr2, hd2, hn2, p0, p1⟩ | rfl
      · have NL := num_lt hd2 hd
        rw [hn, hn2] at NL
        have HN := Lib.hid hn
        have HN2 := Lib.hid hn2
        clear hn hn2
        by_cases k1 : p < y
        · have hg : other < day := NL.2 (Or.inl k1)
          clear NL
          go_wp2_with fail
          go_meet
          case rel => exact ⟨Lib.hid td, Lib.hid te, Lib.hid hb⟩
        · by_cases k2 : y = p
          · subst k2
            by_cases k3 : q < m
            · have hg : other < day := NL.2 (Or.inr ⟨rfl, Or.inl k3⟩)
              clear NL
              go_wp2_with fail
              go_meet
              case rel => exact ⟨Lib.hid td, Lib.hid te, Lib.hid hb⟩
            · by_cases k4 : m = q
              · subst k4
                by_cases k5 : r < d
                · have hg : other < day := NL.2 (Or.inr ⟨rfl, Or.inr ⟨rfl, k5⟩⟩)
                  clear NL
                  go_wp2_with fail
                  go_meet
                  case rel => exact ⟨Lib.hid td, Lib.hid te, Lib.hid hb⟩
                · have hg : ¬ other < day := fun h => by have := NL.1 h; omega
                  clear NL
                  go_wp2_with fail
                  go_meet
                  case rel => exact ⟨Lib.hid td, Lib.hid te, Lib.hid hb⟩
              · have hg : ¬ other < day := fun h => by have := NL.1 h; omega
                clear NL
                go_wp2_with fail
                go_meet
                case rel => exact ⟨Lib.hid td, Lib.hid te, Lib.hid hb⟩
          · have hg : ¬ other < day := fun h => by have := NL.1 h; omega
            clear NL
            go_wp2_with fail
            go_meet
            case rel => exact ⟨Lib.hid td, Lib.hid te, Lib.hid hb⟩
      · go_wp2_with fail
        go_meet
        case rel => exact ⟨Lib.hid td, Lib.hid te, Lib.hid hb⟩
    case rest =>
      obtain ⟨td, te, hb⟩ := hcut
      have td := td.out
      have te := te.out
      have hb := hb.out
      clear F2
      go_upto_if 90 with (fail)
      go_cut [] (fun wx => Hid (TabD ea wx) ∧ Hid (TabE wx) ∧ Hid (Below w.heap.size w wx))
      case first =>
        by_cases hl : day < 40000
        · rcases next_date hd with ⟨hx, hd3, hn3⟩ | ⟨hx, hm, hd3, hn3⟩ | ⟨hx, hm, hd3, hn3⟩
          · have C3 : RetD ea 21 #[.int .i64 (day + 1)] (.tuple #[.int .i64 y, .int .i64 m, .int .i64 (d + 1), .int .i64 0]) := by
              have := date_yes ea y m (d + 1) (by omega) (year_le hd3 (by omega)) hd3 (decide_eq_true ⟨by omega, by omega⟩)
              rw [hn3, HNO.out] at this
              exact this
            have C3 := Lib.hid C3
            obtain ⟨m0, m1, d0, d1⟩ := hd
            have lb := ln_bd y m
            have d2 : d ≤ 31 := by omega
            have g1 : (d == 0) = false := by simp; omega
            clear d1 hx lb
            clear hn3 hd3
            go_wp2_with fail
            refine (C3.out _ td).mono ?_
            rintro e v3 ⟨rfl, hq⟩
            have td := td.below hq
            have te := te.below hq
            have hb := hb.trans (hq.mono hb.size)
            clear hq
            clear C3
            go_wp2_with fail
            go_meet
            case rel => exact ⟨Lib.hid td, Lib.hid te, Lib.hid hb⟩
          · have C3 : RetD ea 21 #[.int .i64 (day + 1)] (.tuple #[.int .i64 y, .int .i64 (m + 1), .int .i64 1, .int .i64 0]) := by
              have := date_yes ea y (m + 1) 1 (by omega) (year_le hd3 (by omega)) hd3 (decide_eq_true ⟨by omega, by omega⟩)
              rw [hn3, HNO.out] at this
              exact this
            have C3 := Lib.hid C3
            obtain ⟨m0, m1, d0, d1⟩ := hd
            have lb := ln_bd y m
            have d2 : d ≤ 31 := by omega
            have g1 : ¬ m + 1 = m := by omega
            have g2 : 28 ≤ d := by omega
            clear d1 hx lb
            clear hn3 hd3
            go_wp2_with fail
            refine (C3.out _ td).mono ?_
            rintro e v3 ⟨rfl, hq⟩
            have td := td.below hq
            have te := te.below hq
            have hb := hb.trans (hq.mono hb.size)
            clear hq
            clear C3
            go_wp2_with fail
            go_meet
            case rel => exact ⟨Lib.hid td, Lib.hid te, Lib.hid hb⟩
          · have C3 : RetD ea 21 #[.int .i64 (day + 1)] (.tuple #[.int .i64 (y + 1), .int .i64 1, .int .i64 1, .int .i64 0]) := by
              have := date_yes ea (y + 1) 1 1 (by omega) (year_le hd3 (by omega)) hd3 (decide_eq_true ⟨by omega, by omega⟩)
              rw [hn3, HNO.out] at this
              exact this
            have C3 := Lib.hid C3
            obtain ⟨m0, m1, d0, d1⟩ := hd
            have lb := ln_bd y m
            have d2 : d ≤ 31 := by omega
            subst hm
            have g1 : ¬ y + 1 = y := by omega
            have g2 : 28 ≤ d := by omega
            clear d1 hx lb
            clear hn3 hd3
            go_wp2_with fail
            refine (C3.out _ td).mono ?_
            rintro e v3 ⟨rfl, hq⟩
            have td := td.below hq
            have te := te.below hq
            have hb := hb.trans (hq.mono hb.size)
            clear hq
            clear C3
            go_wp2_with fail
            go_meet
            case rel => exact ⟨Lib.hid td, Lib.hid te, Lib.hid hb⟩
        · go_wp2_with fail
          go_meet
          case rel => exact ⟨Lib.hid td, Lib.hid te, Lib.hid hb⟩
      case rest =>
        obtain ⟨td, te, hb⟩ := hcut
        have td := td.out
        have te := te.out
        have hb := hb.out
        clear hn hd HNO
        go_wp2_with fail
        refine (C4.out _ td).mono ?_
        rintro e v4 ⟨rfl, hq⟩
        have td := td.below hq
        have te := te.below hq
        have hb := hb.trans (hq.mono hb.size)
        clear hq
        clear C4
        have F4 := F4.out
        rcases F4 with ⟨rfl, py, pm, pd, C5, rfl, ⟨z7, h7⟩, hw⟩ | rfl
        · go_wp2_with fail
          refine (C5.out _ td).mono ?_
          rintro e v5 ⟨rfl, hq⟩
          have td := td.below hq
          have te := te.below hq
          have hb := hb.trans (hq.mono hb.size)
          clear hq
          rcases hw with ⟨rfl, hr⟩ | ⟨rfl, hr⟩
          · go_wp2_with fail
            refine (awake_any ea _ td te).mono ?_
            rintro e v6 ⟨rfl, hq⟩
            have hb := hb.trans (hq.mono hb.size)
            clear hq td te
            go_wp2_with fail
            go_ret
            exact ⟨rfl, hb⟩
          · go_wp2_with fail
            refine (awake_any ea _ td te).mono ?_
            rintro e v6 ⟨rfl, hq⟩
            have hb := hb.trans (hq.mono hb.size)
            clear hq td te
            go_wp2_with fail
            go_ret
            exact ⟨rfl, hb⟩
        · go_wp2_with fail
          refine (awake_any ea _ td te).mono ?_
          rintro e v5 ⟨rfl, hq⟩
          have hb := hb.trans (hq.mono hb.size)
          clear hq td te
          go_wp2_with fail
          go_ret
          exact ⟨rfl, hb⟩
  · have F2 := Lib.hid F2
    have F4 := Lib.hid F4
    go_enter Tryd.func6, Tryd.ntmps6
    go_wp2_with fail
    refine (C1.out _ td).mono ?_
    rintro e v1 ⟨rfl, hq⟩
    have td := td.below hq
    have te := te.below hq
    have hb := hb.trans (hq.mono hb.size)
    clear hq
    go_wp2_with fail
    refine (C2.out _ td).mono ?_
    rintro e v2 ⟨rfl, hq⟩
    have td := td.below hq
    have te := te.below hq
    have hb := hb.trans (hq.mono hb.size)
    clear hq
    clear C1 C2
    go_wp2_with fail
    refine (C4.out _ td).mono ?_
    rintro e v4 ⟨rfl, hq⟩
    have td := td.below hq
    have te := te.below hq
    have hb := hb.trans (hq.mono hb.size)
    clear hq
    clear C4
    have F4 := F4.out
    rcases F4 with ⟨rfl, py, pm, pd, C5, rfl, ⟨z7, h7⟩, hw⟩ | rfl
    · go_wp2_with fail
      refine (C5.out _ td).mono ?_
      rintro e v5 ⟨rfl, hq⟩
      have td := td.below hq
      have te := te.below hq
      have hb := hb.trans (hq.mono hb.size)
      clear hq
      rcases hw with ⟨rfl, hr⟩ | ⟨rfl, hr⟩
      · go_wp2_with fail
        refine (awake_any ea _ td te).mono ?_
        rintro e v6 ⟨rfl, hq⟩
        have hb := hb.trans (hq.mono hb.size)
        clear hq td te
        go_wp2_with fail
        go_ret
        exact ⟨rfl, hb⟩
      · go_wp2_with fail
        refine (awake_any ea _ td te).mono ?_
        rintro e v6 ⟨rfl, hq⟩
        have hb := hb.trans (hq.mono hb.size)
        clear hq td te
        go_wp2_with fail
        go_ret
        exact ⟨rfl, hb⟩
    · go_wp2_with fail
      refine (awake_any ea _ td te).mono ?_
      rintro e v5 ⟨rfl, hq⟩
      have hb := hb.trans (hq.mono hb.size)
      clear hq td te
      go_wp2_with fail
      go_ret
      exact ⟨rfl, hb⟩
end Go.Proofs.YtjcgojbfjefbcaaDoor
