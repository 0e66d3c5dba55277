/- around of the law's package. -/
import Derived.Test.YthmelkakgbchbaaBwm
import Derived.Deep.DrawnRows
import Derived.OwnWalk
namespace Go.Proofs.Ythmelkakgbchbaa
set_option linter.unusedSimpArgs false
set_option linter.unusedVariables false
open Go.RowKit
attribute [local go_sem ↓] Go.wp_at_zero Go.wp_at_succ

/-- the four tangents are around -/
def Brk (t : Tab) (u v h : Int) (i k : Nat) : Prop := nth t.us.xs i * h ≤ u ∧ u ≤ nth t.us.xs (i + 1) * h ∧ nth t.vs.xs k * h ≤ v ∧ v ≤ nth t.vs.xs (k + 1) * h

/-- what around returns: false out of the table; else two ends that hold the interpolation -/
def ArPost (t : Tab) (u v h : Int) (e : Ending) : Prop := ∃ (lo hi : Int) (is : Bool), e = .returned (.tuple #[.int .i64 lo, .int .i64 hi, .bool is]) ∧ (is = true → insB t u v h = true ∧ lo ≤ (rval t h u v).1 ∧ (rval t h u v).2 ≤ hi ∧ (rval t h u v).1 ≤ (rval t h u v).2) ∧ (is = false → insB t u v h = false)

theorem brk_none {t : Tab} (ok : TabOk t) {u v h : Int} (h0 : 1 ≤ h) (h1 : h ≤ 30000) (g : ∀ i k, i + 1 < t.us.xs.length → k + 1 < t.vs.xs.length → ¬ Brk t u v h i k) : insB t u v h = false := by
  cases hc : insB t u v h
  · rfl
  · unfold insB at hc
    rw [Bool.and_eq_true] at hc
    obtain ⟨i, a, b, c⟩ := brk_some ok.us h0 h1 hc.1
    obtain ⟨k, d, e, f⟩ := brk_some ok.vs h0 h1 hc.2
    exact absurd ⟨b, c, e, f⟩ (g i k a d)

set_option maxRecDepth 100000 in
set_option maxHeartbeats 8000000 in
theorem around_any (t : Tab) (u v h : Int) (w : World) (ok : TabOk t) (hu : IntsIn w.heap.size t.us.a t.us.xs w) (hv : IntsIn w.heap.size t.vs.a t.vs.xs w) (hr : RowsIn w.heap.size t.ra t.rows w) (h0 : 1 ≤ h) (h1 : h ≤ 30000) :
    Calls Try.prog 35 #[.agg #[.string t.name, .slice t.us.a t.us.xs.length t.us.c, .slice t.vs.a t.vs.xs.length t.vs.c, .slice t.ra t.rows.length t.rc, .int .i64 t.side, .int .i64 t.sky], .int .i64 u, .int .i64 v, .int .i64 h] w fun e w' => ArPost t u v h e ∧ Below w.heap.size w w' := by
  have OK := Lib.hid ok
  have n0 := ok.us.n0
  have n1 := ok.us.n1
  have n2 := ok.vs.n0
  have n3 := ok.vs.n1
  have HB := Lib.hid (brk_none ok (u := u) (v := v) h0 h1)
  have HY := Lib.hid (fun (i k : Nat) (a : i + 1 < t.us.xs.length) (b : k + 1 < t.vs.xs.length) (g : Brk t u v h i k) (m X : Int) => rval_bd ok h0 h1 a b g.1 g.2.1 g.2.2.1 g.2.2.2 (m := m) (M := X))
  obtain ⟨ub, uo, hua, hub, huc⟩ := hu.2 (by omega)
  obtain ⟨vb, vo, hva, hvb, hvc⟩ := hv.2 (by omega)
  have hlr := ok.rows
  obtain ⟨rb, ro, hra, hrb, hrc⟩ := hr.2 (by omega)
  have bw := below_new w (.cells #[.string t.name, .slice t.us.a t.us.xs.length t.us.c, .slice t.vs.a t.vs.xs.length t.vs.c, .slice t.ra t.rows.length t.rc, .int .i64 t.side, .int .i64 t.sky] 61)
  have FU : Hid (∀ j, j < t.us.xs.length → (w.alloc (.cells #[.string t.name, .slice t.us.a t.us.xs.length t.us.c, .slice t.vs.a t.vs.xs.length t.vs.c, .slice t.ra t.rows.length t.rc, .int .i64 t.side, .int .i64 t.sky] 61)).cell? ⟨ub, uo + j, none⟩ = some (.int .i64 (nth t.us.xs j))) := Lib.hid (fun j hj => by rw [bw.cell (p := ⟨ub, uo + j, none⟩) hub]; exact huc j hj)
  have FV : Hid (∀ j, j < t.vs.xs.length → (w.alloc (.cells #[.string t.name, .slice t.us.a t.us.xs.length t.us.c, .slice t.vs.a t.vs.xs.length t.vs.c, .slice t.ra t.rows.length t.rc, .int .i64 t.side, .int .i64 t.sky] 61)).cell? ⟨vb, vo + j, none⟩ = some (.int .i64 (nth t.vs.xs j))) := Lib.hid (fun j hj => by rw [bw.cell (p := ⟨vb, vo + j, none⟩) hvb]; exact hvc j hj)
  have FR : Hid (∀ i, i < t.us.xs.length → ∃ xb xo xc, (w.alloc (.cells #[.string t.name, .slice t.us.a t.us.xs.length t.us.c, .slice t.vs.a t.vs.xs.length t.vs.c, .slice t.ra t.rows.length t.rc, .int .i64 t.side, .int .i64 t.sky] 61)).cell? ⟨rb, ro + i, none⟩ = some (.slice (some ⟨xb, xo, none⟩) t.vs.xs.length xc) ∧ ∀ k, k < t.vs.xs.length → (w.alloc (.cells #[.string t.name, .slice t.us.a t.us.xs.length t.us.c, .slice t.vs.a t.vs.xs.length t.vs.c, .slice t.ra t.rows.length t.rc, .int .i64 t.side, .int .i64 t.sky] 61)).cell? ⟨xb, xo + k, none⟩ = some (.int .i64 (tval t i k))) := Lib.hid (fun i hi => by
    obtain ⟨a, b⟩ := hrc i (by omega)
    have e := ok.row i (by omega)
    obtain ⟨xb, xo, hxa, hxb, hxc⟩ := b.2 (by omega)
    unfold Ints.val at a
    rw [hxa, e] at a
    refine ⟨xb, xo, (rowAt t.rows i).c, ?_, fun k hk => ?_⟩
    · rw [bw.cell (p := ⟨rb, ro + i, none⟩) hrb]; exact a
    · rw [bw.cell (p := ⟨xb, xo + k, none⟩) hxb]; exact hxc k (by omega))
  have k1 : (w.alloc (.cells #[.string t.name, .slice t.us.a t.us.xs.length t.us.c, .slice t.vs.a t.vs.xs.length t.vs.c, .slice t.ra t.rows.length t.rc, .int .i64 t.side, .int .i64 t.sky] 61)).cell? ⟨w.heap.size, 1, none⟩ = some (.slice t.us.a t.us.xs.length t.us.c) := by simp [go_sem]
  have k2 : (w.alloc (.cells #[.string t.name, .slice t.us.a t.us.xs.length t.us.c, .slice t.vs.a t.vs.xs.length t.vs.c, .slice t.ra t.rows.length t.rc, .int .i64 t.side, .int .i64 t.sky] 61)).cell? ⟨w.heap.size, 2, none⟩ = some (.slice t.vs.a t.vs.xs.length t.vs.c) := by simp [go_sem]
  have k3 : (w.alloc (.cells #[.string t.name, .slice t.us.a t.us.xs.length t.us.c, .slice t.vs.a t.vs.xs.length t.vs.c, .slice t.ra t.rows.length t.rc, .int .i64 t.side, .int .i64 t.sky] 61)).cell? ⟨w.heap.size, 3, none⟩ = some (.slice t.ra t.rows.length t.rc) := by simp [go_sem]
  have HEQ := Lib.hid (And.intro hua (And.intro hva (And.intro hra hlr)))
  have K := Lib.hid (And.intro k1 (And.intro k2 k3))
  have BW := Lib.hid bw
  clear k1 k2 k3 bw hua hva hra hlr huc hvc hrc hu hv hr hub hvb hrb ok
  go_enter Try.func35, Try.ntmps35
  go_wp2_with fail
  generalize (w.alloc (.cells #[.string t.name, .slice t.us.a t.us.xs.length t.us.c, .slice t.vs.a t.vs.xs.length t.vs.c, .slice t.ra t.rows.length t.rc, .int .i64 t.side, .int .i64 t.sky] 61)) = W0 at *
  go_loopg [11] (t.us.xs.length - 1) (fun n i' wr => ∃ i : Nat, i ≤ t.us.xs.length - 1 ∧ n = t.us.xs.length - 1 - i ∧ i' = .int .i64 i ∧ Hid (∀ a b, a < i → a + 1 < t.us.xs.length → b + 1 < t.vs.xs.length → ¬ Brk t u v h a b) ∧ W0 = wr)
  case atStart => exact ⟨0, by omega, by omega, rfl, Lib.hid (fun a b ha => absurd ha (by omega)), rfl⟩
  case round =>
    obtain ⟨i, hi, hn0, rfl, NB, rfl⟩ := hrel
    have HN := Lib.hid hn0
    clear hn0
    obtain ⟨k1, k2, k3⟩ := K.out
    rw [HEQ.out.1] at k1
    rw [HEQ.out.2.1] at k2
    rw [HEQ.out.2.2.1, HEQ.out.2.2.2] at k3
    by_cases hlt : i + 1 < t.us.xs.length
    · have ei1 : IntKind.i64.wrap ((i : Int) + 1) = ((i + 1 : Nat) : Int) := by rw [IntWalk.i64_in _ (by omega)]; omega
      have t0 : (((i + 1 : Nat) : Int)).toNat = i + 1 := by omega
      have s0 : (0 : Int) ≤ ((i + 1 : Nat) : Int) := by omega
      have s2 : ((i + 1 : Nat) : Int) < (t.us.xs.length : Int) := by omega
      have s4 : (i : Int) < (t.us.xs.length : Int) := by omega
      have s6 : (0 : Int) ≤ (i : Int) := by omega
      have d2 : decide (((i + 1 : Nat) : Int) < (t.us.xs.length : Int)) = true := decide_eq_true s2
      obtain ⟨xb, xo, xc, r0, fx⟩ := FR.out i (by omega)
      obtain ⟨yb, yo, yc, r1, fy⟩ := FR.out (i + 1) hlt
      have FX := Lib.hid fx
      have FY := Lib.hid fy
      clear fx fy
      have cu0 := FU.out i (by omega)
      have cu1 := FU.out (i + 1) hlt
      have eu0 : IntKind.i64.wrap (nth t.us.xs i * h) = nth t.us.xs i * h := by have := mulh (OK.out.us.lo i (by omega)) (OK.out.us.hi i (by omega)) h0 h1; exact IntWalk.i64_in _ (by omega)
      have eu1 : IntKind.i64.wrap (nth t.us.xs (i + 1) * h) = nth t.us.xs (i + 1) * h := by have := mulh (OK.out.us.lo (i + 1) hlt) (OK.out.us.hi (i + 1) hlt) h0 h1; exact IntWalk.i64_in _ (by omega)
      go_wp2_with fail
      go_loopg [12] (t.vs.xs.length - 1) (fun n k' wr => ∃ k : Nat, k ≤ t.vs.xs.length - 1 ∧ n = t.vs.xs.length - 1 - k ∧ k' = .int .i64 k ∧ Hid (∀ b, b < k → b + 1 < t.vs.xs.length → ¬ Brk t u v h i b) ∧ W0 = wr)
      case atStart => exact ⟨0, by omega, by omega, rfl, Lib.hid (fun b hb => absurd hb (by omega)), rfl⟩
      case round =>
        obtain ⟨k, hk, hn0, rfl, NC, rfl⟩ := hrel
        have HN2 := Lib.hid hn0
        clear hn0
        by_cases hlt2 : k + 1 < t.vs.xs.length
        · have ek1 : IntKind.i64.wrap ((k : Int) + 1) = ((k + 1 : Nat) : Int) := by rw [IntWalk.i64_in _ (by omega)]; omega
          have t1 : (((k + 1 : Nat) : Int)).toNat = k + 1 := by omega
          have s1 : (0 : Int) ≤ ((k + 1 : Nat) : Int) := by omega
          have s3 : ((k + 1 : Nat) : Int) < (t.vs.xs.length : Int) := by omega
          have s5 : (k : Int) < (t.vs.xs.length : Int) := by omega
          have s7 : (0 : Int) ≤ (k : Int) := by omega
          have d3 : decide (((k + 1 : Nat) : Int) < (t.vs.xs.length : Int)) = true := decide_eq_true s3
          have cv0 := FV.out k (by omega)
          have cv1 := FV.out (k + 1) hlt2
          have ev0 : IntKind.i64.wrap (nth t.vs.xs k * h) = nth t.vs.xs k * h := by have := mulh (OK.out.vs.lo k (by omega)) (OK.out.vs.hi k (by omega)) h0 h1; exact IntWalk.i64_in _ (by omega)
          have ev1 : IntKind.i64.wrap (nth t.vs.xs (k + 1) * h) = nth t.vs.xs (k + 1) * h := by have := mulh (OK.out.vs.lo (k + 1) hlt2) (OK.out.vs.hi (k + 1) hlt2) h0 h1; exact IntWalk.i64_in _ (by omega)
          by_cases hA : nth t.us.xs i * h ≤ u
          rotate_left
          · have dA : decide (nth t.us.xs i * h ≤ u) = false := decide_eq_false hA
            go_wp2_with fail
            go_roundg (t.vs.xs.length - 1 - (k + 1))
            case measure => have := HN2.out; omega
            case rel => exact ⟨k + 1, by omega, rfl, by first | rfl | go_num, Lib.hid (fun b hb hb2 => by
                rcases (show b < k ∨ b = k by omega) with hb' | rfl
                · exact NC.out b hb' hb2
                · exact fun g => by have := g.1; omega), rfl⟩
          have dA : decide (nth t.us.xs i * h ≤ u) = true := decide_eq_true hA
          by_cases hB : u ≤ nth t.us.xs (i + 1) * h
          rotate_left
          · have dB : decide (u ≤ nth t.us.xs (i + 1) * h) = false := decide_eq_false hB
            go_wp2_with fail
            go_roundg (t.vs.xs.length - 1 - (k + 1))
            case measure => have := HN2.out; omega
            case rel => exact ⟨k + 1, by omega, rfl, by first | rfl | go_num, Lib.hid (fun b hb hb2 => by
                rcases (show b < k ∨ b = k by omega) with hb' | rfl
                · exact NC.out b hb' hb2
                · exact fun g => by have := g.2.1; omega), rfl⟩
          have dB : decide (u ≤ nth t.us.xs (i + 1) * h) = true := decide_eq_true hB
          by_cases hC : nth t.vs.xs k * h ≤ v
          rotate_left
          · have dC : decide (nth t.vs.xs k * h ≤ v) = false := decide_eq_false hC
            go_wp2_with fail
            go_roundg (t.vs.xs.length - 1 - (k + 1))
            case measure => have := HN2.out; omega
            case rel => exact ⟨k + 1, by omega, rfl, by first | rfl | go_num, Lib.hid (fun b hb hb2 => by
                rcases (show b < k ∨ b = k by omega) with hb' | rfl
                · exact NC.out b hb' hb2
                · exact fun g => by have := g.2.2.1; omega), rfl⟩
          have dC : decide (nth t.vs.xs k * h ≤ v) = true := decide_eq_true hC
          by_cases hD : v ≤ nth t.vs.xs (k + 1) * h
          rotate_left
          · have dD : decide (v ≤ nth t.vs.xs (k + 1) * h) = false := decide_eq_false hD
            go_wp2_with fail
            go_roundg (t.vs.xs.length - 1 - (k + 1))
            case measure => have := HN2.out; omega
            case rel => exact ⟨k + 1, by omega, rfl, by first | rfl | go_num, Lib.hid (fun b hb hb2 => by
                rcases (show b < k ∨ b = k by omega) with hb' | rfl
                · exact NC.out b hb' hb2
                · exact fun g => by have := g.2.2.2; omega), rfl⟩
          have dD : decide (v ≤ nth t.vs.xs (k + 1) * h) = true := decide_eq_true hD
          have fx0 := FX.out k (by omega)
          have fx1 := FX.out (k + 1) hlt2
          have fy0 := FY.out k (by omega)
          have fy1 := FY.out (k + 1) hlt2
          have GY := Lib.hid (HY.out i k hlt hlt2 ⟨hA, hB, hC, hD⟩)
          go_wp2_with fail
          go_quiet (fail)
          go_wp2_with fail
          go_ret3
          refine ⟨⟨_, _, true, rfl, fun _ => GY.out _ _ ?_ ?_ ?_ ?_ ?_ ?_ ?_ ?_, fun hh => absurd hh (by decide)⟩, BW.out.trans (by first | exact ((Own.refl w.heap.size W0).drewN _).below | exact Below.refl _ _)⟩ <;> omega
        · obtain rfl : k = t.vs.xs.length - 1 := by omega
          have e2 : ¬ (((t.vs.xs.length - 1 : Nat) : Int)) + 1 < (t.vs.xs.length : Int) := by omega
          have e3 : decide ((((t.vs.xs.length - 1 : Nat) : Int)) + 1 < (t.vs.xs.length : Int)) = false := decide_eq_false e2
          go_wp2_with fail
          go_roundg (t.us.xs.length - 1 - (i + 1))
          case measure => have := HN.out; omega
          case rel => exact ⟨i + 1, by omega, rfl, by first | rfl | go_num, Lib.hid (fun a b ha ha2 hb => by
              rcases (show a < i ∨ a = i by omega) with ha' | rfl
              · exact NB.out a b ha' ha2 hb
              · exact NC.out b (by omega) hb), rfl⟩
    · obtain rfl : i = t.us.xs.length - 1 := by omega
      have e2 : ¬ (((t.us.xs.length - 1 : Nat) : Int)) + 1 < (t.us.xs.length : Int) := by omega
      have e3 : decide ((((t.us.xs.length - 1 : Nat) : Int)) + 1 < (t.us.xs.length : Int)) = false := decide_eq_false e2
      go_wp2_with fail
      go_ret3
      exact ⟨⟨0, 0, false, rfl, fun hh => absurd hh (by decide), fun _ => HB.out (fun a b ha hb => NB.out a b (by omega) ha hb)⟩, BW.out⟩
end Go.Proofs.Ythmelkakgbchbaa
