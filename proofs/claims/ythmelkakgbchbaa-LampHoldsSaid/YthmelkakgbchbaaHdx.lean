/- LampHolds: small and exact of the law's package. -/
import Derived.Test.YthmelkakgbchbaaHld
import Derived.Test.YthmelkakgbchbaaBwa
namespace Go.Proofs.Ythmelkakgbchbaa
set_option linter.unusedSimpArgs false
set_option linter.unusedVariables false
open Go.RowKit
attribute [local go_sem ↓] Go.wp_at_zero Go.wp_at_succ

def SmallOk (t : Tab) : Prop := (∀ i k, i < t.us.xs.length → k < t.vs.xs.length → tval t i k ≤ 5000) ∧ t.side ≤ 5000
def SmPost (t : Tab) (e : Ending) : Prop := ∃ b : Bool, e = .returned (.bool b) ∧ (b = true → SmallOk t)

set_option maxRecDepth 100000 in
set_option maxHeartbeats 4000000 in
theorem small_any (t : Tab) (w : World) (ok : TabOk t) (hu : IntsIn w.heap.size t.us.a t.us.xs w) (hv : IntsIn w.heap.size t.vs.a t.vs.xs w) (hr : RowsIn w.heap.size t.ra t.rows w) :
    Calls Try.prog 36 #[.agg #[.string t.name, .slice t.us.a t.us.xs.length t.us.c, .slice t.vs.a t.vs.xs.length t.vs.c, .slice t.ra t.rows.length t.rc, .int .i64 t.side, .int .i64 t.sky]] w fun e w' => SmPost t e ∧ Below w.heap.size w w' := by
  have OK := Lib.hid ok
  have n0 := ok.us.n0
  have n1 := ok.us.n1
  have n2 := ok.vs.n0
  have n3 := ok.vs.n1
  obtain ⟨ub, uo, hua, hub, huc⟩ := hu.2 (by omega)
  obtain ⟨vb, vo, hva, hvb, hvc⟩ := hv.2 (by omega)
  have hlr := ok.rows
  obtain ⟨rb, ro, hra, hrb, hrc⟩ := hr.2 (by omega)
  have bw := below_new w (.cells #[.string t.name, .slice t.us.a t.us.xs.length t.us.c, .slice t.vs.a t.vs.xs.length t.vs.c, .slice t.ra t.rows.length t.rc, .int .i64 t.side, .int .i64 t.sky] 61)
  have FU : Hid (∀ Wz : World, Below w.heap.size w Wz → ∀ j, j < t.us.xs.length → Wz.cell? ⟨ub, uo + j, none⟩ = some (.int .i64 (nth t.us.xs j))) := Lib.hid (fun Wz hz j hj => by rw [hz.cell (p := ⟨ub, uo + j, none⟩) hub]; exact huc j hj)
  have FV : Hid (∀ Wz : World, Below w.heap.size w Wz → ∀ j, j < t.vs.xs.length → Wz.cell? ⟨vb, vo + j, none⟩ = some (.int .i64 (nth t.vs.xs j))) := Lib.hid (fun Wz hz j hj => by rw [hz.cell (p := ⟨vb, vo + j, none⟩) hvb]; exact hvc j hj)
  have FR : Hid (∀ i, i < t.us.xs.length → ∃ xb xo xc, ∀ Wz : World, Below w.heap.size w Wz → Wz.cell? ⟨rb, ro + i, none⟩ = some (.slice (some ⟨xb, xo, none⟩) t.vs.xs.length xc) ∧ ∀ k, k < t.vs.xs.length → Wz.cell? ⟨xb, xo + k, none⟩ = some (.int .i64 (tval t i k))) := Lib.hid (fun i hi => by
    obtain ⟨a, b⟩ := hrc i (by omega)
    have e := ok.row i (by omega)
    obtain ⟨xb, xo, hxa, hxb, hxc⟩ := b.2 (by omega)
    unfold Ints.val at a
    rw [hxa, e] at a
    refine ⟨xb, xo, (rowAt t.rows i).c, fun Wz hz => ⟨?_, fun k hk => ?_⟩⟩
    · rw [hz.cell (p := ⟨rb, ro + i, none⟩) hrb]; exact a
    · rw [hz.cell (p := ⟨xb, xo + k, none⟩) hxb]; exact hxc k (by omega))
  have k1 : (w.alloc (.cells #[.string t.name, .slice t.us.a t.us.xs.length t.us.c, .slice t.vs.a t.vs.xs.length t.vs.c, .slice t.ra t.rows.length t.rc, .int .i64 t.side, .int .i64 t.sky] 61)).cell? ⟨w.heap.size, 1, none⟩ = some (.slice t.us.a t.us.xs.length t.us.c) := by simp [go_sem]
  have k2 : (w.alloc (.cells #[.string t.name, .slice t.us.a t.us.xs.length t.us.c, .slice t.vs.a t.vs.xs.length t.vs.c, .slice t.ra t.rows.length t.rc, .int .i64 t.side, .int .i64 t.sky] 61)).cell? ⟨w.heap.size, 2, none⟩ = some (.slice t.vs.a t.vs.xs.length t.vs.c) := by simp [go_sem]
  have k3 : (w.alloc (.cells #[.string t.name, .slice t.us.a t.us.xs.length t.us.c, .slice t.vs.a t.vs.xs.length t.vs.c, .slice t.ra t.rows.length t.rc, .int .i64 t.side, .int .i64 t.sky] 61)).cell? ⟨w.heap.size, 3, none⟩ = some (.slice t.ra t.rows.length t.rc) := by simp [go_sem]
  have k4 : (w.alloc (.cells #[.string t.name, .slice t.us.a t.us.xs.length t.us.c, .slice t.vs.a t.vs.xs.length t.vs.c, .slice t.ra t.rows.length t.rc, .int .i64 t.side, .int .i64 t.sky] 61)).cell? ⟨w.heap.size, 4, none⟩ = some (.int .i64 t.side) := by simp [go_sem]
  have ls : w.heap.size < (w.alloc (.cells #[.string t.name, .slice t.us.a t.us.xs.length t.us.c, .slice t.vs.a t.vs.xs.length t.vs.c, .slice t.ra t.rows.length t.rc, .int .i64 t.side, .int .i64 t.sky] 61)).heap.size := by simp
  have HEQ := Lib.hid (And.intro hua (And.intro hva (And.intro hra hlr)))
  have BW := Lib.hid bw
  have K := Lib.hid (show ∀ Wz : World, Below (w.alloc (.cells #[.string t.name, .slice t.us.a t.us.xs.length t.us.c, .slice t.vs.a t.vs.xs.length t.vs.c, .slice t.ra t.rows.length t.rc, .int .i64 t.side, .int .i64 t.sky] 61)).heap.size (w.alloc (.cells #[.string t.name, .slice t.us.a t.us.xs.length t.us.c, .slice t.vs.a t.vs.xs.length t.vs.c, .slice t.ra t.rows.length t.rc, .int .i64 t.side, .int .i64 t.sky] 61)) Wz → (Wz.cell? ⟨w.heap.size, 1, none⟩ = some (.slice t.us.a t.us.xs.length t.us.c) ∧ Wz.cell? ⟨w.heap.size, 2, none⟩ = some (.slice t.vs.a t.vs.xs.length t.vs.c) ∧ Wz.cell? ⟨w.heap.size, 3, none⟩ = some (.slice t.ra t.rows.length t.rc) ∧ Wz.cell? ⟨w.heap.size, 4, none⟩ = some (.int .i64 t.side) ∧ Below w.heap.size w Wz) from fun Wz hz =>
    ⟨by rw [hz.cell (p := ⟨w.heap.size, 1, none⟩) ls]; exact k1, by rw [hz.cell (p := ⟨w.heap.size, 2, none⟩) ls]; exact k2, by rw [hz.cell (p := ⟨w.heap.size, 3, none⟩) ls]; exact k3, by rw [hz.cell (p := ⟨w.heap.size, 4, none⟩) ls]; exact k4, bw.trans (hz.mono (by simp))⟩)
  clear k1 k2 k3 k4 ls bw hua hva hra hlr huc hvc hrc hu hv hr hub hvb hrb ok
  go_enter Try.func36, Try.ntmps36
  go_wp2_with fail
  generalize (w.alloc (.cells #[.string t.name, .slice t.us.a t.us.xs.length t.us.c, .slice t.vs.a t.vs.xs.length t.vs.c, .slice t.ra t.rows.length t.rc, .int .i64 t.side, .int .i64 t.sky] 61)) = W0 at *
  go_loopg [3] t.us.xs.length (fun n i' wr => ∃ i : Nat, i ≤ t.us.xs.length ∧ n = t.us.xs.length - i ∧ i' = .int .i64 i ∧ Hid (∀ a b, a < i → b < t.vs.xs.length → tval t a b ≤ 5000) ∧ W0 = wr)
  case atStart => exact ⟨0, by omega, by omega, rfl, Lib.hid (fun a b ha => absurd ha (by omega)), rfl⟩
  case round =>
    obtain ⟨i, hi, hn0, rfl, NB, rfl⟩ := hrel
    have HN := Lib.hid hn0
    clear hn0
    obtain ⟨k1, k2, k3, k4, k5⟩ := K.out W0 (Below.refl _ _)
    rw [HEQ.out.1] at k1
    rw [HEQ.out.2.1] at k2
    rw [HEQ.out.2.2.1, HEQ.out.2.2.2] at k3
    by_cases hlt : i < t.us.xs.length
    · have ei1 : IntKind.i64.wrap ((i : Int) + 1) = ((i + 1 : Nat) : Int) := by rw [IntWalk.i64_in _ (by omega)]; omega
      have s4 : (i : Int) < (t.us.xs.length : Int) := by omega
      have s6 : (0 : Int) ≤ (i : Int) := by omega
      obtain ⟨xb, xo, xc, fx⟩ := FR.out i hlt
      obtain ⟨r0, fx0⟩ := fx W0 k5
      have FX := Lib.hid fx0
      clear fx fx0
      go_wp2_with fail
      go_loopg [4] t.vs.xs.length (fun n k' wr => ∃ k : Nat, k ≤ t.vs.xs.length ∧ n = t.vs.xs.length - k ∧ k' = .int .i64 k ∧ Hid (∀ b, b < k → tval t i b ≤ 5000) ∧ W0 = wr)
      case atStart => exact ⟨0, by omega, by omega, rfl, Lib.hid (fun b hb => absurd hb (by omega)), rfl⟩
      case round =>
        obtain ⟨k, hk, hn0, rfl, NC, rfl⟩ := hrel
        have HN2 := Lib.hid hn0
        clear hn0
        by_cases hlt2 : k < t.vs.xs.length
        · have ek1 : IntKind.i64.wrap ((k : Int) + 1) = ((k + 1 : Nat) : Int) := by rw [IntWalk.i64_in _ (by omega)]; omega
          have s5 : (k : Int) < (t.vs.xs.length : Int) := by omega
          have s7 : (0 : Int) ≤ (k : Int) := by omega
          have fx0 := FX.out k hlt2
          by_cases hA : tval t i k ≤ 5000
          · have dA : ¬ 5000 < tval t i k := by omega
            have hv' := Lib.hid hA
            clear hA
            go_wp2_with fail
            go_roundg (t.vs.xs.length - (k + 1))
            case measure => have := HN2.out; omega
            case rel => exact ⟨k + 1, by omega, rfl, by first | rfl | go_num, Lib.hid (fun b hb => by
                rcases (show b < k ∨ b = k by omega) with hb' | rfl
                · exact NC.out b hb'
                · exact hv'.out), rfl⟩
          · have dA : 5000 < tval t i k := by omega
            clear hA
            go_wp2_with fail
            go_ret
            exact ⟨⟨false, rfl, fun hh => absurd hh (by decide)⟩, BW.out⟩
        · obtain rfl : k = t.vs.xs.length := by omega
          have e2 : ¬ ((t.vs.xs.length : Nat) : Int) < (t.vs.xs.length : Int) := by omega
          go_wp2_with fail
          go_roundg (t.us.xs.length - (i + 1))
          case measure => have := HN.out; omega
          case rel => exact ⟨i + 1, by omega, rfl, by first | rfl | go_num, Lib.hid (fun a b ha hb => by
              rcases (show a < i ∨ a = i by omega) with ha' | rfl
              · exact NB.out a b ha' hb
              · exact NC.out b hb), rfl⟩
    · obtain rfl : i = t.us.xs.length := by omega
      have e2 : ¬ ((t.us.xs.length : Nat) : Int) < (t.us.xs.length : Int) := by omega
      go_wp2_with fail
      go_ret
      exact ⟨⟨decide (t.side ≤ 5000), rfl, fun hh => ⟨fun a b ha hb => NB.out a b ha hb, of_decide_eq_true hh⟩⟩, BW.out⟩

/-- what exact returns -/
def ExPost (t : Tab) (u v h : Int) (e : Ending) : Prop := ∃ n d : Int, e = .returned (.tuple #[.int .i64 n, .int .i64 d]) ∧ ((∃ i k, i + 1 < t.us.xs.length ∧ k + 1 < t.vs.xs.length ∧ Brk t u v h i k ∧ n = bilT t h i k u v ∧ d = bilD t h i k) ∨ (n = 0 ∧ d = 0 ∧ insB t u v h = false))

theorem mulh1 {a h : Int} (a0 : -5000 ≤ a) (a1 : a ≤ 5000) (h0 : 1 ≤ h) (h1 : h ≤ 1000) : -5000000 ≤ a * h ∧ a * h ≤ 5000000 := by
  have h2 : (0 : Int) ≤ h := by omega
  have e1 := Int.mul_le_mul_of_nonneg_right a1 h2
  have e2 := Int.mul_le_mul_of_nonneg_right a0 h2
  omega
/-- the sizes of all that exact reckons -/
theorem exact_bd {a b x y u v p q r s : Int} (a0 : -5000000 ≤ a) (b0 : b ≤ 5000000) (x0 : -5000000 ≤ x) (y0 : y ≤ 5000000) (u0 : a ≤ u) (u1 : u ≤ b) (v0 : x ≤ v) (v1 : v ≤ y)
    (p0 : 0 ≤ p ∧ p ≤ 5000) (q0 : 0 ≤ q ∧ q ≤ 5000) (r0 : 0 ≤ r ∧ r ≤ 5000) (s0 : 0 ≤ s ∧ s ≤ 5000) :
    IntKind.i64.wrap ((y - v) * p) = (y - v) * p ∧ IntKind.i64.wrap ((v - x) * q) = (v - x) * q ∧ IntKind.i64.wrap ((y - v) * r) = (y - v) * r ∧ IntKind.i64.wrap ((v - x) * s) = (v - x) * s ∧
    IntKind.i64.wrap ((y - v) * p + (v - x) * q) = (y - v) * p + (v - x) * q ∧ IntKind.i64.wrap ((y - v) * r + (v - x) * s) = (y - v) * r + (v - x) * s ∧
    IntKind.i64.wrap ((b - u) * ((y - v) * p + (v - x) * q)) = (b - u) * ((y - v) * p + (v - x) * q) ∧ IntKind.i64.wrap ((u - a) * ((y - v) * r + (v - x) * s)) = (u - a) * ((y - v) * r + (v - x) * s) ∧
    IntKind.i64.wrap ((b - u) * ((y - v) * p + (v - x) * q) + (u - a) * ((y - v) * r + (v - x) * s)) = (b - u) * ((y - v) * p + (v - x) * q) + (u - a) * ((y - v) * r + (v - x) * s) ∧
    IntKind.i64.wrap ((b - a) * (y - x)) = (b - a) * (y - x) := by
  have m : ∀ c z K : Int, 0 ≤ c → c ≤ 10000000 → 0 ≤ z → z ≤ K → 0 ≤ c * z ∧ c * z ≤ 10000000 * K := fun c z K c0 c1 z0 z1 => ⟨Int.mul_nonneg c0 z0, Int.mul_le_mul c1 z1 z0 (by omega)⟩
  have m1 := m (y - v) p 5000 (by omega) (by omega) p0.1 p0.2
  have m2 := m (v - x) q 5000 (by omega) (by omega) q0.1 q0.2
  have m3 := m (y - v) r 5000 (by omega) (by omega) r0.1 r0.2
  have m4 := m (v - x) s 5000 (by omega) (by omega) s0.1 s0.2
  have m5 := m (b - u) ((y - v) * p + (v - x) * q) 100000000000 (by omega) (by omega) (by omega) (by omega)
  have m6 := m (u - a) ((y - v) * r + (v - x) * s) 100000000000 (by omega) (by omega) (by omega) (by omega)
  have m7 := m (b - a) (y - x) 10000000 (by omega) (by omega) (by omega) (by omega)
  refine ⟨?_, ?_, ?_, ?_, ?_, ?_, ?_, ?_, ?_, ?_⟩ <;> exact IntWalk.i64_in _ (by omega)

set_option maxRecDepth 100000 in
set_option maxHeartbeats 8000000 in
theorem exact_any (t : Tab) (u v h : Int) (w : World) (ok : TabOk t) (hu : IntsIn w.heap.size t.us.a t.us.xs w) (hv : IntsIn w.heap.size t.vs.a t.vs.xs w) (hr : RowsIn w.heap.size t.ra t.rows w) (h0 : 1 ≤ h) (h1 : h ≤ 1000) (sm : SmallOk t) :
    Calls Try.prog 37 #[.agg #[.string t.name, .slice t.us.a t.us.xs.length t.us.c, .slice t.vs.a t.vs.xs.length t.vs.c, .slice t.ra t.rows.length t.rc, .int .i64 t.side, .int .i64 t.sky], .int .i64 u, .int .i64 v, .int .i64 h] w fun e w' => ExPost t u v h e ∧ Below w.heap.size w w' := by
  have HB := Lib.hid (brk_none ok (u := u) (v := v) h0 (show h ≤ 30000 by omega))
  have SM := Lib.hid sm
  clear sm
  have OK := Lib.hid ok
  have n0 := ok.us.n0
  have n1 := ok.us.n1
  have n2 := ok.vs.n0
  have n3 := ok.vs.n1
  obtain ⟨ub, uo, hua, hub, huc⟩ := hu.2 (by omega)
  obtain ⟨vb, vo, hva, hvb, hvc⟩ := hv.2 (by omega)
  have hlr := ok.rows
  obtain ⟨rb, ro, hra, hrb, hrc⟩ := hr.2 (by omega)
  have bw := below_new w (.cells #[.string t.name, .slice t.us.a t.us.xs.length t.us.c, .slice t.vs.a t.vs.xs.length t.vs.c, .slice t.ra t.rows.length t.rc, .int .i64 t.side, .int .i64 t.sky] 61)
  have FU : Hid (∀ Wz : World, Below w.heap.size w Wz → ∀ j, j < t.us.xs.length → Wz.cell? ⟨ub, uo + j, none⟩ = some (.int .i64 (nth t.us.xs j))) := Lib.hid (fun Wz hz j hj => by rw [hz.cell (p := ⟨ub, uo + j, none⟩) hub]; exact huc j hj)
  have FV : Hid (∀ Wz : World, Below w.heap.size w Wz → ∀ j, j < t.vs.xs.length → Wz.cell? ⟨vb, vo + j, none⟩ = some (.int .i64 (nth t.vs.xs j))) := Lib.hid (fun Wz hz j hj => by rw [hz.cell (p := ⟨vb, vo + j, none⟩) hvb]; exact hvc j hj)
  have FR : Hid (∀ i, i < t.us.xs.length → ∃ xb xo xc, ∀ Wz : World, Below w.heap.size w Wz → Wz.cell? ⟨rb, ro + i, none⟩ = some (.slice (some ⟨xb, xo, none⟩) t.vs.xs.length xc) ∧ ∀ k, k < t.vs.xs.length → Wz.cell? ⟨xb, xo + k, none⟩ = some (.int .i64 (tval t i k))) := Lib.hid (fun i hi => by
    obtain ⟨a, b⟩ := hrc i (by omega)
    have e := ok.row i (by omega)
    obtain ⟨xb, xo, hxa, hxb, hxc⟩ := b.2 (by omega)
    unfold Ints.val at a
    rw [hxa, e] at a
    refine ⟨xb, xo, (rowAt t.rows i).c, fun Wz hz => ⟨?_, fun k hk => ?_⟩⟩
    · rw [hz.cell (p := ⟨rb, ro + i, none⟩) hrb]; exact a
    · rw [hz.cell (p := ⟨xb, xo + k, none⟩) hxb]; exact hxc k (by omega))
  have k1 : (w.alloc (.cells #[.string t.name, .slice t.us.a t.us.xs.length t.us.c, .slice t.vs.a t.vs.xs.length t.vs.c, .slice t.ra t.rows.length t.rc, .int .i64 t.side, .int .i64 t.sky] 61)).cell? ⟨w.heap.size, 1, none⟩ = some (.slice t.us.a t.us.xs.length t.us.c) := by simp [go_sem]
  have k2 : (w.alloc (.cells #[.string t.name, .slice t.us.a t.us.xs.length t.us.c, .slice t.vs.a t.vs.xs.length t.vs.c, .slice t.ra t.rows.length t.rc, .int .i64 t.side, .int .i64 t.sky] 61)).cell? ⟨w.heap.size, 2, none⟩ = some (.slice t.vs.a t.vs.xs.length t.vs.c) := by simp [go_sem]
  have k3 : (w.alloc (.cells #[.string t.name, .slice t.us.a t.us.xs.length t.us.c, .slice t.vs.a t.vs.xs.length t.vs.c, .slice t.ra t.rows.length t.rc, .int .i64 t.side, .int .i64 t.sky] 61)).cell? ⟨w.heap.size, 3, none⟩ = some (.slice t.ra t.rows.length t.rc) := by simp [go_sem]
  have k4 : (w.alloc (.cells #[.string t.name, .slice t.us.a t.us.xs.length t.us.c, .slice t.vs.a t.vs.xs.length t.vs.c, .slice t.ra t.rows.length t.rc, .int .i64 t.side, .int .i64 t.sky] 61)).cell? ⟨w.heap.size, 4, none⟩ = some (.int .i64 t.side) := by simp [go_sem]
  have ls : w.heap.size < (w.alloc (.cells #[.string t.name, .slice t.us.a t.us.xs.length t.us.c, .slice t.vs.a t.vs.xs.length t.vs.c, .slice t.ra t.rows.length t.rc, .int .i64 t.side, .int .i64 t.sky] 61)).heap.size := by simp
  have HEQ := Lib.hid (And.intro hua (And.intro hva (And.intro hra hlr)))
  have BW := Lib.hid bw
  have K := Lib.hid (show ∀ Wz : World, Below (w.alloc (.cells #[.string t.name, .slice t.us.a t.us.xs.length t.us.c, .slice t.vs.a t.vs.xs.length t.vs.c, .slice t.ra t.rows.length t.rc, .int .i64 t.side, .int .i64 t.sky] 61)).heap.size (w.alloc (.cells #[.string t.name, .slice t.us.a t.us.xs.length t.us.c, .slice t.vs.a t.vs.xs.length t.vs.c, .slice t.ra t.rows.length t.rc, .int .i64 t.side, .int .i64 t.sky] 61)) Wz → (Wz.cell? ⟨w.heap.size, 1, none⟩ = some (.slice t.us.a t.us.xs.length t.us.c) ∧ Wz.cell? ⟨w.heap.size, 2, none⟩ = some (.slice t.vs.a t.vs.xs.length t.vs.c) ∧ Wz.cell? ⟨w.heap.size, 3, none⟩ = some (.slice t.ra t.rows.length t.rc) ∧ Wz.cell? ⟨w.heap.size, 4, none⟩ = some (.int .i64 t.side) ∧ Below w.heap.size w Wz) from fun Wz hz =>
    ⟨by rw [hz.cell (p := ⟨w.heap.size, 1, none⟩) ls]; exact k1, by rw [hz.cell (p := ⟨w.heap.size, 2, none⟩) ls]; exact k2, by rw [hz.cell (p := ⟨w.heap.size, 3, none⟩) ls]; exact k3, by rw [hz.cell (p := ⟨w.heap.size, 4, none⟩) ls]; exact k4, bw.trans (hz.mono (by simp))⟩)
  clear k1 k2 k3 k4 ls bw hua hva hra hlr huc hvc hrc hu hv hr hub hvb hrb ok
  go_enter Try.func37, Try.ntmps37
  go_wp2_with fail
  generalize (w.alloc (.cells #[.string t.name, .slice t.us.a t.us.xs.length t.us.c, .slice t.vs.a t.vs.xs.length t.vs.c, .slice t.ra t.rows.length t.rc, .int .i64 t.side, .int .i64 t.sky] 61)) = W0 at *
  go_loopg [10] (t.us.xs.length - 1) (fun n i' wr => ∃ i : Nat, i ≤ t.us.xs.length - 1 ∧ n = t.us.xs.length - 1 - i ∧ i' = .int .i64 i ∧ Hid (∀ a b, a < i → a + 1 < t.us.xs.length → b + 1 < t.vs.xs.length → ¬ Brk t u v h a b) ∧ Hid (Below W0.heap.size W0 wr))
  case atStart => exact ⟨0, by omega, by omega, rfl, Lib.hid (fun a b ha => absurd ha (by omega)), Lib.hid (Below.refl _ _)⟩
  case round =>
    obtain ⟨i, hi, hn0, rfl, NB, BJ⟩ := hrel
    have HN := Lib.hid hn0
    clear hn0
    obtain ⟨k1, k2, k3, k4, k5⟩ := K.out wr BJ.out
    rw [HEQ.out.1] at k1
    rw [HEQ.out.2.1] at k2
    rw [HEQ.out.2.2.1, HEQ.out.2.2.2] at k3
    by_cases hlt : i + 1 < t.us.xs.length
    · have ei1 : IntKind.i64.wrap ((i : Int) + 1) = ((i + 1 : Nat) : Int) := by rw [IntWalk.i64_in _ (by omega)]; omega
      have t0 : (((i + 1 : Nat) : Int)).toNat = i + 1 := by omega
      have s0 : (0 : Int) ≤ ((i + 1 : Nat) : Int) := by omega
      have s2 : ((i + 1 : Nat) : Int) < (t.us.xs.length : Int) := by omega
      have s4 : (i : Int) < (t.us.xs.length : Int) := by omega
      have s6 : (0 : Int) ≤ (i : Int) := by omega
      have d2 : decide (((i + 1 : Nat) : Int) < (t.us.xs.length : Int)) = true := decide_eq_true s2
      obtain ⟨xb, xo, xc, fx⟩ := FR.out i (by omega)
      obtain ⟨yb, yo, yc, fy⟩ := FR.out (i + 1) hlt
      have FX := Lib.hid fx
      have FY := Lib.hid fy
      clear fx fy
      obtain ⟨m0, m0'⟩ := mulh1 (OK.out.us.lo i (by omega)) (OK.out.us.hi i (by omega)) h0 h1
      obtain ⟨m1, m1'⟩ := mulh1 (OK.out.us.lo (i + 1) hlt) (OK.out.us.hi (i + 1) hlt) h0 h1
      have MU := Lib.hid (And.intro m0 m1')
      have eu0 : IntKind.i64.wrap (nth t.us.xs i * h) = nth t.us.xs i * h := IntWalk.i64_in _ (by omega)
      have eu1 : IntKind.i64.wrap (nth t.us.xs (i + 1) * h) = nth t.us.xs (i + 1) * h := IntWalk.i64_in _ (by omega)
      clear m0 m0' m1 m1'
      go_wp2_with fail
      go_loopg [11] (t.vs.xs.length - 1) (fun n k' W' => ∃ k : Nat, k ≤ t.vs.xs.length - 1 ∧ n = t.vs.xs.length - 1 - k ∧ k' = .int .i64 k ∧ Hid (∀ b, b < k → b + 1 < t.vs.xs.length → ¬ Brk t u v h i b) ∧ Hid (Below W0.heap.size W0 W'))
      case atStart => exact ⟨0, by omega, by omega, rfl, Lib.hid (fun b hb => absurd hb (by omega)), BJ⟩
      case round =>
        clear BJ k1 k2 k3 k4 k5
        obtain ⟨k, hk, hn0, rfl, NC, BJ⟩ := hrel
        have HN2 := Lib.hid hn0
        clear hn0
        obtain ⟨k1, k2, k3, k4, k5⟩ := K.out wr BJ.out
        rw [HEQ.out.1] at k1
        rw [HEQ.out.2.1] at k2
        rw [HEQ.out.2.2.1, HEQ.out.2.2.2] at k3
        obtain ⟨r0, fx0⟩ := FX.out wr k5
        obtain ⟨r1, fy0⟩ := FY.out wr k5
        have FXW := Lib.hid fx0
        have FYW := Lib.hid fy0
        clear fx0 fy0
        have cu0 := FU.out wr k5 i (by omega)
        have cu1 := FU.out wr k5 (i + 1) hlt
        have HK5 := Lib.hid k5
        clear k5 k4
        by_cases hlt2 : k + 1 < t.vs.xs.length
        · have ek1 : IntKind.i64.wrap ((k : Int) + 1) = ((k + 1 : Nat) : Int) := by rw [IntWalk.i64_in _ (by omega)]; omega
          have t1 : (((k + 1 : Nat) : Int)).toNat = k + 1 := by omega
          have s1 : (0 : Int) ≤ ((k + 1 : Nat) : Int) := by omega
          have s3 : ((k + 1 : Nat) : Int) < (t.vs.xs.length : Int) := by omega
          have s5 : (k : Int) < (t.vs.xs.length : Int) := by omega
          have s7 : (0 : Int) ≤ (k : Int) := by omega
          have d3 : decide (((k + 1 : Nat) : Int) < (t.vs.xs.length : Int)) = true := decide_eq_true s3
          have cv0 := FV.out wr HK5.out k (by omega)
          have cv1 := FV.out wr HK5.out (k + 1) hlt2
          obtain ⟨m0, m0'⟩ := mulh1 (OK.out.vs.lo k (by omega)) (OK.out.vs.hi k (by omega)) h0 h1
          obtain ⟨m1, m1'⟩ := mulh1 (OK.out.vs.lo (k + 1) hlt2) (OK.out.vs.hi (k + 1) hlt2) h0 h1
          have MV := Lib.hid (And.intro m0 m1')
          have ev0 : IntKind.i64.wrap (nth t.vs.xs k * h) = nth t.vs.xs k * h := IntWalk.i64_in _ (by omega)
          have ev1 : IntKind.i64.wrap (nth t.vs.xs (k + 1) * h) = nth t.vs.xs (k + 1) * h := IntWalk.i64_in _ (by omega)
          clear m0 m0' m1 m1'
          go_wp2_with fail
          go_quiet (fail)
          have e7 := ((Own.refl wr.heap.size wr).drewN nq).below
          have BJ2 := Lib.hid (BJ.out.trans (e7.mono BJ.out.size))
          have fx0 := FXW.out k (by omega)
          have fx1 := FXW.out (k + 1) hlt2
          have fy0 := FYW.out k (by omega)
          have fy1 := FYW.out (k + 1) hlt2
          clear e7 BJ
          by_cases hA : nth t.us.xs i * h ≤ u
          rotate_left
          · have dA : decide (u < nth t.us.xs i * h) = true := decide_eq_true (by omega)
            go_wp2_with fail
            go_roundg (t.vs.xs.length - 1 - (k + 1))
            case measure => have := HN2.out; omega
            case rel => exact ⟨k + 1, by omega, rfl, by first | rfl | go_num, Lib.hid (fun b hb hb2 => by
                rcases (show b < k ∨ b = k by omega) with hb' | rfl
                · exact NC.out b hb' hb2
                · exact fun g => by have := g.1; omega), BJ2⟩
          have dA : decide (u < nth t.us.xs i * h) = false := decide_eq_false (by omega)
          by_cases hB : u ≤ nth t.us.xs (i + 1) * h
          rotate_left
          · have dB : decide (nth t.us.xs (i + 1) * h < u) = true := decide_eq_true (by omega)
            go_wp2_with fail
            go_roundg (t.vs.xs.length - 1 - (k + 1))
            case measure => have := HN2.out; omega
            case rel => exact ⟨k + 1, by omega, rfl, by first | rfl | go_num, Lib.hid (fun b hb hb2 => by
                rcases (show b < k ∨ b = k by omega) with hb' | rfl
                · exact NC.out b hb' hb2
                · exact fun g => by have := g.2.1; omega), BJ2⟩
          have dB : decide (nth t.us.xs (i + 1) * h < u) = false := decide_eq_false (by omega)
          by_cases hC : nth t.vs.xs k * h ≤ v
          rotate_left
          · have dC : decide (v < nth t.vs.xs k * h) = true := decide_eq_true (by omega)
            go_wp2_with fail
            go_roundg (t.vs.xs.length - 1 - (k + 1))
            case measure => have := HN2.out; omega
            case rel => exact ⟨k + 1, by omega, rfl, by first | rfl | go_num, Lib.hid (fun b hb hb2 => by
                rcases (show b < k ∨ b = k by omega) with hb' | rfl
                · exact NC.out b hb' hb2
                · exact fun g => by have := g.2.2.1; omega), BJ2⟩
          have dC : decide (v < nth t.vs.xs k * h) = false := decide_eq_false (by omega)
          by_cases hD : v ≤ nth t.vs.xs (k + 1) * h
          rotate_left
          · have dD : decide (nth t.vs.xs (k + 1) * h < v) = true := decide_eq_true (by omega)
            go_wp2_with fail
            go_roundg (t.vs.xs.length - 1 - (k + 1))
            case measure => have := HN2.out; omega
            case rel => exact ⟨k + 1, by omega, rfl, by first | rfl | go_num, Lib.hid (fun b hb hb2 => by
                rcases (show b < k ∨ b = k by omega) with hb' | rfl
                · exact NC.out b hb' hb2
                · exact fun g => by have := g.2.2.2; omega), BJ2⟩
          have dD : decide (nth t.vs.xs (k + 1) * h < v) = false := decide_eq_false (by omega)
          have hlr := OK.out.rows
          have v0 := fun a b (ha : a < t.us.xs.length) (hb : b < t.vs.xs.length) => (show 0 ≤ tval t a b ∧ tval t a b ≤ 5000 from ⟨OK.out.v0 a b (by omega) hb, SM.out.1 a b ha hb⟩)
          obtain ⟨z1, z2, z3, z4, z5, z6, z7, z8, z9, za⟩ := exact_bd MU.out.1 MU.out.2 MV.out.1 MV.out.2 hA hB hC hD (v0 i k (by omega) (by omega)) (v0 i (k + 1) (by omega) hlt2) (v0 (i + 1) k hlt (by omega)) (v0 (i + 1) (k + 1) hlt hlt2)
          have yb : IntKind.i64.wrap (nth t.us.xs (i + 1) * h - u) = nth t.us.xs (i + 1) * h - u := IntWalk.i64_in _ (by have := MU.out; omega)
          have yc' : IntKind.i64.wrap (u - nth t.us.xs i * h) = u - nth t.us.xs i * h := IntWalk.i64_in _ (by have := MU.out; omega)
          have yd : IntKind.i64.wrap (nth t.vs.xs (k + 1) * h - v) = nth t.vs.xs (k + 1) * h - v := IntWalk.i64_in _ (by have := MV.out; omega)
          have ye : IntKind.i64.wrap (v - nth t.vs.xs k * h) = v - nth t.vs.xs k * h := IntWalk.i64_in _ (by have := MV.out; omega)
          have yf : IntKind.i64.wrap (nth t.us.xs (i + 1) * h - nth t.us.xs i * h) = nth t.us.xs (i + 1) * h - nth t.us.xs i * h := IntWalk.i64_in _ (by have := MU.out; omega)
          have yg : IntKind.i64.wrap (nth t.vs.xs (k + 1) * h - nth t.vs.xs k * h) = nth t.vs.xs (k + 1) * h - nth t.vs.xs k * h := IntWalk.i64_in _ (by have := MV.out; omega)
          have HBR := Lib.hid (show Brk t u v h i k from ⟨hA, hB, hC, hD⟩)
          have GT : Hid (bilT t h i k u v = (nth t.us.xs (i + 1) * h - u) * ((nth t.vs.xs (k + 1) * h - v) * tval t i k + (v - nth t.vs.xs k * h) * tval t i (k + 1)) + (u - nth t.us.xs i * h) * ((nth t.vs.xs (k + 1) * h - v) * tval t (i + 1) k + (v - nth t.vs.xs k * h) * tval t (i + 1) (k + 1))) := rfl
          have GD : Hid (bilD t h i k = (nth t.us.xs (i + 1) * h - nth t.us.xs i * h) * (nth t.vs.xs (k + 1) * h - nth t.vs.xs k * h)) := rfl
          clear hA hB hC hD v0 hlr
          go_wp2_with fail
          go_quiet (fail)
          go_wp2_with fail
          go_ret2
          exact ⟨⟨_, _, rfl, .inl ⟨i, k, hlt, hlt2, HBR.out, GT.out.symm, GD.out.symm⟩⟩, HK5.out.trans (((Own.refl wr.heap.size wr).drewN _).below.mono HK5.out.size)⟩
        · obtain rfl : k = t.vs.xs.length - 1 := by omega
          have e2 : ¬ (((t.vs.xs.length - 1 : Nat) : Int)) + 1 < (t.vs.xs.length : Int) := by omega
          have e3 : decide ((((t.vs.xs.length - 1 : Nat) : Int)) + 1 < (t.vs.xs.length : Int)) = false := decide_eq_false e2
          go_wp2_with fail
          go_roundg (t.us.xs.length - 1 - (i + 1))
          case measure => have := HN.out; omega
          case rel => exact ⟨i + 1, by omega, rfl, by first | rfl | go_num, Lib.hid (fun a b ha ha2 hb => by
              rcases (show a < i ∨ a = i by omega) with ha' | rfl
              · exact NB.out a b ha' ha2 hb
              · exact NC.out b (by omega) hb), BJ⟩
    · obtain rfl : i = t.us.xs.length - 1 := by omega
      have e2 : ¬ (((t.us.xs.length - 1 : Nat) : Int)) + 1 < (t.us.xs.length : Int) := by omega
      have e3 : decide ((((t.us.xs.length - 1 : Nat) : Int)) + 1 < (t.us.xs.length : Int)) = false := decide_eq_false e2
      have HK5 := Lib.hid k5
      clear k5
      go_wp2_with fail
      go_ret2
      exact ⟨⟨0, 0, rfl, .inr ⟨rfl, rfl, HB.out (fun a b ha hb => NB.out a b (by omega) ha hb)⟩⟩, HK5.out⟩
end Go.Proofs.Ythmelkakgbchbaa
