/- The reference's inside, below and between. -/
import Derived.Test.YtgmpipciinphiaaBxs
import Derived.Test.YtgmpipciinphiaaRsm
namespace Go.Proofs.Ytgmpipciinphiaa
set_option linter.unusedSimpArgs false
set_option linter.unusedVariables false
open Go.RowKit
attribute [local go_sem ↓] Go.wp_at_zero Go.wp_at_succ

/-- the last tangent but one that is at most x, among the first n -/
def blwN (us : List Int) (x h : Int) : Nat → Nat
  | 0 => 0
  | n + 1 => if nth us n * h ≤ x then n else blwN us x h n
theorem blwN_eq {us : List Int} (ok : ListOk us) {x h : Int} (h0 : 1 ≤ h) (h1 : h ≤ 30000) (hx : inB2 us h x x = true) : blwN us x h (us.length - 1) = plcAt us x h := by
  obtain ⟨_, k1, k2, k3⟩ := plc_ok ok h0 h1 hx
  have n0 := ok.n0
  have e : plcI us x h 0 (us.length - 2) = plcAt us x h := rfl
  have hhi := plcI_hi us x h (us.length - 2) 0
  have hle := plcI_le us x h (us.length - 2) 0
  rw [e] at hhi hle
  have key : ∀ n, plcAt us x h < n → n ≤ us.length - 1 → blwN us x h n = plcAt us x h := by
    intro n
    induction n with
    | zero => intro h; omega
    | succ n ih =>
      intro hn hl
      unfold blwN
      by_cases hp : n = plcAt us x h
      · rw [hp, if_pos k2]
      · have hlt : plcAt us x h < n := by omega
        have hx' := hhi (by omega)
        have hm : nth us (plcAt us x h + 1) * h ≤ nth us n * h := Int.mul_le_mul_of_nonneg_right (nth_le ok.up (by omega) (by omega)) (by omega)
        rw [if_neg (by omega)]
        exact ih hlt (by omega)
  exact key _ (by omega) (Nat.le_refl _)

set_option maxHeartbeats 2000000 in
theorem rbelow_any (A : Option Addr) (c : Nat) (us : List Int) (x h : Int) (w : World) (hu : IntsIn w.heap.size A us w) (ok : ListOk us) (h0 : 1 ≤ h) (h1 : h ≤ 30000) :
    Calls Try.prog 80 #[.slice A us.length c, .int .i64 x, .int .i64 h] w fun e w' => e = .returned (.int .i64 (blwN us x h (us.length - 1))) ∧ w = w' := by
  have hm := hu.1
  unfold maxLen at hm
  have n0 := ok.n0
  have n1 := ok.n1
  obtain ⟨b, o, rfl, hb, hc⟩ := hu.2 (by omega)
  have HC := Lib.hid hc
  clear hc hu
  go_enter Try.func80, Try.ntmps80
  go_wp2_with fail
  go_loopg [7, 8] (us.length - 1) (fun n a' i' wr => ∃ i : Nat, i ≤ us.length - 1 ∧ n = us.length - 1 - i ∧ i' = .int .i64 i ∧ a' = .int .i64 (blwN us x h i) ∧ w = wr)
  case atStart => exact ⟨0, by omega, by omega, rfl, rfl, rfl⟩
  case round =>
    obtain ⟨i, hi, hn0, rfl, rfl, rfl⟩ := hrel
    have HN := Lib.hid hn0
    clear hn0
    by_cases hlt : i < us.length - 1
    · have c0 := HC.out i (by omega)
      obtain ⟨m0, m1⟩ := mulh (ok.lo i (by omega)) (ok.hi i (by omega)) h0 h1
      have e1 : IntKind.i64.wrap (nth us i * h) = nth us i * h := IntWalk.i64_in _ (by omega)
      have e2 : (i : Int) + 1 < (us.length : Int) := by omega
      have e3 : (i : Int) < (us.length : Int) := by omega
      by_cases hx : nth us i * h ≤ x
      · have HB : Hid (blwN us x h (i + 1) = i) := if_pos hx
        go_wp2_with fail
        go_roundg (us.length - 1 - (i + 1))
        case measure => have := HN.out; omega
        case rel => exact ⟨i + 1, by omega, rfl, by go_num, by rw [HB.out], rfl⟩
      · have HB : Hid (blwN us x h (i + 1) = blwN us x h i) := if_neg hx
        go_wp2_with fail
        go_roundg (us.length - 1 - (i + 1))
        case measure => have := HN.out; omega
        case rel => exact ⟨i + 1, by omega, rfl, by go_num, by rw [HB.out], rfl⟩
    · obtain rfl : i = us.length - 1 := by omega
      have e2 : ¬ ((us.length - 1 : Nat) : Int) + 1 < (us.length : Int) := by omega
      go_wp2_with fail
      go_ret
      exact ⟨rfl, rfl⟩

set_option maxHeartbeats 1000000 in
theorem rbetween_any (x y a b u h : Int) (w : World) (x0 : 0 ≤ x) (x1 : x ≤ 10000000) (y0 : 0 ≤ y) (y1 : y ≤ 10000000) (a0 : -5000 ≤ a) (a1 : a ≤ 5000) (b0 : -5000 ≤ b) (b1 : b ≤ 5000) (h0 : 1 ≤ h) (h1 : h ≤ 30000)
    (u0 : a * h ≤ u) (u1 : u ≤ b * h) :
    Calls Try.prog 81 #[.int .i64 x, .int .i64 y, .int .i64 a, .int .i64 b, .int .i64 u, .int .i64 h] w fun e w' => e = .returned (.tuple #[.int .i64 (x * (b * h - u) + y * (u - a * h)), .int .i64 ((b - a) * h)]) ∧ w = w' := by
  obtain ⟨m0, m1⟩ := mulh a0 a1 h0 h1
  obtain ⟨k0, k1⟩ := mulh b0 b1 h0 h1
  have e1 : IntKind.i64.wrap (b * h) = b * h := IntWalk.i64_in _ (by omega)
  have e2 : IntKind.i64.wrap (a * h) = a * h := IntWalk.i64_in _ (by omega)
  have e3 : IntKind.i64.wrap (b * h - u) = b * h - u := IntWalk.i64_in _ (by omega)
  have e4 : IntKind.i64.wrap (u - a * h) = u - a * h := IntWalk.i64_in _ (by omega)
  have p1 := Int.mul_nonneg x0 (show 0 ≤ b * h - u by omega)
  have p2 := Int.mul_nonneg y0 (show 0 ≤ u - a * h by omega)
  have p3 : x * (b * h - u) ≤ 10000000 * 300000000 := Int.mul_le_mul x1 (by omega) (by omega) (by omega)
  have p4 : y * (u - a * h) ≤ 10000000 * 300000000 := Int.mul_le_mul y1 (by omega) (by omega) (by omega)
  have e5 : IntKind.i64.wrap (x * (b * h - u)) = x * (b * h - u) := IntWalk.i64_in _ (by omega)
  have e6 : IntKind.i64.wrap (y * (u - a * h)) = y * (u - a * h) := IntWalk.i64_in _ (by omega)
  have e7 : IntKind.i64.wrap (x * (b * h - u) + y * (u - a * h)) = x * (b * h - u) + y * (u - a * h) := IntWalk.i64_in _ (by omega)
  have e8 : IntKind.i64.wrap (b - a) = b - a := IntWalk.i64_in _ (by omega)
  have e9 : IntKind.i64.wrap ((b - a) * h) = (b - a) * h := IntWalk.i64_in _ (by rw [Int.sub_mul]; omega)
  clear m0 m1 k0 k1 p1 p2 p3 p4 u0 u1
  go_enter Try.func81, Try.ntmps81
  go_wp2_with fail
  go_ret2
  exact ⟨rfl, rfl⟩

/-- whether a direction is in a table -/
def insB (t : Tab) (u v h : Int) : Bool := inB2 t.us.xs h u u && inB2 t.vs.xs h v v
theorem insB_no1 {t : Tab} {u v h : Int} (g : ¬ nth t.us.xs 0 * h ≤ u) : insB t u v h = false := by unfold insB inB2; rw [decide_eq_false (fun hh => g hh.1)]; rfl
theorem insB_no2 {t : Tab} {u v h : Int} (g : ¬ u ≤ nth t.us.xs (t.us.xs.length - 1) * h) : insB t u v h = false := by unfold insB inB2; rw [decide_eq_false (fun hh => g hh.2)]; rfl
theorem insB_no3 {t : Tab} {u v h : Int} (g : ¬ nth t.vs.xs 0 * h ≤ v) : insB t u v h = false := by unfold insB; rw [show inB2 t.vs.xs h v v = false from decide_eq_false (fun hh => g hh.1)]; simp
theorem insB_no4 {t : Tab} {u v h : Int} (g : ¬ v ≤ nth t.vs.xs (t.vs.xs.length - 1) * h) : insB t u v h = false := by unfold insB; rw [show inB2 t.vs.xs h v v = false from decide_eq_false (fun hh => g hh.2)]; simp
theorem insB_yes {t : Tab} {u v h : Int} (g0 : nth t.us.xs 0 * h ≤ u) (g1 : u ≤ nth t.us.xs (t.us.xs.length - 1) * h) (g2 : nth t.vs.xs 0 * h ≤ v) (g3 : v ≤ nth t.vs.xs (t.vs.xs.length - 1) * h) : insB t u v h = true := by
  unfold insB; rw [show inB2 t.us.xs h u u = true from decide_eq_true ⟨g0, g1⟩, show inB2 t.vs.xs h v v = true from decide_eq_true ⟨g2, g3⟩]; rfl

set_option maxRecDepth 100000 in
set_option maxHeartbeats 2000000 in
theorem rinside_any (t : Tab) (u v h : Int) (w : World) (ok : TabOk t) (hu : IntsIn w.heap.size t.us.a t.us.xs w) (hv : IntsIn w.heap.size t.vs.a t.vs.xs w) (h0 : 1 ≤ h) (h1 : h ≤ 30000) :
    Calls Try.prog 79 #[.agg #[.string t.name, .slice t.us.a t.us.xs.length t.us.c, .slice t.vs.a t.vs.xs.length t.vs.c, .slice t.ra t.rows.length t.rc, .int .i64 t.side, .int .i64 t.sky], .int .i64 u, .int .i64 v, .int .i64 h] w fun e w' => e = .returned (.bool (insB t u v h)) ∧ Own w.heap.size w w' := by
  have own0 : Own w.heap.size w (w.alloc (.cells #[.string t.name, .slice t.us.a t.us.xs.length t.us.c, .slice t.vs.a t.vs.xs.length t.vs.c, .slice t.ra t.rows.length t.rc, .int .i64 t.side, .int .i64 t.sky] 61)) := (Own.refl _ _).alloc (Nat.le_refl _) _
  have n0 := ok.us.n0
  have n1 := ok.us.n1
  have n2 := ok.vs.n0
  have n3 := ok.vs.n1
  obtain ⟨b, o, ha, hb, hc⟩ := hu.2 (by omega)
  obtain ⟨b', o', ha', hb', hc'⟩ := hv.2 (by omega)
  have c0 := hc 0 (by omega)
  have c1 := hc (t.us.xs.length - 1) (by omega)
  have c2 := hc' 0 (by omega)
  have c3 := hc' (t.vs.xs.length - 1) (by omega)
  rw [Nat.add_zero] at c0 c2
  clear hc hc' hu hv
  rw [ha, ha'] at own0 ⊢
  clear ha ha'
  have hne : b ≠ w.heap.size := by omega
  have hne' : b' ≠ w.heap.size := by omega
  obtain ⟨m0, m1⟩ := mulh (ok.us.lo 0 (by omega)) (ok.us.hi 0 (by omega)) h0 h1
  obtain ⟨m2, m3⟩ := mulh (ok.us.lo (t.us.xs.length - 1) (by omega)) (ok.us.hi (t.us.xs.length - 1) (by omega)) h0 h1
  obtain ⟨m4, m5⟩ := mulh (ok.vs.lo 0 (by omega)) (ok.vs.hi 0 (by omega)) h0 h1
  obtain ⟨m6, m7⟩ := mulh (ok.vs.lo (t.vs.xs.length - 1) (by omega)) (ok.vs.hi (t.vs.xs.length - 1) (by omega)) h0 h1
  have e1 : IntKind.i64.wrap (nth t.us.xs 0 * h) = nth t.us.xs 0 * h := IntWalk.i64_in _ (by omega)
  have e2 : IntKind.i64.wrap (nth t.us.xs (t.us.xs.length - 1) * h) = nth t.us.xs (t.us.xs.length - 1) * h := IntWalk.i64_in _ (by omega)
  have e3 : IntKind.i64.wrap (nth t.vs.xs 0 * h) = nth t.vs.xs 0 * h := IntWalk.i64_in _ (by omega)
  have e4 : IntKind.i64.wrap (nth t.vs.xs (t.vs.xs.length - 1) * h) = nth t.vs.xs (t.vs.xs.length - 1) * h := IntWalk.i64_in _ (by omega)
  have l1 : IntKind.i64.wrap ((t.us.xs.length : Int) - 1) = ((t.us.xs.length - 1 : Nat) : Int) := by rw [IntWalk.i64_in _ (by omega)]; omega
  have l2 : IntKind.i64.wrap ((t.vs.xs.length : Int) - 1) = ((t.vs.xs.length - 1 : Nat) : Int) := by rw [IntWalk.i64_in _ (by omega)]; omega
  have l3 : (0 : Int) ≤ ((t.us.xs.length - 1 : Nat) : Int) := by omega
  have l4 : (0 : Int) ≤ ((t.vs.xs.length - 1 : Nat) : Int) := by omega
  have l5 : (((t.us.xs.length - 1 : Nat) : Int)).toNat = t.us.xs.length - 1 := by omega
  have l6 : (((t.vs.xs.length - 1 : Nat) : Int)).toNat = t.vs.xs.length - 1 := by omega
  have l7 : ((t.us.xs.length - 1 : Nat) : Int) < (t.us.xs.length : Int) := by omega
  have l8 : ((t.vs.xs.length - 1 : Nat) : Int) < (t.vs.xs.length : Int) := by omega
  have l9 : (0 : Int) < (t.us.xs.length : Int) := by omega
  have l10 : (0 : Int) < (t.vs.xs.length : Int) := by omega
  clear m0 m1 m2 m3 m4 m5 m6 m7
  by_cases g0 : nth t.us.xs 0 * h ≤ u
  · by_cases g1 : u ≤ nth t.us.xs (t.us.xs.length - 1) * h
    · by_cases g2 : nth t.vs.xs 0 * h ≤ v
      · by_cases g3 : v ≤ nth t.vs.xs (t.vs.xs.length - 1) * h
        · have HF := Lib.hid (insB_yes g0 g1 g2 g3)
          go_enter Try.func79, Try.ntmps79
          go_wp2_with fail
          go_ret
          exact ⟨by rw [HF.out]; rfl, own0⟩
        · have HF := Lib.hid (insB_no4 (u := u) g3)
          go_enter Try.func79, Try.ntmps79
          go_wp2_with fail
          go_ret
          exact ⟨by rw [HF.out]; rfl, own0⟩
      · have HF := Lib.hid (insB_no3 (u := u) g2)
        go_enter Try.func79, Try.ntmps79
        go_wp2_with fail
        go_ret
        exact ⟨by rw [HF.out]; rfl, own0⟩
    · have HF := Lib.hid (insB_no2 (v := v) g1)
      go_enter Try.func79, Try.ntmps79
      go_wp2_with fail
      go_ret
      exact ⟨by rw [HF.out]; rfl, own0⟩
  · have HF := Lib.hid (insB_no1 (v := v) g0)
    go_enter Try.func79, Try.ntmps79
    go_wp2_with fail
    go_ret
    exact ⟨by rw [HF.out]; rfl, own0⟩
end Go.Proofs.Ytgmpipciinphiaa
