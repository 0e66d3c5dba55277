/- Sines of the code. -/
import Derived.Shelf.Bits.Mul64
import Derived.Test.YtjcgojbfjefbcaaDoorProg
import Derived.WalkKit
import Derived.WalkSpells
import Derived.WalkLawsBesides
import Derived.Sort.Grow
import Derived.BigQuiet
import Derived.Deep.QuietTactic
import Derived.OneCell
import Derived.Test.YtjcgojbfjefbcaaDoorA1

/- The contract of math/bits.Mul64, at this program. -/
namespace Go.Proofs
set_option linter.unusedSimpArgs false
set_option linter.unusedVariables false
open Go.Shelf
def Tryd.lays264_ren : Go.Shelf.Ren := ⟨fun | 264 => 130 | n => n, fun | 53 => 177 | 46 => 182 | n => n, fun | n => n⟩
theorem Tryd.lays264 : Go.Proofs.Lays.n264 Tryd.prog Tryd.lays264_ren := {
  mixed := by kernel_rfl
  f264 := Tryd.func130.trans (congrArg some (by kernel_rfl))
  t46 := Tryd.underlying182
  a46 := Tryd.isAgg182
  z46 := Tryd.sizeOf182
  v46 := Tryd.zeroValue182
  t53 := Tryd.underlying177
  a53 := Tryd.isAgg177
  z53 := Tryd.sizeOf177
  v53 := Tryd.zeroValue177 }
open Go.RowKit Go.Lib in
theorem Tryd.bits_Mul64 (x y : Nat) (hx : x < 18446744073709551616) (hy : y < 18446744073709551616) (w : World) :
    Calls Tryd.prog 130 #[.int .u64 x, .int .u64 y] w fun e w' => e = .returned (.tuple #[.int .u64 ((x * y / 18446744073709551616 : Nat) : Int), .int .u64 ((x * y % 18446744073709551616 : Nat) : Int)]) ∧ w' = w := Any.bits_Mul64 Tryd.lays264 x y hx hy w
end Go.Proofs

/- Words that the walks share: what a call leaves as it was. -/
namespace Go.Proofs.YtjcgojbfjefbcaaDoor
set_option linter.unusedSimpArgs false
set_option linter.unusedVariables false
open Go.RowKit Go.Sort

/-- below B the world is as it was, and no draw has been taken back -/
structure Own (B : Nat) (w w' : World) : Prop where
  below : Below B w w'
  drawn : w.drawn ≤ w'.drawn

theorem Own.refl (B : Nat) (w : World) : Own B w w := ⟨Below.refl _ _, Nat.le_refl _⟩
theorem Own.trans {B : Nat} {a b c : World} (h : Own B a b) (k : Own B b c) : Own B a c := ⟨h.below.trans k.below, Nat.le_trans h.drawn k.drawn⟩
theorem Own.mono {B B' : Nat} {w w' : World} (h : Own B w w') (hB : B' ≤ B) : Own B' w w' := ⟨h.below.mono hB, h.drawn⟩
theorem Own.drew {B : Nat} {a w : World} (h : Own B a w) : Own B a w.drew := ⟨h.below.drew, Nat.le_succ_of_le h.drawn⟩
theorem Own.alloc {B : Nat} {a w : World} (h : Own B a w) (hB : B ≤ w.heap.size) (o : Obj) : Own B a (w.alloc o) := ⟨h.below.alloc hB o, h.drawn⟩
theorem Own.setCell {B : Nat} {a w : World} (h : Own B a w) {p : Addr} (hp : B ≤ p.block) (u : Value) : Own B a (w.setCell p u) := ⟨h.below.setCell hp u, h.drawn⟩
theorem Own.size {B : Nat} {w w' : World} (h : Own B w w') : w.heap.size ≤ w'.heap.size := h.below.size
theorem Own.cell {B : Nat} {w w' : World} (h : Own B w w') {p : Addr} (hp : p.block < B) : w'.cell? p = w.cell? p := h.below.cell hp
theorem Own.frozen {B : Nat} {w w' : World} (h : Own B w w') {p : Addr} (hp : p.block < B) : w'.frozen? p = w.frozen? p := h.below.frozen hp

theorem drewN_drawn (w : World) (q : Nat) : w.drewN q = { w with drawn := w.drawn + q } := rfl

/-- it is the old world with new blocks, and draws -/
theorem Own.grown {w w' : World} (h : Own w.heap.size w w') : ∃ q os, w' = grow (w.drewN q) os := by
  refine ⟨w'.drawn - w.drawn, w'.heap.extract w.heap.size w'.heap.size, ?_⟩
  obtain ⟨⟨h1, h2, h3, h4, h5⟩, h6⟩ := h
  rw [drewN_drawn]
  have e : w'.heap = w.heap ++ w'.heap.extract w.heap.size w'.heap.size := by
    apply Array.ext_getElem?
    intro k
    by_cases hk : k < w.heap.size
    · rw [h5 k hk, Array.getElem?_append_left hk]
    · rw [Array.getElem?_append_right (by omega), Array.getElem?_extract]
      by_cases hk2 : k < w'.heap.size
      · rw [if_pos (by omega)]; congr 1; omega
      · rw [if_neg (by omega)]; exact Array.getElem?_eq_none (by omega)
  unfold grow
  cases w'
  simp only at *
  subst h1 h2 h3
  rw [← e]
  congr 1
  omega

theorem ret_int {k : IntKind} {a b : Int} (h : a = b) : Ending.returned (.int k a) = .returned (.int k b) := by rw [h]
theorem ret_bool {a b : Bool} (h : a = b) : Ending.returned (.bool a) = .returned (.bool b) := by rw [h]
theorem beq_no {a b : Int} (h : a ≠ b) : (a == b) = false := by simp [h]
theorem bcell {W w1 : World} (hb : Own W.heap.size W w1) : (∀ b o, b < W.heap.size → w1.cell? ⟨b, o, none⟩ = W.cell? ⟨b, o, none⟩) ∧ (∀ b o, b < W.heap.size → w1.frozen? ⟨b, o, none⟩ = W.frozen? ⟨b, o, none⟩) :=
  ⟨fun b o h => hb.cell (p := ⟨b, o, none⟩) h, fun b o h => hb.frozen (p := ⟨b, o, none⟩) h⟩
end Go.Proofs.YtjcgojbfjefbcaaDoor

/- The numbers of angles: reduced, mirrored, hundredMillionths, as the code computes them. -/
namespace Go.Proofs.YtjcgojbfjefbcaaDoor
set_option linter.unusedSimpArgs false
set_option linter.unusedVariables false
open Go.RowKit SineNear

set_option maxHeartbeats 400000 in
theorem mirrored_any (a : Int) (w : World) (h0 : 0 ≤ a) (h1 : a ≤ 180000000) :
    Calls Tryd.prog 114 #[.int .i64 a] w fun e w' => e = .returned (.int .i64 (min a (180000000 - a))) ∧ w = w' := by
  go_enter Tryd.func114, Tryd.ntmps114
  go_wp2
  all_goals go_ret
  all_goals exact ⟨ret_int (by omega), rfl⟩

set_option maxHeartbeats 400000 in
theorem reduced_any (a : Int) (w : World) (h0 : -9000000000000 ≤ a) (h1 : a ≤ 9000000000000) :
    Calls Tryd.prog 112 #[.int .i64 a] w fun e w' => e = .returned (.int .i64 (a % 360000000)) ∧ w = w' := by
  by_cases ha : 0 ≤ a
  · go_enter Tryd.func112, Tryd.ntmps112
    go_wp2
    go_ret
    exact ⟨rfl, rfl⟩
  · have e : a.tmod 360000000 = -((-a) % 360000000) := by
      rw [← Int.tmod_eq_emod_of_nonneg (by omega), Int.neg_tmod, Int.neg_neg]
    go_enter Tryd.func112, Tryd.ntmps112
    go_wp2
    all_goals go_ret
    all_goals exact ⟨ret_int (by omega), rfl⟩

theorem mul64 (x y : Int) (hx0 : 0 ≤ x) (hx : x < 18446744073709551616) (hy0 : 0 ≤ y) (hy : y < 18446744073709551616) (w : World) :
    Calls Tryd.prog 130 #[.int .u64 x, .int .u64 y] w fun e w' => e = .returned (.tuple #[.int .u64 (x * y / 18446744073709551616), .int .u64 (x * y % 18446744073709551616)]) ∧ w = w' := by
  obtain ⟨a, rfl⟩ := Int.eq_ofNat_of_zero_le hx0
  obtain ⟨b, rfl⟩ := Int.eq_ofNat_of_zero_le hy0
  refine (Tryd.bits_Mul64 a b (by omega) (by omega) w).mono ?_
  rintro e w' ⟨rfl, rfl⟩
  exact ⟨by simp, rfl⟩

theorem or_shift (k : Nat) (K x y : Int) (hK : K = ((2^k : Nat) : Int)) (hx : 0 ≤ x) (hy : 0 ≤ y) (hyk : y < K) (hs : x * K < 18446744073709551616) (hy2 : y < 18446744073709551616) :
    bits .or .u64 (x * K) y = x * K + y := by
  subst hK
  obtain ⟨a, rfl⟩ := Int.eq_ofNat_of_zero_le hx
  obtain ⟨b, rfl⟩ := Int.eq_ofNat_of_zero_le hy
  have h1 : b < 2^k := by omega
  have h2 : a * 2^k < 18446744073709551616 := by
    have : ((a * 2^k : Nat) : Int) < 18446744073709551616 := by rw [Int.natCast_mul]; exact hs
    omega
  rw [← Int.natCast_mul, bits_or_u64_nat _ _ h2 (by omega), Nat.mul_comm, ← Nat.two_pow_add_eq_or_of_lt h1, Int.natCast_add]

set_option maxHeartbeats 400000 in
theorem hundred_any (s : Int) (w : World) (h0 : 0 ≤ s) (h1 : s < 18446744073709551616) :
    Calls Tryd.prog 126 #[.int .u64 s] w fun e w' => e = .returned (.int .i64 (s * 100000000 / 9223372036854775808)) ∧ w = w' := by
  go_enter Tryd.func126, Tryd.ntmps126
  go_wp2_with (go_at_call 130; refine (mul64 _ _ (by omega) (by omega) (by omega) (by omega) _).mono ?_; rintro e w' ⟨rfl, rfl⟩)
  go_ret
  refine ⟨ret_int ?_, rfl⟩
  rw [or_shift 1 2 _ _ (by decide) (by omega) (by omega) (by omega) (by omega) (by omega)]
  rw [show wrap64 (s * 100000000 / 18446744073709551616 * 2 + s * 100000000 % 18446744073709551616 / 9223372036854775808) = s * 100000000 / 18446744073709551616 * 2 + s * 100000000 % 18446744073709551616 / 9223372036854775808 from IntWalk.wrap64_in _ ⟨by omega, by omega⟩]
  omega

theorem cX_or (a : Int) (h0 : 0 ≤ a) (h1 : a ≤ 90000000) : bits .or .u64 (a * 10803064813898918630 / 18446744073709551616 * 274877906944) (a * 10803064813898918630 % 18446744073709551616 / 67108864) = cX a := by
  rw [or_shift 38 274877906944 _ _ (by decide) (by omega) (by omega) (by omega) (by omega) (by omega)]
  show _ = a * 10803064813898918630 / 67108864
  omega

theorem or_63 (t : Int) (h0 : 0 ≤ t) (h1 : t < 170141183460469231731687303715884105728) : bits .or .u64 (t / 18446744073709551616 * 2) (t % 18446744073709551616 / 9223372036854775808) = t / 9223372036854775808 := by
  rw [or_shift 1 2 _ _ (by decide) (by omega) (by omega) (by omega) (by omega) (by omega)]
  omega

/-- what a round of the series does -/
theorem cRound (a : Int) (h0 : 0 ≤ a) (h1 : a ≤ 90000000) (i : Nat) (hi : i < 12) : ∃ d : Int, IntKind.u64.wrap ((12 - (i:Int)) * (2 * (12 - (i:Int)) + 1)) = d ∧ 3 ≤ d ∧
    cLoop (cQ a) (i+1) = 9223372036854775808 - cQ a * cLoop (cQ a) i / 9223372036854775808 / d ∧
    0 ≤ cQ a * cLoop (cQ a) i / 9223372036854775808 / d ∧ cQ a * cLoop (cQ a) i / 9223372036854775808 / d ≤ 9223372036854775808 := by
  obtain ⟨q0, q1⟩ := cQ_bd a h0 h1
  obtain ⟨b0, b1⟩ := cLoop_bd (cQ a) q0 q1 (i+1) (by omega)
  obtain ⟨c0, c1⟩ := cLoop_bd (cQ a) q0 q1 i (by omega)
  have e : cLoop (cQ a) (i+1) = 9223372036854775808 - cQ a * cLoop (cQ a) i / 9223372036854775808 / ((12 - i) * (2 * (12 - i) + 1)) := rfl
  have hd3 : (3:Int) ≤ (12 - i) * (2 * (12 - i) + 1) := by
    have := Int.mul_le_mul (show (1:Int) ≤ 12 - i by omega) (show (3:Int) ≤ 2 * (12 - i) + 1 by omega) (by omega) (by omega)
    omega
  have hd4 : ((12 - i) * (2 * (12 - i) + 1) : Int) ≤ 12 * 25 := Int.mul_le_mul (by omega) (by omega) (by omega) (by omega)
  refine ⟨(12 - i) * (2 * (12 - i) + 1), ?_, hd3, e, ?_, ?_⟩
  · rw [IntKind.wrap_u64]; omega
  · exact Int.ediv_nonneg (Int.ediv_nonneg (Int.mul_nonneg q0 c0) (by omega)) (by omega)
  · omega

set_option maxHeartbeats 1000000 in
theorem series_any (a : Int) (w : World) (h0 : 0 ≤ a) (h1 : a ≤ 90000000) :
    Calls Tryd.prog 127 #[.int .u64 a] w fun e w' => e = .returned (.int .u64 (cSeries a)) ∧ w = w' := by
  obtain ⟨x0, x1⟩ := cX_bd a h0 h1
  obtain ⟨q0, q1⟩ := cQ_bd a h0 h1
  have HX : Hid (bits .or .u64 (a * 10803064813898918630 / 18446744073709551616 * 274877906944) (a * 10803064813898918630 % 18446744073709551616 / 67108864) = cX a) := cX_or a h0 h1
  have HQ : Hid (cX a * cX a / 18446744073709551616 = cQ a) := (rfl : cX a * cX a / 18446744073709551616 = cQ a)
  go_enter Tryd.func127, Tryd.ntmps127
  go_wp2_with fail
  refine (mul64 a 10803064813898918630 (by omega) (by omega) (by omega) (by omega) w).mono ?_
  rintro e w' ⟨rfl, rfl⟩
  go_wp2_with fail
  simp only [HX.out]
  refine (mul64 (cX a) (cX a) (by omega) (by omega) (by omega) (by omega) w).mono ?_
  rintro e w' ⟨rfl, rfl⟩
  go_wp2_with fail
  simp only [HQ.out]
  go_loop [3, 4, 8, 9] (fun h l s k => ∃ i : Nat, i ≤ 12 ∧ k = .int .u64 (12 - i) ∧ s = .int .u64 (cLoop (cQ a) i) ∧ ∃ hv lv, h = .int .u64 hv ∧ l = .int .u64 lv) (fun _ _ _ k => (intOf k).toNat)
  case atStart => exact ⟨0, by omega, rfl, rfl, _, _, rfl, rfl⟩
  case round =>
    obtain ⟨i, hi, rfl, rfl, hv, lv, rfl, rfl⟩ := hrel
    obtain ⟨s0, s1⟩ := cLoop_bd (cQ a) q0 q1 i hi
    by_cases hlt : i < 12
    · obtain ⟨d, hd, hd3, hnext, hq0, hq1⟩ := cRound a h0 h1 i hlt
      have t0 := Int.mul_nonneg q0 s0
      have t1 := Int.mul_le_mul q1 s1 s0 (by omega)
      have hb := or_63 (cQ a * cLoop (cQ a) i) t0 (by omega)
      have HN : Hid (cLoop (cQ a) (i+1) = 9223372036854775808 - cQ a * cLoop (cQ a) i / 9223372036854775808 / d) := hnext
      clear hnext
      go_wp2_with fail
      refine (mul64 (cQ a) (cLoop (cQ a) i) (by omega) (by omega) (by omega) (by omega) w).mono ?_
      rintro e w' ⟨rfl, rfl⟩
      generalize cQ a * cLoop (cQ a) i = t at *
      go_wp2_with fail
      go_round
      case rel => exact ⟨i + 1, by omega, by go_num, by rw [HN.out], _, _, rfl, rfl⟩
      case measure => simp [intOf]; omega
    · obtain rfl : i = 12 := by omega
      have t0 := Int.mul_nonneg x0 s0
      have t1 := Int.mul_le_mul x1 s1 s0 (by omega)
      have hb := or_63 (cX a * cLoop (cQ a) 12) t0 (by omega)
      have HS : Hid (cX a * cLoop (cQ a) 12 / 9223372036854775808 = cSeries a) := (rfl : cX a * cLoop (cQ a) 12 / 9223372036854775808 = cSeries a)
      go_wp2_with fail
      refine (mul64 (cX a) (cLoop (cQ a) 12) (by omega) (by omega) (by omega) (by omega) w).mono ?_
      rintro e w' ⟨rfl, rfl⟩
      generalize cX a * cLoop (cQ a) 12 = t at *
      go_wp2_with fail
      go_ret
      exact ⟨ret_int (k := .u64) HS.out, rfl⟩
end Go.Proofs.YtjcgojbfjefbcaaDoor

/- The sine of an angle, as the code computes it. -/
namespace Go.Proofs.YtjcgojbfjefbcaaDoor
set_option linter.unusedSimpArgs false
set_option linter.unusedVariables false
open Go.RowKit SineNear

/-- an enclosure as a value -/
abbrev encl (lo hi : Int) : Value := .agg #[.int .i64 lo, .int .i64 hi]

set_option maxHeartbeats 400000 in
theorem only_any (a : Int) (w : World) :
    Calls Tryd.prog 86 #[.int .i64 a] w fun e w' => e = .returned (encl a a) ∧ Own w.heap.size w w' := by
  go_enter Tryd.func86, Tryd.ntmps86
  go_wp2
  refine bodyPost_ret (v := encl a a) (by simp [results, Tryd.results86, go_sem]) rfl ⟨rfl, ?_⟩
  exact (Own.refl _ _).alloc (Nat.le_refl _) _

set_option maxHeartbeats 400000 in
theorem right_open (a : Int) (w : World) (h0 : 0 < a) (h1 : a < 90000000) (h2 : a ≠ 30000000) :
    Calls Tryd.prog 113 #[.int .i64 a] w fun e w' => e = .returned (encl (cSeries a * 100000000 / 9223372036854775808) (cSeries a * 100000000 / 9223372036854775808 + 1)) ∧ Own w.heap.size w w' := by
  obtain ⟨s0, s1⟩ := cSeries_bd a (by omega) (by omega)
  have e1 : (a == 0) = false := beq_no (by omega)
  have e2 : (a == 30000000) = false := beq_no h2
  have e3 : (a == 90000000) = false := beq_no (by omega)
  go_enter Tryd.func113, Tryd.ntmps113
  go_wp2_with fail
  refine (series_any a _ (by omega) (by omega)).mono ?_
  rintro e w' ⟨rfl, rfl⟩
  go_wp2_with fail
  refine (hundred_any (cSeries a) _ (by omega) (by omega)).mono ?_
  rintro e w' ⟨rfl, rfl⟩
  go_wp2_with fail
  refine bodyPost_ret (v := encl (cSeries a * 100000000 / 9223372036854775808) (cSeries a * 100000000 / 9223372036854775808 + 1)) (by simp [results, Tryd.results113, go_sem]) rfl ⟨rfl, ?_⟩
  exact (Own.refl _ _).alloc (Nat.le_refl _) _

set_option maxHeartbeats 400000 in
theorem right_exact (a v : Int) (w : World) (h : (a = 0 ∧ v = 0) ∨ (a = 30000000 ∧ v = 50000000) ∨ (a = 90000000 ∧ v = 100000000)) :
    Calls Tryd.prog 113 #[.int .i64 a] w fun e w' => e = .returned (encl v v) ∧ Own w.heap.size w w' := by
  rcases h with ⟨rfl, rfl⟩ | ⟨rfl, rfl⟩ | ⟨rfl, rfl⟩
  all_goals
    go_enter Tryd.func113, Tryd.ntmps113
    go_wp2_with fail
    refine (only_any _ _).mono ?_
    rintro e w' ⟨rfl, hb⟩
    obtain ⟨hc, hf⟩ := bcell hb
    have hz := hb.size
    simp at hz
    go_wp2_with fail
    refine bodyPost_ret (v := encl _ _) (by simp [results, Tryd.results113, go_sem, hc]) rfl ⟨rfl, ?_⟩
    exact ((((Own.refl _ _).alloc (Nat.le_refl _) _).trans (hb.mono (by simp))).setCell (by simp) _).setCell (by simp) _

theorem sineToRight_any (a : Int) (w : World) (h0 : 0 ≤ a) (h1 : a ≤ 90000000) :
    Calls Tryd.prog 113 #[.int .i64 a] w fun e w' => e = .returned (encl (sLo a) (sHi a)) ∧ Own w.heap.size w w' := by
  by_cases c1 : a = 0
  · subst c1; exact right_exact 0 0 w (Or.inl ⟨rfl, rfl⟩)
  · by_cases c2 : a = 30000000
    · subst c2; exact right_exact 30000000 50000000 w (Or.inr (Or.inl ⟨rfl, rfl⟩))
    · by_cases c3 : a = 90000000
      · subst c3; exact right_exact 90000000 100000000 w (Or.inr (Or.inr ⟨rfl, rfl⟩))
      · have e1 : sLo a = cSeries a * 100000000 / 9223372036854775808 := by unfold sLo; rw [if_neg c1, if_neg c2, if_neg c3]
        have e2 : sHi a = cSeries a * 100000000 / 9223372036854775808 + 1 := by unfold sHi; rw [if_neg c1, if_neg c2, if_neg c3]
        rw [e1, e2]; exact right_open a w (by omega) (by omega) c2

set_option maxHeartbeats 400000 in
theorem sine_low (a : Int) (w : World) (h0 : -9000000000000 ≤ a) (h1 : a ≤ 9000000000000) (hl : a % 360000000 < 180000000) :
    Calls Tryd.prog 84 #[.int .i64 a] w fun e w' => e = .returned (encl (sLo (min (a % 360000000) (180000000 - a % 360000000))) (sHi (min (a % 360000000) (180000000 - a % 360000000)))) ∧ Own w.heap.size w w' := by
  go_enter Tryd.func84, Tryd.ntmps84
  go_wp2_with fail
  refine (reduced_any a _ h0 h1).mono ?_
  rintro e w' ⟨rfl, rfl⟩
  go_wp2_with fail
  refine (mirrored_any (a % 360000000) _ (by omega) (by omega)).mono ?_
  rintro e w' ⟨rfl, rfl⟩
  go_wp2_with fail
  refine (sineToRight_any (min (a % 360000000) (180000000 - a % 360000000)) _ (by omega) (by omega)).mono ?_
  rintro e w' ⟨rfl, hb⟩
  obtain ⟨hc, hf⟩ := bcell hb
  go_wp2_with fail
  refine bodyPost_ret (v := encl _ _) (by simp [results, Tryd.results84, go_sem, hc]) rfl ⟨rfl, ?_⟩
  exact ((((Own.refl _ _).alloc (Nat.le_refl _) _).trans (hb.mono (by simp))).setCell (by simp) _).setCell (by simp) _

set_option maxHeartbeats 400000 in
theorem sine_high (a : Int) (w : World) (h0 : -9000000000000 ≤ a) (h1 : a ≤ 9000000000000) (hl : ¬ a % 360000000 < 180000000) :
    Calls Tryd.prog 84 #[.int .i64 a] w fun e w' => e = .returned (encl (- sHi (min (a % 360000000 - 180000000) (180000000 - (a % 360000000 - 180000000)))) (- sLo (min (a % 360000000 - 180000000) (180000000 - (a % 360000000 - 180000000))))) ∧ Own w.heap.size w w' := by
  have b1 := sLo_bd (min (a % 360000000 - 180000000) (180000000 - (a % 360000000 - 180000000))) (by omega) (by omega)
  have b2 := sHi_bd (min (a % 360000000 - 180000000) (180000000 - (a % 360000000 - 180000000))) (by omega) (by omega)
  go_enter Tryd.func84, Tryd.ntmps84
  go_wp2_with fail
  refine (reduced_any a _ h0 h1).mono ?_
  rintro e w' ⟨rfl, rfl⟩
  go_wp2_with fail
  refine (mirrored_any (a % 360000000 - 180000000) _ (by omega) (by omega)).mono ?_
  rintro e w' ⟨rfl, rfl⟩
  go_wp2_with fail
  refine (sineToRight_any (min (a % 360000000 - 180000000) (180000000 - (a % 360000000 - 180000000))) _ (by omega) (by omega)).mono ?_
  rintro e w' ⟨rfl, hb⟩
  obtain ⟨hc, hf⟩ := bcell hb
  have hz : w.heap.size < w'.heap.size := by have := hb.size; simp at this; omega
  go_wp2_with fail
  refine bodyPost_ret (v := encl _ _) (by simp [results, Tryd.results84, go_sem, hc, hz]) rfl ⟨rfl, ?_⟩
  repeat' (first | exact Own.refl _ _ | exact Nat.le_refl _ | refine Own.setCell ?_ ?_ _ | refine Own.alloc ?_ ?_ _ | refine Own.trans ?_ (hb.mono ?_))
  all_goals (first | (simp; done) | (simp; omega))

theorem sine_any (a : Int) (w : World) (h0 : -9000000000000 ≤ a) (h1 : a ≤ 9000000000000) :
    Calls Tryd.prog 84 #[.int .i64 a] w fun e w' => e = .returned (encl (sinLo a) (sinHi a)) ∧ Own w.heap.size w w' := by
  by_cases hl : a % 360000000 < 180000000
  · have e1 : sinLo a = sLo (min (a % 360000000) (180000000 - a % 360000000)) := by unfold sinLo; rw [if_pos hl]
    have e2 : sinHi a = sHi (min (a % 360000000) (180000000 - a % 360000000)) := by unfold sinHi; rw [if_pos hl]
    rw [e1, e2]; exact sine_low a w h0 h1 hl
  · have e1 : sinLo a = - sHi (min (a % 360000000 - 180000000) (180000000 - (a % 360000000 - 180000000))) := by unfold sinLo; rw [if_neg hl]
    have e2 : sinHi a = - sLo (min (a % 360000000 - 180000000) (180000000 - (a % 360000000 - 180000000))) := by unfold sinHi; rw [if_neg hl]
    rw [e1, e2]; exact sine_high a w h0 h1 hl

set_option maxHeartbeats 400000 in
/-- a, or a and some whole turns, is from lo to hi -/
theorem passes_any (lo hi a : Int) (w : World) (b1 : -8000000000 ≤ lo) (b2 : lo ≤ 8000000000) (b5 : -8000000000 ≤ a) (b6 : a ≤ 8000000000) :
    Calls Tryd.prog 85 #[.int .i64 lo, .int .i64 hi, .int .i64 a] w fun e w' => e = .returned (.bool (decide (lo + (a - lo) % 360000000 ≤ hi))) ∧ w = w' := by
  go_enter Tryd.func85, Tryd.ntmps85
  go_wp2_with fail
  refine (reduced_any (a - lo) _ (by omega) (by omega)).mono ?_
  rintro e w' ⟨rfl, rfl⟩
  go_wp2_with fail
  go_ret
  exact ⟨rfl, rfl⟩

set_option maxHeartbeats 400000 in
theorem isWithin_any (lo hi least most : Int) (w : World) :
    Calls Tryd.prog 67 #[encl lo hi, .int .i64 least, .int .i64 most] w fun e w' => e = .returned (.bool (inB lo hi least most)) ∧ Own w.heap.size w w' := by
  have hb : Own w.heap.size w (w.alloc (.cells #[.int .i64 lo, .int .i64 hi] 51)) := (Own.refl _ _).alloc (Nat.le_refl _) _
  by_cases c1 : least ≤ lo
  · by_cases c2 : lo ≤ hi
    · go_enter Tryd.func67, Tryd.ntmps67
      go_wp2_with fail
      go_ret
      exact ⟨ret_bool (by unfold inB; simp [c1, c2]), hb⟩
    · go_enter Tryd.func67, Tryd.ntmps67
      go_wp2_with fail
      go_ret
      exact ⟨ret_bool (by unfold inB; exact (decide_eq_false (by omega)).symm), hb⟩
  · go_enter Tryd.func67, Tryd.ntmps67
    go_wp2_with fail
    go_ret
    exact ⟨ret_bool (by unfold inB; exact (decide_eq_false (by omega)).symm), hb⟩
end Go.Proofs.YtjcgojbfjefbcaaDoor

/- Joins of enclosures, as the code computes them. -/
namespace Go.Proofs.YtjcgojbfjefbcaaDoor
set_option linter.unusedSimpArgs false
set_option linter.unusedVariables false
open Go.RowKit SineNear

set_option maxHeartbeats 1000000 in
theorem join_any (l h : Int) (n b : Nat) (f g : Nat → Int) (w : World) (hn : n ≤ 10) (hb : b < w.heap.size)
    (hf : ∀ j, j < n → w.cell? ⟨b, j*2, none⟩ = some (.int .i64 (f j))) (hg : ∀ j, j < n → w.cell? ⟨b, j*2+1, none⟩ = some (.int .i64 (g j))) :
    Calls Tryd.prog 83 #[encl l h, .slice (some ⟨b, 0, none⟩) n n] w fun e w' => e = .returned (encl (jLo l f n) (jHi h g n)) ∧ Own w.heap.size w w' := by
  go_enter Tryd.func83, Tryd.ntmps83
  go_wp2_with fail
  go_loopw [9] (fun i wr => ∃ k : Nat, k ≤ n ∧ i = .int .i64 k ∧ Own w.heap.size w wr ∧ w.heap.size + 1 < wr.heap.size ∧
      wr.cell? ⟨w.heap.size, 0, none⟩ = some (.int .i64 (jLo l f k)) ∧ wr.cell? ⟨w.heap.size, 1, none⟩ = some (.int .i64 (jHi h g k)) ∧
      wr.frozen? ⟨w.heap.size, 0, none⟩ = false ∧ wr.frozen? ⟨w.heap.size, 1, none⟩ = false ∧
      wr.cell? ⟨w.heap.size+1, 0, none⟩ = some (.int .i64 0) ∧ wr.cell? ⟨w.heap.size+1, 1, none⟩ = some (.int .i64 0) ∧
      wr.frozen? ⟨w.heap.size+1, 0, none⟩ = false ∧ wr.frozen? ⟨w.heap.size+1, 1, none⟩ = false) (fun i _ => n - (intOf i).toNat)
  case atStart =>
    refine ⟨0, by omega, rfl, ?_, ?_, ?_⟩
    · exact ((Own.refl _ _).alloc (Nat.le_refl _) _).alloc (by simp) _
    · simp
    · simp [jLo, jHi, go_sem]
  case round =>
    obtain ⟨k, hk, rfl, hbw, hsz, c0, c1, z0, z1, d0, d1, y0, y1⟩ := hrel
    have hz : w.heap.size < wr.heap.size := by omega
    have hz1 : w.heap.size + 1 < wr.heap.size := by omega
    by_cases hlt : k < n
    · have e1 : wr.cell? ⟨b, k*2, none⟩ = some (.int .i64 (f k)) := by rw [hbw.cell (p := ⟨b, k*2, none⟩) hb]; exact hf k hlt
      have e2 : wr.cell? ⟨b, k*2+1, none⟩ = some (.int .i64 (g k)) := by rw [hbw.cell (p := ⟨b, k*2+1, none⟩) hb]; exact hg k hlt
      have hb2 : b < wr.heap.size := by omega
      clear hf hg
      go_wp2
      go_roundw
      case rel =>
        refine ⟨k + 1, by omega, by go_num, ?_, ?_, ?_⟩
        · refine Own.alloc (Own.setCell (Own.setCell hbw ?_ _) ?_ _) ?_ _ <;> first | exact Nat.le_refl _ | (simp; omega)
        · simp; omega
        · simp [jLo, jHi, go_sem, c0, c1, z0, z1, d0, d1, y0, y1, hz, hz1]
      case measure => simp [intOf]; omega
    · obtain rfl : k = n := by omega
      go_wp2
      refine bodyPost_ret (v := encl _ _) (by simp [results, Tryd.results83, go_sem, d0, d1]) rfl ⟨rfl, ?_⟩
      refine Own.setCell (Own.setCell hbw ?_ _) ?_ _ <;> simp

theorem passes_pas (lo hi a : Int) (w : World) (b1 : -8000000000 ≤ lo) (b2 : lo ≤ 8000000000) (b5 : -8000000000 ≤ a) (b6 : a ≤ 8000000000) :
    Calls Tryd.prog 85 #[.int .i64 lo, .int .i64 hi, .int .i64 a] w fun e w' => e = .returned (.bool (pas lo hi a)) ∧ w = w' :=
  passes_any lo hi a w b1 b2 b5 b6

set_option maxHeartbeats 1000000 in
theorem sines_any (lo hi : Int) (w : World) (b1 : -8000000000 ≤ lo) (b2 : lo ≤ 8000000000) (b3 : -8000000000 ≤ hi) (b4 : hi ≤ 8000000000) :
    Calls Tryd.prog 68 #[.int .i64 lo, .int .i64 hi] w fun e w' => e = .returned (encl (siLo lo hi) (siHi lo hi)) ∧ Own w.heap.size w w' := by
  unfold siLo siHi
  cases h1 : pas lo hi 90000000 <;> cases h2 : pas lo hi (-90000000)
  all_goals
    simp only [Bool.false_eq_true, if_false, if_true]
    go_enter Tryd.func68, Tryd.ntmps68
    go_wp2_with fail
    refine (sine_any lo _ (by omega) (by omega)).mono ?_
    rintro e w1 ⟨rfl, hb1⟩
    have hz1 : w.heap.size < w1.heap.size := by have := hb1.size; simp at this; omega
    go_wp2_with fail
    refine (sine_any hi _ (by omega) (by omega)).mono ?_
    rintro e w2 ⟨rfl, hb2⟩
    have hz2 : w.heap.size < w2.heap.size := by have := hb2.size; omega
    go_wp2_with fail
    refine (join_any (sinLo lo) (sinHi lo) 1 w2.heap.size (fun _ => sinLo hi) (fun _ => sinHi hi) _ (by omega) (by simp) ?_ ?_).mono ?_
    · intro j hj; obtain rfl : j = 0 := by omega
      simp [go_sem]
    · intro j hj; obtain rfl : j = 0 := by omega
      simp [go_sem]
    rintro e w3 ⟨rfl, hb3⟩
    have hc : ∀ o, w3.cell? ⟨w.heap.size, o, none⟩ = (w.alloc (.cells #[.int .i64 0, .int .i64 0] 51)).cell? ⟨w.heap.size, o, none⟩ := by
      intro o
      rw [hb3.cell (p := ⟨w.heap.size, o, none⟩) (by simp; omega), World.cell?_alloc_old _ _ _ (by simp; omega), hb2.cell (p := ⟨w.heap.size, o, none⟩) (by simp; omega), hb1.cell (p := ⟨w.heap.size, o, none⟩) (by simp)]
    have hf : ∀ o, w3.frozen? ⟨w.heap.size, o, none⟩ = (w.alloc (.cells #[.int .i64 0, .int .i64 0] 51)).frozen? ⟨w.heap.size, o, none⟩ := by
      intro o
      rw [hb3.frozen (p := ⟨w.heap.size, o, none⟩) (by simp; omega), frozen?_alloc_cells, hb2.frozen (p := ⟨w.heap.size, o, none⟩) (by simp; omega), hb1.frozen (p := ⟨w.heap.size, o, none⟩) (by simp)]
    have hz3 : w.heap.size < w3.heap.size := by have := hb3.size; simp at this; omega
    have hbw : Own w.heap.size w w3 := (((((Own.refl _ _).alloc (Nat.le_refl _) _).trans (hb1.mono (by simp))).trans (hb2.mono (by omega))).alloc (by omega) _).trans (hb3.mono (by simp; omega))
    go_wp2_with fail
    refine (passes_pas lo hi 90000000 _ (by omega) (by omega) (by omega) (by omega)).mono ?_
    rintro e w4 ⟨rfl, rfl⟩
    go_wp2_with fail
    refine (passes_pas lo hi (-90000000) _ (by omega) (by omega) (by omega) (by omega)).mono ?_
    rintro e w4 ⟨rfl, rfl⟩
    go_wp2_with fail
    refine bodyPost_ret (v := encl _ _) (by simp [results, Tryd.results68, go_sem, hc, hz3]) rfl ⟨rfl, ?_⟩
    repeat' (first | exact hbw | exact Nat.le_refl _ | refine Own.setCell ?_ ?_ _ | refine Own.alloc ?_ ?_ _)
    all_goals (first | (simp; done) | (simp; omega))
end Go.Proofs.YtjcgojbfjefbcaaDoor

/- SinOf, CosOf, Sin, Cos of the code. -/
namespace Go.Proofs.YtjcgojbfjefbcaaDoor
set_option linter.unusedSimpArgs false
set_option linter.unusedVariables false
open Go.RowKit SineNear

/-- an enclosure and an error -/
abbrev enclE (lo hi e : Int) : Value := .tuple #[.agg #[.int .i64 lo, .int .i64 hi], .int .i64 e]

/-- what SinOf returns -/
def sofLo (lo hi : Int) : Int := if inB lo hi (-3600000000) 3600000000 then siLo lo hi else 0
def sofHi (lo hi : Int) : Int := if inB lo hi (-3600000000) 3600000000 then siHi lo hi else 0
def cofLo (lo hi : Int) : Int := if inB lo hi (-3600000000) 3600000000 then siLo (lo + 90000000) (hi + 90000000) else 0
def cofHi (lo hi : Int) : Int := if inB lo hi (-3600000000) 3600000000 then siHi (lo + 90000000) (hi + 90000000) else 0
def angE (lo hi : Int) : Int := if inB lo hi (-3600000000) 3600000000 then 0 else 7

set_option maxHeartbeats 1000000 in
theorem sinOf_any (lo hi : Int) (w : World) :
    Calls Tryd.prog 33 #[encl lo hi] w fun e w' => e = .returned (enclE (sofLo lo hi) (sofHi lo hi) (angE lo hi)) ∧ Own w.heap.size w w' := by
  unfold sofLo sofHi angE
  cases h : inB lo hi (-3600000000) 3600000000
  · simp only [Bool.false_eq_true, if_false]
    go_enter Tryd.func33, Tryd.ntmps33
    go_wp2_with fail
    refine (isWithin_any lo hi (-3600000000) 3600000000 _).mono ?_
    rintro e w1 ⟨rfl, hb1⟩
    obtain ⟨hc, hf⟩ := bcell hb1
    have hz1 : w.heap.size + 1 < w1.heap.size := by have := hb1.size; simp at this; omega
    have hbw : Own w.heap.size w w1 := (((Own.refl _ _).alloc (Nat.le_refl _) _).alloc (by simp) _).trans (hb1.mono (by simp; omega))
    go_wp2_with fail
    refine bodyPost_ret (v := enclE 0 0 7) (by simp [results, Tryd.results33, go_sem, hc]) rfl ⟨rfl, ?_⟩
    repeat' (first | exact hbw | exact Nat.le_refl _ | refine Own.setCell ?_ ?_ _ | refine Own.alloc ?_ ?_ _)
    all_goals (first | (simp; done) | (simp; omega))
  · simp only [if_true]
    obtain ⟨i1, i2, i3⟩ := inB_bd h
    go_enter Tryd.func33, Tryd.ntmps33
    go_wp2_with fail
    refine (isWithin_any lo hi (-3600000000) 3600000000 _).mono ?_
    rintro e w1 ⟨rfl, hb1⟩
    obtain ⟨hc, hf⟩ := bcell hb1
    have hz1 : w.heap.size + 1 < w1.heap.size := by have := hb1.size; simp at this; omega
    have hbw : Own w.heap.size w w1 := (((Own.refl _ _).alloc (Nat.le_refl _) _).alloc (by simp) _).trans (hb1.mono (by simp; omega))
    go_wp2_with fail
    refine (sines_any lo hi _ (by omega) (by omega) (by omega) (by omega)).mono ?_
    rintro e w2 ⟨rfl, hb2⟩
    have hc2 : ∀ o, w2.cell? ⟨w.heap.size + 1, o, none⟩ = w1.cell? ⟨w.heap.size + 1, o, none⟩ := fun o => hb2.cell (p := ⟨w.heap.size + 1, o, none⟩) hz1
    have hf2 : ∀ o, w2.frozen? ⟨w.heap.size + 1, o, none⟩ = w1.frozen? ⟨w.heap.size + 1, o, none⟩ := fun o => hb2.frozen (p := ⟨w.heap.size + 1, o, none⟩) hz1
    have hbw2 : Own w.heap.size w w2 := hbw.trans (hb2.mono (by omega))
    go_wp2_with fail
    refine bodyPost_ret (v := enclE _ _ 0) (by simp [results, Tryd.results33, go_sem, hc, hc2]) rfl ⟨rfl, ?_⟩
    repeat' (first | exact hbw2 | exact Nat.le_refl _ | refine Own.setCell ?_ ?_ _ | refine Own.alloc ?_ ?_ _)
    all_goals (first | (simp; done) | (simp; omega))

set_option maxHeartbeats 1000000 in
theorem cosOf_any (lo hi : Int) (w : World) :
    Calls Tryd.prog 92 #[encl lo hi] w fun e w' => e = .returned (enclE (cofLo lo hi) (cofHi lo hi) (angE lo hi)) ∧ Own w.heap.size w w' := by
  unfold cofLo cofHi angE
  cases h : inB lo hi (-3600000000) 3600000000
  · simp only [Bool.false_eq_true, if_false]
    go_enter Tryd.func92, Tryd.ntmps92
    go_wp2_with fail
    refine (isWithin_any lo hi (-3600000000) 3600000000 _).mono ?_
    rintro e w1 ⟨rfl, hb1⟩
    obtain ⟨hc, hf⟩ := bcell hb1
    have hz1 : w.heap.size + 1 < w1.heap.size := by have := hb1.size; simp at this; omega
    have hbw : Own w.heap.size w w1 := (((Own.refl _ _).alloc (Nat.le_refl _) _).alloc (by simp) _).trans (hb1.mono (by simp; omega))
    go_wp2_with fail
    refine bodyPost_ret (v := enclE 0 0 7) (by simp [results, Tryd.results92, go_sem, hc]) rfl ⟨rfl, ?_⟩
    repeat' (first | exact hbw | exact Nat.le_refl _ | refine Own.setCell ?_ ?_ _ | refine Own.alloc ?_ ?_ _)
    all_goals (first | (simp; done) | (simp; omega))
  · simp only [if_true]
    obtain ⟨i1, i2, i3⟩ := inB_bd h
    go_enter Tryd.func92, Tryd.ntmps92
    go_wp2_with fail
    refine (isWithin_any lo hi (-3600000000) 3600000000 _).mono ?_
    rintro e w1 ⟨rfl, hb1⟩
    obtain ⟨hc, hf⟩ := bcell hb1
    have hz1 : w.heap.size + 1 < w1.heap.size := by have := hb1.size; simp at this; omega
    have hbw : Own w.heap.size w w1 := (((Own.refl _ _).alloc (Nat.le_refl _) _).alloc (by simp) _).trans (hb1.mono (by simp; omega))
    go_wp2_with fail
    refine (sines_any (lo + 90000000) (hi + 90000000) _ (by omega) (by omega) (by omega) (by omega)).mono ?_
    rintro e w2 ⟨rfl, hb2⟩
    have hc2 : ∀ o, w2.cell? ⟨w.heap.size + 1, o, none⟩ = w1.cell? ⟨w.heap.size + 1, o, none⟩ := fun o => hb2.cell (p := ⟨w.heap.size + 1, o, none⟩) hz1
    have hf2 : ∀ o, w2.frozen? ⟨w.heap.size + 1, o, none⟩ = w1.frozen? ⟨w.heap.size + 1, o, none⟩ := fun o => hb2.frozen (p := ⟨w.heap.size + 1, o, none⟩) hz1
    have hbw2 : Own w.heap.size w w2 := hbw.trans (hb2.mono (by omega))
    go_wp2_with fail
    refine bodyPost_ret (v := enclE _ _ 0) (by simp [results, Tryd.results92, go_sem, hc, hc2]) rfl ⟨rfl, ?_⟩
    repeat' (first | exact hbw2 | exact Nat.le_refl _ | refine Own.setCell ?_ ?_ _ | refine Own.alloc ?_ ?_ _)
    all_goals (first | (simp; done) | (simp; omega))

set_option maxHeartbeats 400000 in
theorem sin_any (a : Int) (w : World) :
    Calls Tryd.prog 116 #[.int .i64 a] w fun e w' => e = .returned (enclE (sofLo a a) (sofHi a a) (angE a a)) ∧ Own w.heap.size w w' := by
  go_enter Tryd.func116, Tryd.ntmps116
  go_wp2_with fail
  refine (sinOf_any a a _).mono ?_
  rintro e w1 ⟨rfl, hb1⟩
  obtain ⟨hc, hf⟩ := bcell hb1
  have hbw : Own w.heap.size w w1 := (((Own.refl _ _).alloc (Nat.le_refl _) _)).trans (hb1.mono (by simp))
  go_wp2_with fail
  refine bodyPost_ret (v := enclE _ _ _) (by simp [results, Tryd.results116, go_sem, hc]) rfl ⟨rfl, ?_⟩
  repeat' (first | exact hbw | exact Nat.le_refl _ | refine Own.setCell ?_ ?_ _ | refine Own.alloc ?_ ?_ _)

set_option maxHeartbeats 400000 in
theorem cos_any (a : Int) (w : World) :
    Calls Tryd.prog 117 #[.int .i64 a] w fun e w' => e = .returned (enclE (cofLo a a) (cofHi a a) (angE a a)) ∧ Own w.heap.size w w' := by
  go_enter Tryd.func117, Tryd.ntmps117
  go_wp2_with fail
  refine (cosOf_any a a _).mono ?_
  rintro e w1 ⟨rfl, hb1⟩
  obtain ⟨hc, hf⟩ := bcell hb1
  have hbw : Own w.heap.size w w1 := (((Own.refl _ _).alloc (Nat.le_refl _) _)).trans (hb1.mono (by simp))
  go_wp2_with fail
  refine bodyPost_ret (v := enclE _ _ _) (by simp [results, Tryd.results117, go_sem, hc]) rfl ⟨rfl, ?_⟩
  repeat' (first | exact hbw | exact Nat.le_refl _ | refine Own.setCell ?_ ?_ _ | refine Own.alloc ?_ ?_ _)
end Go.Proofs.YtjcgojbfjefbcaaDoor

/- Boxes of enclosures, carried through a body. -/
namespace Go.Proofs.YtjcgojbfjefbcaaDoor
set_option linter.unusedSimpArgs false
set_option linter.unusedVariables false
open Go.RowKit SineNear

/-- an enclosure in block b -/
def Box (b : Nat) (l h : Int) (w : World) : Prop :=
  w.cell? ⟨b, 0, none⟩ = some (.int .i64 l) ∧ w.cell? ⟨b, 1, none⟩ = some (.int .i64 h) ∧ w.frozen? ⟨b, 0, none⟩ = false ∧ w.frozen? ⟨b, 1, none⟩ = false ∧ b < w.heap.size

theorem Box.below {b : Nat} {l h : Int} {w w1 : World} (k : Box b l h w) (o : Below w.heap.size w w1) : Box b l h w1 := by
  obtain ⟨k0, k1, k2, k3, k4⟩ := k
  have := o.size
  refine ⟨?_, ?_, ?_, ?_, by omega⟩
  · rw [o.cell (p := ⟨b, 0, none⟩) k4]; exact k0
  · rw [o.cell (p := ⟨b, 1, none⟩) k4]; exact k1
  · rw [o.frozen (p := ⟨b, 0, none⟩) k4]; exact k2
  · rw [o.frozen (p := ⟨b, 1, none⟩) k4]; exact k3
theorem Box.alloc {b : Nat} {l h : Int} {w : World} (k : Box b l h w) (o : Obj) : Box b l h (w.alloc o) :=
  k.below ((Below.refl _ _).alloc (Nat.le_refl _) o)
theorem Box.drew {b : Nat} {l h : Int} {w : World} (k : Box b l h w) : Box b l h w.drew := k
theorem Box.fresh (w : World) (l h : Int) (t : TypeId) : Box w.heap.size l h (w.alloc (.cells #[.int .i64 l, .int .i64 h] t)) := by
  refine ⟨?_, ?_, ?_, ?_, ?_⟩ <;> simp [go_sem]
theorem Box.set {b : Nat} {l h : Int} {w : World} (k : Box b l h w) (l' h' : Int) : Box b l' h' ((w.setCell ⟨b, 0, none⟩ (.int .i64 l')).setCell ⟨b, 1, none⟩ (.int .i64 h')) := by
  obtain ⟨k0, k1, k2, k3, k4⟩ := k
  refine ⟨?_, ?_, ?_, ?_, by simpa using k4⟩ <;> simp [go_sem, k0, k1, k2, k3]
theorem Box.other {b c : Nat} {l h : Int} {w : World} (k : Box b l h w) (hbc : b ≠ c) (u v : Value) : Box b l h ((w.setCell ⟨c, 0, none⟩ u).setCell ⟨c, 1, none⟩ v) := by
  obtain ⟨k0, k1, k2, k3, k4⟩ := k
  refine ⟨?_, ?_, ?_, ?_, by simpa using k4⟩ <;> simp [go_sem, k0, k1, k2, k3, hbc, Ne.symm hbc]
end Go.Proofs.YtjcgojbfjefbcaaDoor

/- A new box. -/
namespace Go.Proofs.YtjcgojbfjefbcaaDoor
set_option linter.unusedSimpArgs false
set_option linter.unusedVariables false
open Go.RowKit SineNear
theorem Box.freshAt {b : Nat} {w : World} (hb : b = w.heap.size) (l h : Int) (t : TypeId) : Box b l h (w.alloc (.cells #[.int .i64 l, .int .i64 h] t)) := by rw [hb]; exact Box.fresh w l h t
end Go.Proofs.YtjcgojbfjefbcaaDoor
