/- The reference's crossings: the ends of a range, and the tangents between them. -/
import Derived.Test.YthmelkakgbchbaaRbe
import Derived.Test.YthmelkakgbchbaaStp
namespace Go.Proofs.Ythmelkakgbchbaa
set_option linter.unusedSimpArgs false
set_option linter.unusedVariables false
open Go.RowKit
attribute [local go_sem ↓] Go.wp_at_zero Go.wp_at_succ

def crL (us : List Int) (f t h : Int) : List Int := [f, t] ++ mids us f t h us.length
theorem mids_in {us : List Int} (ok : ListOk us) {f t h : Int} (n : Nat) : (mids us f t h n).length ≤ 12 := by
  unfold mids
  rw [List.length_map]
  have := List.length_filter_le (fun u => inB (u * h) f t) (us.take n)
  have := List.length_take_le' n us
  have := ok.n1
  omega

/-- two new numbers are a row of one's own -/
theorem two_own (w : World) (f t : Int) {base : Nat} (hb : base ≤ w.heap.size) : (w.alloc (.cells #[.int .i64 f, .int .i64 t] 3)).ownsRow base 3 1 (.slice (some ⟨w.heap.size, 0, none⟩) 2 2) ([f, t] : List Int).length (([f, t] : List Int).map (Value.int .i64)) := by
  refine ⟨rfl, .inr ⟨w.heap.size, 2, #[.int .i64 f, .int .i64 t], rfl, hb, ?_⟩⟩
  refine ⟨by show (w.heap.push _)[w.heap.size]? = _; simp, ?_⟩
  simp [maxLen]

set_option maxRecDepth 100000 in
set_option maxHeartbeats 2000000 in
theorem rcrossings_any (A : Option Addr) (c : Nat) (us : List Int) (lo hi h : Int) (w : World) (hu : IntsIn w.heap.size A us w) (ok : ListOk us) (h0 : 1 ≤ h) (h1 : h ≤ 30000) (a0 : -200000 ≤ lo) (a1 : lo ≤ 200000) (b0 : -200000 ≤ hi) (b1 : hi ≤ 200000) :
    Calls Try.prog 87 #[.slice A us.length c, .int .i64 lo, .int .i64 hi, .int .i64 h] w fun e w' => ∃ A' c', e = .returned (.slice A' (crL us (1000 * lo) (1000 * hi) h).length c') ∧ IntsIn w'.heap.size A' (crL us (1000 * lo) (1000 * hi) h) w' ∧ Below w.heap.size w w' := by
  obtain ⟨i0, hi0, hz0, hz1, hz2⟩ := info_parts infoInt
  have hm := hu.1
  unfold maxLen at hm
  have n0 := ok.n0
  have n1 := ok.n1
  have e1 : IntKind.i64.wrap (1000 * lo) = 1000 * lo := IntWalk.i64_in _ (by omega)
  have e2 : IntKind.i64.wrap (1000 * hi) = 1000 * hi := IntWalk.i64_in _ (by omega)
  have HU := Lib.hid hu
  clear hu
  have W00 := Lib.hid (two_own w (1000 * lo) (1000 * hi) (Nat.le_refl _))
  have BW0 := Lib.hid ((Below.refl w.heap.size w).alloc (Nat.le_refl _) (.cells #[.int .i64 (1000 * lo), .int .i64 (1000 * hi)] 3))
  go_enter Try.func87, Try.ntmps87
  go_wp2_with fail
  go_loopg [9, 10] us.length (fun n v i' wr => ∃ k : Nat, k ≤ us.length ∧ n = us.length - k ∧ i' = .int .i64 k ∧ wr.ownsRow w.heap.size 3 1 v ([1000 * lo, 1000 * hi] ++ mids us (1000 * lo) (1000 * hi) h k).length (([1000 * lo, 1000 * hi] ++ mids us (1000 * lo) (1000 * hi) h k).map (Value.int .i64)) ∧ Below w.heap.size w wr)
  case atStart => exact ⟨0, by omega, by omega, rfl, by simpa [mids] using W00.out, BW0.out⟩
  case round =>
    obtain ⟨k, hk, hn0, rfl, hown, hb⟩ := hrel
    have HN := Lib.hid hn0
    clear hn0
    by_cases hlt : k < us.length
    · obtain ⟨b', o', rfl, hb', hc'⟩ := ((HU.out.keep hb (Nat.le_refl _)).more hb.size).2 (by omega)
      have hck := hc' k hlt
      clear hc'
      obtain ⟨m0, m1⟩ := mulh (ok.lo k hlt) (ok.hi k hlt) h0 h1
      have e3 : IntKind.i64.wrap (nth us k * h) = nth us k * h := IntWalk.i64_in _ (by omega)
      have hs := mids_succ (f := 1000 * lo) (t := 1000 * hi) (h := h) hlt
      have hle : ([1000 * lo, 1000 * hi] ++ mids us (1000 * lo) (1000 * hi) h k).length ≤ 14 := by
        have := mids_in ok (f := 1000 * lo) (t := 1000 * hi) (h := h) k
        rw [List.length_append]; simp; omega
      by_cases g0 : 1000 * lo ≤ nth us k * h
      · by_cases g1 : nth us k * h ≤ 1000 * hi
        · have he : Hid ([1000 * lo, 1000 * hi] ++ mids us (1000 * lo) (1000 * hi) h (k + 1) = ([1000 * lo, 1000 * hi] ++ mids us (1000 * lo) (1000 * hi) h k) ++ [nth us k * h]) := by
            show _ = _; rw [hs, if_pos (inB_iff.2 ⟨g0, g1⟩), List.append_assoc]
          clear hs
          have q1 : ([1000 * lo, 1000 * hi] ++ mids us (1000 * lo) (1000 * hi) h k).length + 1 ≤ maxLen := by unfold maxLen; omega
          have q2 : (([1000 * lo, 1000 * hi] ++ mids us (1000 * lo) (1000 * hi) h k).length + 1) * 8 ≤ 140737488355328 := by omega
          have q3 : w.heap.size ≤ (wr.alloc (.cells #[.int .i64 (nth us k * h)] 3)).heap.size := by have := hb.size; simp; omega
          generalize hxs : [1000 * lo, 1000 * hi] ++ mids us (1000 * lo) (1000 * hi) h k = xs at *
          have HX := Lib.hid hxs
          clear hxs
          go_wp2_with (at_builtin; refine wpList_append_own _ rfl (.tmp 42) (.tmp 49) 58 rfl w.heap.size 3 i0 (.int .i64 0) 1 8 Try.underlying58 hi0 hz0 hz1 hz2 rfl (by decide) _ _ _ rfl (hown.alloc _) ⟨wr.heap.size, 0, none⟩ 1 1 [.int .i64 (nth us k * h)] rfl rfl (cell_one_new _ _ _) (by simp [Value.oneCell']) q1 q2 q3 ?_; intro v2 w2 hown2 hgrow2 _)
          have hb2 := (hb.alloc hb.size (.cells #[.int .i64 (nth us k * h)] 3)).grown hgrow2 (by have := hb.size; simp; omega) (fun j hj => ((hown.alloc (.cells #[.int .i64 (nth us k * h)] 3)).lt j hj).1)
          go_wp2_with fail
          go_roundg (us.length - (k + 1))
          case measure => have := HN.out; omega
          case rel => exact ⟨k + 1, by omega, rfl, by go_num, by rw [he.out]; simpa using hown2, hb2⟩
        · have he : Hid ([1000 * lo, 1000 * hi] ++ mids us (1000 * lo) (1000 * hi) h (k + 1) = [1000 * lo, 1000 * hi] ++ mids us (1000 * lo) (1000 * hi) h k) := by
            show _ = _; rw [hs, if_neg (by rw [inB_no.2 (fun hh => g1 hh.2)]; decide)]; simp
          clear hs hle
          go_wp2_with fail
          go_roundg (us.length - (k + 1))
          case measure => have := HN.out; omega
          case rel => exact ⟨k + 1, by omega, rfl, by go_num, by rw [he.out]; exact hown, hb⟩
      · have he : Hid ([1000 * lo, 1000 * hi] ++ mids us (1000 * lo) (1000 * hi) h (k + 1) = [1000 * lo, 1000 * hi] ++ mids us (1000 * lo) (1000 * hi) h k) := by
          show _ = _; rw [hs, if_neg (by rw [inB_no.2 (fun hh => g0 hh.1)]; decide)]; simp
        clear hs hle
        go_wp2_with fail
        go_roundg (us.length - (k + 1))
        case measure => have := HN.out; omega
        case rel => exact ⟨k + 1, by omega, rfl, by go_num, by rw [he.out]; exact hown, hb⟩
    · obtain rfl : k = us.length := by omega
      have hle : (crL us (1000 * lo) (1000 * hi) h).length ≤ maxLen := by
        have := mids_in ok (f := 1000 * lo) (t := 1000 * hi) (h := h) us.length
        unfold crL maxLen
        rw [List.length_append]; simp; omega
      obtain ⟨A', c', hv, hi'⟩ := ints_of_own (xs := crL us (1000 * lo) (1000 * hi) h) hown hle
      go_wp2_with fail
      go_ret
      exact ⟨A', c', by rw [← hv]; rfl, hi', hb⟩
end Go.Proofs.Ythmelkakgbchbaa
