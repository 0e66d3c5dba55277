/- The stops of a span: which tangents a rectangle comes to. -/
import Derived.Test.YtgmpipciinphiaaPlc
import Derived.Deep.AppendLies
import Derived.Maps.AppendAt
namespace Go.Proofs.Ytgmpipciinphiaa
set_option linter.unusedSimpArgs false
set_option linter.unusedVariables false
open Go.RowKit
attribute [local go_sem ↓] Go.wp_at_zero Go.wp_at_succ

theorem infoInt : (Try.prog.info? 3).map (fun i => (i.zero, i.size, i.bytes)) = some (some (.int .i64 0), 1, 8) := by kernel_rfl

theorem ownsRow_below {w w1 : World} {base n : Nat} {e : TypeId} {s : Nat} {v : Value} {xs : List Value} (h : w.ownsRow base e s v n xs) (hb : Below w.heap.size w w1) : w1.ownsRow base e s v n xs :=
  h.kept (row := none) ⟨hb.os, hb.tape, hb.output, hb.size, fun k hk _ => hb.block k hk⟩ (by by_cases c : v.ownBlock = none; exact .inl c; exact .inr c)
theorem ownsRow_more {w : World} {base base' n : Nat} {e : TypeId} {s : Nat} {v : Value} {xs : List Value} (h : w.ownsRow base e s v n xs) (hB : base' ≤ base) : w.ownsRow base' e s v n xs := by
  refine ⟨h.1, ?_⟩
  rcases h.2 with h | ⟨g, cap, cur, h1, h2, h3⟩
  · exact .inl h
  · exact .inr ⟨g, cap, cur, h1, by omega, h3⟩

/-- a row of the call's own, as a list of integers -/
theorem ints_of_own {w : World} {base : Nat} {v : Value} {xs : List Int} (h : w.ownsRow base 3 1 v xs.length (xs.map (Value.int .i64))) (hm : xs.length ≤ maxLen) : ∃ A c, v = .slice A xs.length c ∧ IntsIn w.heap.size A xs w := by
  rcases h.2 with ⟨h1, h2⟩ | ⟨g, cap, cur, h1, h2, h3, h4, h5, h6, h7⟩
  · exact ⟨none, 0, by rw [h1, h2], hm, fun hh => by omega⟩
  · refine ⟨_, cap, h1, hm, fun hh => ⟨g, 0, rfl, ?_, fun j hj => ?_⟩⟩
    · exact (Array.getElem?_eq_some_iff.1 h3).1
    · have h8 : cur[j]? = some (.int .i64 (nth xs j)) := by
        have e1 : (cur.toList.take (xs.length * 1))[j]? = cur[j]? := by
          rw [List.getElem?_take, if_pos (by omega), Array.getElem?_toList]
        rw [← e1, h7, List.getElem?_map, nth_eq hj]
        simp [hj]
      simp [World.cell?, h3, h8]

/-- the tangents of a list, times h, from f to t, among the first n -/
def mids (us : List Int) (f t h : Int) (n : Nat) : List Int := ((us.take n).filter fun u => inB (u * h) f t).map (· * h)
theorem mids_succ {us : List Int} {f t h : Int} {n : Nat} (hn : n < us.length) : mids us f t h (n + 1) = mids us f t h n ++ if inB (nth us n * h) f t then [nth us n * h] else [] := by
  unfold mids
  rw [nth_eq hn, List.take_succ_eq_append_getElem hn, List.filter_append, List.map_append]
  congr 1
  by_cases hc : inB (us[n] * h) f t = true
  · rw [if_pos hc]; simp [List.filter_cons, hc]
  · rw [if_neg hc]; simp [List.filter_cons, hc]
theorem mids_le (us : List Int) (f t h : Int) (n : Nat) : (mids us f t h n).length ≤ n := by
  unfold mids
  rw [List.length_map]
  exact Nat.le_trans (List.length_filter_le _ _) (List.length_take_le _ _)
/-- the ends that are in the table -/
def endL (us : List Int) (h x : Int) : List Int := if inB2 us h x x then [x] else []
theorem endL_le (us : List Int) (h x : Int) : (endL us h x).length ≤ 1 := by unfold endL; split <;> simp
def endsL (us : List Int) (f t h : Int) : Nat → List Int
  | 0 => []
  | 1 => endL us h f
  | _ => endL us h f ++ endL us h t
theorem endsL_le (us : List Int) (f t h : Int) (k : Nat) : (endsL us f t h k).length ≤ 2 := by
  unfold endsL
  have := endL_le us h f
  have := endL_le us h t
  split <;> simp <;> omega
theorem endsL_succ {us : List Int} {f t h : Int} {k : Nat} (hk : k < 2) : endsL us f t h (k + 1) = endsL us f t h k ++ endL us h (if k = 0 then f else t) := by
  rcases (show k = 0 ∨ k = 1 by omega) with rfl | rfl <;> simp [endsL]
def stopsL (us : List Int) (f t h : Int) : List Int := endsL us f t h 2 ++ mids us f t h us.length

/-- a row that grows by one number -/
theorem row_one {w w' : World} {base : Nat} {v : Value} {xs : List Int} {x : Int} {n : Nat} (hn : n = xs.length + 1) (h : w'.ownsRow base 3 1 v (xs.length + 1) (xs.map (Value.int .i64) ++ [.int .i64 x])) : w'.ownsRow base 3 1 v (xs ++ [x]).length ((xs ++ [x]).map (Value.int .i64)) := by
  simpa using h

set_option maxRecDepth 100000 in
set_option maxHeartbeats 2000000 in
theorem stops_any (A : Option Addr) (c : Nat) (us : List Int) (f t h : Int) (w : World) (hu : IntsIn w.heap.size A us w) (ok : ListOk us) (h0 : 1 ≤ h) (h1 : h ≤ 30000) :
    Calls Try.prog 83 #[.agg #[.int .i64 f, .int .i64 t], .slice A us.length c, .int .i64 h] w fun e w' => ∃ v, e = .returned v ∧ w'.ownsRow w.heap.size 3 1 v (stopsL us f t h).length ((stopsL us f t h).map (Value.int .i64)) ∧ Below w.heap.size w w' := by
  obtain ⟨i0, hi0, hz0, hz1, hz2⟩ := info_parts infoInt
  have hm := hu.1
  unfold maxLen at hm
  have n0 := ok.n0
  have n1 := ok.n1
  have bw0 : Below w.heap.size w ((w.alloc (.cells #[.int .i64 f, .int .i64 t] 115)).alloc (.cells #[.int .i64 f, .int .i64 t] 3)) := ((Below.refl _ _).alloc (Nat.le_refl _) _).alloc (by simp) _
  have b0 : ((w.alloc (.cells #[.int .i64 f, .int .i64 t] 115)).alloc (.cells #[.int .i64 f, .int .i64 t] 3)).cell? ⟨w.heap.size, 0, none⟩ = some (.int .i64 f) := by simp [go_sem]
  have b1 : ((w.alloc (.cells #[.int .i64 f, .int .i64 t] 115)).alloc (.cells #[.int .i64 f, .int .i64 t] 3)).cell? ⟨w.heap.size, 1, none⟩ = some (.int .i64 t) := by simp [go_sem]
  have b2 : ((w.alloc (.cells #[.int .i64 f, .int .i64 t] 115)).alloc (.cells #[.int .i64 f, .int .i64 t] 3)).cell? ⟨w.heap.size + 1, 0, none⟩ = some (.int .i64 f) := by simp [go_sem]
  have b3 : ((w.alloc (.cells #[.int .i64 f, .int .i64 t] 115)).alloc (.cells #[.int .i64 f, .int .i64 t] 3)).cell? ⟨w.heap.size + 1, 1, none⟩ = some (.int .i64 t) := by simp [go_sem]
  have sz : ((w.alloc (.cells #[.int .i64 f, .int .i64 t] 115)).alloc (.cells #[.int .i64 f, .int .i64 t] 3)).heap.size = w.heap.size + 1 + 1 := by simp
  have HU := Lib.hid (hu.keep bw0 (Nat.le_refl _))
  have B := Lib.hid (And.intro b0 (And.intro b1 (And.intro b2 b3)))
  have SZ := Lib.hid sz
  clear b0 b1 b2 b3 sz hu
  go_enter Try.func83, Try.ntmps83
  go_wp2_with fail
  generalize ((w.alloc (.cells #[.int .i64 f, .int .i64 t] 115)).alloc (.cells #[.int .i64 f, .int .i64 t] 3)) = W0 at *
  go_loopg [7, 18] 2 (fun n v i' wr => ∃ k : Nat, k ≤ 2 ∧ n = 2 - k ∧ i' = .int .i64 k ∧ wr.ownsRow W0.heap.size 3 1 v (endsL us f t h k).length ((endsL us f t h k).map (Value.int .i64)) ∧ Below W0.heap.size W0 wr)
  case atStart => exact ⟨0, by omega, rfl, rfl, ⟨rfl, .inl ⟨rfl, rfl⟩⟩, Below.refl _ _⟩
  case round =>
    obtain ⟨k, hk, hn0, rfl, hown, hb⟩ := hrel
    have HN := Lib.hid hn0
    clear hn0
    have hsz := hb.size
    by_cases hlt : k < 2
    · have hle := endsL_le us f t h k
      have hs := endsL_succ (us := us) (f := f) (t := t) (h := h) hlt
      obtain ⟨x, hx⟩ : ∃ x, x = (if k = 0 then f else t) := ⟨_, rfl⟩
      rw [← hx] at hs
      have hcell : wr.cell? ⟨w.heap.size + 1, k, none⟩ = some (.int .i64 x) := by
        rw [hb.cell (p := ⟨w.heap.size + 1, k, none⟩) (by show w.heap.size + 1 < _; have := SZ.out; omega), hx]
        rcases (show k = 0 ∨ k = 1 by omega) with rfl | rfl
        · exact B.out.2.2.1
        · exact B.out.2.2.2
      clear hx
      have HU1 := Lib.hid ((HU.out.keep hb (by have := SZ.out; omega)).more (B' := wr.heap.size) (by have := SZ.out; omega))
      have HL := Lib.hid (show (endsL us f t h k).length ≤ 2 from hle)
      clear hle
      cases hin : inB2 us h x x
      · have he : Hid (endsL us f t h (k + 1) = endsL us f t h k) := by show _ = _; rw [hs]; unfold endL; rw [hin]; simp
        have HD := Lib.hid hin
        clear hin hs
        go_wp2_with fail
        refine (isIn_any _ _ us x x h _ HU1.out ok h0 h1).mono ?_
        rintro e w1 ⟨rfl, hb1⟩
        rw [HD.out]
        have hbq := hb.trans (hb1.below.mono hsz)
        have hown1 := ownsRow_below hown hb1.below
        go_wp2_with fail
        go_roundg (2 - (k + 1))
        case measure => have := HN.out; omega
        case rel => exact ⟨k + 1, by omega, rfl, by go_num, by rw [he.out]; exact hown1, hbq⟩
      · have he : Hid (endsL us f t h (k + 1) = endsL us f t h k ++ [x]) := by show _ = _; rw [hs]; unfold endL; rw [hin]; simp
        have HD := Lib.hid hin
        clear hin hs
        go_wp2_with fail
        refine (isIn_any _ _ us x x h _ HU1.out ok h0 h1).mono ?_
        rintro e w1 ⟨rfl, hb1⟩
        rw [HD.out]
        have hbq := hb.trans (hb1.below.mono hsz)
        have hown1 := ownsRow_below hown hb1.below
        have q1 : (endsL us f t h k).length + 1 ≤ maxLen := by have := HL.out; unfold maxLen; omega
        have q2 : ((endsL us f t h k).length + 1) * 8 ≤ 140737488355328 := by have := HL.out; omega
        have q3 : W0.heap.size ≤ (w1.alloc (.cells #[.int .i64 x] 3)).heap.size := by have := hbq.size; simp; omega
        go_wp2_with (at_builtin; refine wpList_append_own _ rfl (.tmp 28) (.tmp 30) 58 rfl W0.heap.size 3 i0 (.int .i64 0) 1 8 Try.underlying58 hi0 hz0 hz1 hz2 rfl (by decide) _ _ _ rfl (hown1.alloc _) ⟨w1.heap.size, 0, none⟩ 1 1 [.int .i64 x] rfl rfl (cell_one_new _ _ _) (by simp [Value.oneCell']) q1 q2 q3 ?_; intro v2 w2 hown2 hgrow2 _)
        have hb2 := (hbq.alloc hbq.size (.cells #[.int .i64 x] 3)).grown hgrow2 (by have := hbq.size; simp; omega) (fun j hj => ((hown1.alloc (.cells #[.int .i64 x] 3)).lt j hj).1)
        go_wp2_with fail
        go_roundg (2 - (k + 1))
        case measure => have := HN.out; omega
        case rel => exact ⟨k + 1, by omega, rfl, by go_num, by rw [he.out]; simpa using hown2, hb2⟩
    · obtain rfl : k = 2 := by omega
      clear HN hsz
      obtain ⟨wo, rfl⟩ : ∃ wo : World, wo = wr := ⟨_, rfl⟩
      go_wp2_with fail
      go_loopg [7, 35] us.length (fun n v i' wr => ∃ k : Nat, k ≤ us.length ∧ n = us.length - k ∧ i' = .int .i64 k ∧ wr.ownsRow W0.heap.size 3 1 v (endsL us f t h 2 ++ mids us f t h k).length ((endsL us f t h 2 ++ mids us f t h k).map (Value.int .i64)) ∧ Below W0.heap.size W0 wr)
      case atStart => exact ⟨0, by omega, by omega, rfl, by simpa [mids] using hown, hb⟩
      case round =>
        clear hown hb
        obtain ⟨k, hk, hn0, rfl, hown, hb⟩ := hrel
        have HN := Lib.hid hn0
        clear hn0
        have hsz := hb.size
        have HU1 := Lib.hid ((HU.out.keep hb (by have := SZ.out; omega)).more (B' := wr.heap.size) (by have := SZ.out; omega))
        by_cases hlt : k < us.length
        · have hcell0 : wr.cell? ⟨w.heap.size, 0, none⟩ = some (.int .i64 f) := by rw [hb.cell (p := ⟨w.heap.size, 0, none⟩) (by show w.heap.size < _; have := SZ.out; omega)]; exact B.out.1
          have hcell1 : wr.cell? ⟨w.heap.size, 1, none⟩ = some (.int .i64 t) := by rw [hb.cell (p := ⟨w.heap.size, 1, none⟩) (by show w.heap.size < _; have := SZ.out; omega)]; exact B.out.2.1
          have hle : (endsL us f t h 2 ++ mids us f t h k).length ≤ 14 := by
            have := endsL_le us f t h 2
            have := mids_le us f t h k
            rw [List.length_append]; omega
          obtain ⟨b', o', rfl, hb', hc'⟩ := HU1.out.2 (by omega)
          have hck := hc' k hlt
          clear hc'
          obtain ⟨m0, m1⟩ := mulh (ok.lo k hlt) (ok.hi k hlt) h0 h1
          have e1 : IntKind.i64.wrap (nth us k * h) = nth us k * h := IntWalk.i64_in _ (by omega)
          have hs := mids_succ (f := f) (t := t) (h := h) hlt
          cases hin : inB (nth us k * h) f t
          · have he : Hid (endsL us f t h 2 ++ mids us f t h (k + 1) = endsL us f t h 2 ++ mids us f t h k) := by show _ = _; rw [hs, hin]; simp
            have HD := Lib.hid hin
            clear hin hs hle
            go_wp2_with fail
            refine (isFrom_any _ _ _ _).mono ?_
            rintro e w1 ⟨rfl, rfl⟩
            rw [HD.out]
            go_wp2_with fail
            go_roundg (us.length - (k + 1))
            case measure => have := HN.out; omega
            case rel => exact ⟨k + 1, by omega, rfl, by go_num, by rw [he.out]; exact hown, hb⟩
          · have he : Hid (endsL us f t h 2 ++ mids us f t h (k + 1) = (endsL us f t h 2 ++ mids us f t h k) ++ [nth us k * h]) := by show _ = _; rw [hs, hin]; simp
            have HD := Lib.hid hin
            clear hin hs
            go_wp2_with fail
            refine (isFrom_any _ _ _ _).mono ?_
            rintro e w1 ⟨rfl, rfl⟩
            rw [HD.out]
            have q1 : (endsL us f t h 2 ++ mids us f t h k).length + 1 ≤ maxLen := by unfold maxLen; omega
            have q2 : ((endsL us f t h 2 ++ mids us f t h k).length + 1) * 8 ≤ 140737488355328 := by omega
            have q3 : W0.heap.size ≤ (wr.alloc (.cells #[.int .i64 (nth us k * h)] 3)).heap.size := by have := hb.size; simp; omega
            generalize hxs : endsL us f t h 2 ++ mids us f t h k = xs at *
            have HX := Lib.hid hxs
            clear hxs
            go_wp2_with (at_builtin; refine wpList_append_own _ rfl (.tmp 47) (.tmp 51) 58 rfl W0.heap.size 3 i0 (.int .i64 0) 1 8 Try.underlying58 hi0 hz0 hz1 hz2 rfl (by decide) _ _ _ rfl (hown.alloc _) ⟨wr.heap.size, 0, none⟩ 1 1 [.int .i64 (nth us k * h)] rfl rfl (cell_one_new _ _ _) (by simp [Value.oneCell']) q1 q2 q3 ?_; intro v2 w2 hown2 hgrow2 _)
            have hb2 := (hb.alloc hb.size (.cells #[.int .i64 (nth us k * h)] 3)).grown hgrow2 (by have := hb.size; simp; omega) (fun j hj => ((hown.alloc (.cells #[.int .i64 (nth us k * h)] 3)).lt j hj).1)
            go_wp2_with fail
            go_roundg (us.length - (k + 1))
            case measure => have := HN.out; omega
            case rel => exact ⟨k + 1, by omega, rfl, by go_num, by rw [he.out]; simpa using hown2, hb2⟩
        · obtain rfl : k = us.length := by omega
          go_wp2_with fail
          go_ret
          exact ⟨_, rfl, ownsRow_more hown (by have := SZ.out; omega), bw0.trans (hb.mono (by have := SZ.out; omega))⟩
end Go.Proofs.Ytgmpipciinphiaa
