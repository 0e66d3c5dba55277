/- The crossings of two lists: what the iterator yields. -/
import Derived.Test.YtgmpipciinphiaaStp
import Derived.RangeFuncNested
import Derived.RangeFuncBound
import Derived.RangeFuncCalls
import Derived.RangeFuncLeaves
import Derived.Shelf.Abstract
import Derived.Shelf.RegionOpen
import Derived.OwnWalkIn
import Derived.TacticsInMore
import Derived.LoopNIn
import Derived.LoopIn
namespace Go.Proofs.Ytgmpipciinphiaa
set_option linter.unusedSimpArgs false
set_option linter.unusedVariables false
open Go.RowKit Go.Shelf
attribute [local go_sem] Oper.semAt_some

/-- all pairs of one of us and one of vs -/
def prs (us vs : List Int) : List (Int × Int) := us.flatMap fun u => vs.map fun v => (u, v)

theorem prs_length (us vs : List Int) : (prs us vs).length = us.length * vs.length := by
  unfold prs
  rw [List.length_flatMap]
  induction us with
  | nil => simp
  | cons u us ih => simp only [List.map_cons, List.sum_cons, List.length_map, List.length_cons] at ih ⊢; rw [ih, Nat.succ_mul]; omega
theorem prs_at : ∀ {us vs : List Int} {i k : Nat}, i < us.length → k < vs.length → (prs us vs)[i * vs.length + k]? = some (nth us i, nth vs k)
  | u :: us, vs, 0, k, _, hk => by
    unfold prs
    rw [List.flatMap_cons, Nat.zero_mul, Nat.zero_add, List.getElem?_append_left (by simpa using hk), List.getElem?_map, nth_eq hk]
    simp [hk, nth]
  | u :: us, vs, i + 1, k, hi, hk => by
    have ih := prs_at (us := us) (vs := vs) (i := i) (k := k) (by simpa using hi) hk
    have e : (prs (u :: us) vs) = vs.map (fun v => (u, v)) ++ prs us vs := rfl
    rw [e, List.getElem?_append_right (by rw [List.length_map, Nat.succ_mul]; omega), List.length_map, Nat.succ_mul, show i * vs.length + vs.length + k - vs.length = i * vs.length + k by omega, ih]
    simp [nth]

/-- a pair of the two lists -/
abbrev Pr (us vs : List Int) := { p : Int × Int // p ∈ prs us vs }
abbrev encs {us vs : List Int} (p : Pr us vs) : Array Value := #[.int .i64 p.1.1, .int .i64 p.1.2]

theorem pr_next {us vs : List Int} {i k : Nat} (hi : i < us.length) (hk : k < vs.length) {pre : List (Pr us vs)} (h : pre.map (·.1) = (prs us vs).take (i * vs.length + k)) :
    ∃ x : Pr us vs, x.1 = (nth us i, nth vs k) ∧ (pre ++ [x]).map (·.1) = (prs us vs).take (i * vs.length + (k + 1)) ∧ pre.length < (prs us vs).length := by
  have hat := prs_at hi hk
  obtain ⟨hlt, he⟩ := List.getElem?_eq_some_iff.1 hat
  refine ⟨⟨(nth us i, nth vs k), by rw [← he]; exact List.getElem_mem hlt⟩, rfl, ?_, ?_⟩
  · rw [List.map_append, h, ← Nat.add_assoc, List.take_add_one, hat]; rfl
  · have := congrArg List.length h
    rw [List.length_map, List.length_take] at this
    omega

/-- the cells of the blocks from m on, below n, are as they were -/
def Keep (m n : Nat) (W W' : World) : Prop := ∀ p : Addr, m ≤ p.block → p.block < n → W'.cell? p = W.cell? p
theorem Keep.refl (m n : Nat) (W : World) : Keep m n W W := fun _ _ _ => rfl
theorem Keep.trans {m n : Nat} {X Y Z : World} (h : Keep m n X Y) (k : Keep m n Y Z) : Keep m n X Z := fun p h1 h2 => (k p h1 h2).trans (h p h1 h2)
theorem Keep.of_below {m n : Nat} {X Y : World} (h : Below n X Y) : Keep m n X Y := fun p _ h2 => h.cell h2
/-- the slice at A holds the numbers xs, in a block from m on, below n -/
def IntsFrom (m n : Nat) (A : Option Addr) (xs : List Int) (w : World) : Prop :=
  xs.length ≤ maxLen ∧ (0 < xs.length → ∃ b o, A = some ⟨b, o, none⟩ ∧ m ≤ b ∧ b < n ∧ ∀ j, j < xs.length → w.cell? ⟨b, o + j, none⟩ = some (.int .i64 (nth xs j)))
theorem IntsFrom.keep {m n : Nat} {A : Option Addr} {xs : List Int} {W W' : World} (h : IntsFrom m n A xs W) (k : Keep m n W W') : IntsFrom m n A xs W' := by
  refine ⟨h.1, fun hn => ?_⟩
  obtain ⟨b, o, ha, hm, hb, hc⟩ := h.2 hn
  exact ⟨b, o, ha, hm, hb, fun j hj => (k ⟨b, o + j, none⟩ hm hb).trans (hc j hj)⟩
theorem IntsFrom.more {m n m' n' : Nat} {A : Option Addr} {xs : List Int} {W : World} (h : IntsFrom m n A xs W) (hm : m' ≤ m) (hn : n ≤ n') : IntsFrom m' n' A xs W := by
  refine ⟨h.1, fun hl => ?_⟩
  obtain ⟨b, o, ha, hm', hb, hc⟩ := h.2 hl
  exact ⟨b, o, ha, by omega, by omega, hc⟩
theorem ints_from_own {w : World} {base : Nat} {v : Value} {xs : List Int} (h : w.ownsRow base 3 1 v xs.length (xs.map (Value.int .i64))) (hm : xs.length ≤ maxLen) : ∃ A c, v = .slice A xs.length c ∧ IntsFrom base w.heap.size A xs w := by
  rcases h.2 with ⟨h1, h2⟩ | ⟨g, cap, cur, h1, h2, h3, h4, h5, h6, h7⟩
  · exact ⟨none, 0, by rw [h1, h2], hm, fun hh => by omega⟩
  · refine ⟨_, cap, h1, hm, fun hh => ⟨g, 0, rfl, h2, (Array.getElem?_eq_some_iff.1 h3).1, fun j hj => ?_⟩⟩
    have h8 : cur[j]? = some (.int .i64 (nth xs j)) := by
      have e1 : (cur.toList.take (xs.length * 1))[j]? = cur[j]? := by
        rw [List.getElem?_take, if_pos (by omega), Array.getElem?_toList]
      rw [← e1, h7, List.getElem?_map, nth_eq hj]
      simp [hj]
    simp [World.cell?, h3, h8]

set_option maxRecDepth 100000 in
set_option maxHeartbeats 2000000 in
theorem cross_in (F : Fence) (n : Nat) (hF : F.fn 104) (hro : F.round = none) (hn : 1 ≤ n) (l bu bv m₀ n₀ : Nat) (A B : Option Addr) (c d : Nat) (us vs : List Int) (hu0 : m₀ ≤ bu ∧ bu < n₀) (hv0 : m₀ ≤ bv ∧ bv < n₀) (J Jx : List (Pr us vs) → World → Prop)
    (hY : ∀ pre x W, J pre W → pre.length < (prs us vs).length → YieldAt F (n - 1) Try.prog l (encs x) W fun e W' =>
      (e = .returned (.bool true) ∧ J (pre ++ [x]) W' ∧ Keep m₀ n₀ W W') ∨ (e = .returned (.bool false) ∧ Jx (pre ++ [x]) W'))
    (W : World) (hU : W.cell? ⟨bu, 0, none⟩ = some (.slice A us.length c)) (hV : W.cell? ⟨bv, 0, none⟩ = some (.slice B vs.length d)) (hu : IntsFrom m₀ n₀ A us W) (hv : IntsFrom m₀ n₀ B vs W) (h0 : J [] W) :
    CallsIn F n Try.prog 104 #[.func (.yield l) #[] #[], .pointer (some ⟨bu, 0, none⟩), .pointer (some ⟨bv, 0, none⟩)] W fun e W' => (∃ v, e = .returned v) ∧
      ((∃ ys : List (Pr us vs), ys.map (·.1) = prs us vs ∧ J ys W') ∨ (∃ pre, True ∧ Jx pre W')) := by
  have hmu := hu.1
  have hmv := hv.1
  unfold maxLen at hmu hmv
  refine callsIn_of_wp Try.func104 rfl hF ?_ hro
  simp only [Try.ntmps104, List.size_toArray, List.length_cons, List.length_nil, Nat.reduceAdd, Nat.reduceSub, Array.replicate_succ, Array.replicate_zero, List.push_toArray, List.append_toArray, List.nil_append, List.cons_append]
  gi_wp2
  gi_loopw [10] (fun i' wr => ∃ (i : Nat) (pre : List (Pr us vs)), i ≤ us.length ∧ i' = .int .i64 i ∧ J pre wr ∧ pre.map (·.1) = (prs us vs).take (i * vs.length) ∧ Keep m₀ n₀ W wr)
    (fun i' _ => us.length - (intOf i').toNat)
  case atStart => exact ⟨0, [], Nat.zero_le _, rfl, h0, by simp, Keep.refl _ _ _⟩
  case round =>
    obtain ⟨i, pre, hi, rfl, hJs, hpre, hnx⟩ := hrel
    have HP := Lib.hid hpre
    clear hpre
    by_cases hlt : i < us.length
    · obtain ⟨b, o, rfl, hbm, hb, hc⟩ := hu.2 (by omega)
      have hci := (hnx ⟨b, o + i, none⟩ hbm hb).trans (hc i hlt)
      clear hc
      have hv' : wr.cell? ⟨bv, 0, none⟩ = some (.slice B vs.length d) := (hnx ⟨bv, 0, none⟩ hv0.1 hv0.2).trans hV
      obtain ⟨wo, rfl⟩ : ∃ wo : World, wo = wr := ⟨_, rfl⟩
      gi_wp2
      gi_loopw [16] (fun k' wr => ∃ (k : Nat) (pre : List (Pr us vs)), k ≤ vs.length ∧ k' = .int .i64 k ∧ J pre wr ∧ pre.map (·.1) = (prs us vs).take (i * vs.length + k) ∧ Keep m₀ n₀ W wr)
        (fun k' _ => vs.length - (intOf k').toNat)
      case atStart => exact ⟨0, pre, Nat.zero_le _, rfl, hJs, HP.out, hnx⟩
      case round =>
        clear hJs HP hnx hci hv'
        obtain ⟨k, pre, hk, rfl, hJs, hpre, hnx⟩ := hrel
        by_cases hlk : k < vs.length
        · obtain ⟨b2, o2, rfl, hbm2, hb2, hc2⟩ := hv.2 (by omega)
          have hck := (hnx ⟨b2, o2 + k, none⟩ hbm2 hb2).trans (hc2 k hlk)
          clear hc2
          obtain ⟨x, hx, hpre', hlen⟩ := pr_next hlt hlk hpre
          have hx1 : x.1.1 = nth us i := by rw [hx]
          have hx2 : x.1.2 = nth vs k := by rw [hx]
          obtain ⟨fn, tmps, assign, body, hy, hR⟩ := hY pre x wr hJs hlen
          dsimp only [encs] at hy
          rw [hx1, hx2] at hy
          have HP := Lib.hid hpre'
          clear hpre' hpre hx hx1 hx2
          gi_wp2
          refine hR.mono ?_
          rintro e W3 (⟨rfl, hJ3, hk3⟩ | ⟨rfl, hJx3⟩)
          · have hnx3 := hnx.trans hk3
            gi_wp2
            go_roundw
            case rel => exact ⟨k + 1, _, by omega, by simp, hJ3, HP.out, hnx3⟩
            case measure => simp [intOf]; omega
          · gi_wp2
            refine bodyPost_ret (results_none rfl _ _ _) rfl ?_
            exact ⟨⟨_, rfl⟩, .inr ⟨_, trivial, hJx3⟩⟩
        · obtain rfl : k = vs.length := by omega
          have HP := Lib.hid hpre
          clear hpre
          gi_wp2
          go_roundw
          case rel => exact ⟨i + 1, pre, by omega, by simp, hJs, by rw [Nat.succ_mul]; exact HP.out, hnx⟩
          case measure => simp [intOf]; omega
    · obtain rfl : i = us.length := by omega
      gi_wp2
      go_end0
      exact ⟨⟨_, rfl⟩, .inl ⟨pre, by rw [HP.out, List.take_of_length_le (by rw [prs_length]; omega)], hJs⟩⟩

/-- the closure that crossings returns yields all pairs -/
theorem cross_stops (n bu bv m₀ n₀ : Nat) (A B : Option Addr) (c d : Nat) (us vs : List Int) (w : World) (hn : 1 ≤ n) (hu0 : m₀ ≤ bu ∧ bu < n₀) (hv0 : m₀ ≤ bv ∧ bv < n₀) (hn0 : n₀ ≤ w.heap.size)
    (hU : w.cell? ⟨bu, 0, none⟩ = some (.slice A us.length c)) (hV : w.cell? ⟨bv, 0, none⟩ = some (.slice B vs.length d)) (hu : IntsFrom m₀ n₀ A us w) (hv : IntsFrom m₀ n₀ B vs w) :
    SeqStopsK Fence.wide n Try.prog 104 #[.pointer (some ⟨bu, 0, none⟩), .pointer (some ⟨bv, 0, none⟩)] (encs (us := us) (vs := vs)) (Keep m₀ n₀) (fun ys => ys.map (·.1) = prs us vs) (fun _ => True) (prs us vs).length w := fun l J Jx W hW _ _ hY h0 => by
  have k : Keep m₀ n₀ w W := Keep.of_below (hW.mono hn0)
  exact cross_in Fence.wide n trivial rfl hn l bu bv m₀ n₀ A B c d us vs hu0 hv0 J Jx hY W ((k ⟨bu, 0, none⟩ hu0.1 hu0.2).trans hU) ((k ⟨bv, 0, none⟩ hv0.1 hv0.2).trans hV) (hu.keep k) (hv.keep k) h0
end Go.Proofs.Ytgmpipciinphiaa
