/- The level for so many vehicles: a loop over the rows from the last one on (code). -/
import Derived.Test.YtjcgojbfjefbcaaDoorA2
import Derived.RangeFuncNested
import Derived.RangeFuncBound
import Derived.RangeFuncCalls
import Derived.RangeFuncLeaves
import Derived.Shelf.Abstract
import Derived.Shelf.RegionOpen
import Derived.OwnWalkIn
import Derived.TacticsInMore
import Derived.LoopNIn
import Derived.LoopIn
import Derived.Lib.Hide
namespace Go.Proofs.YtjcgojbfjefbcaaDoor
set_option linter.unusedSimpArgs false
set_option linter.unusedVariables false
open Go.RowKit Go.Shelf
attribute [local go_sem] Oper.semAt_some

abbrev Row2 := Int × Int
def nt (l : List Row2) (i : Nat) : Row2 := l.getD i (0, 0)
/-- the level of the last row that is not above v -/
def lvR : List Row2 → Int → Int
  | [], _ => 0
  | r :: t, v => if r.1 ≤ v then r.2 else lvR t v
def lvF (rs : List Row2) (v : Int) : Int := lvR rs.reverse v
theorem lvR_stop (v : Int) : ∀ (r : List Row2) (k : Nat), k < r.length → (∀ j, j < k → ¬ (nt r j).1 ≤ v) → (nt r k).1 ≤ v → lvR r v = (nt r k).2
  | [], k, h, _, _ => by simp at h
  | x :: t, 0, _, _, h => by simp only [nt, List.getD_cons_zero] at h ⊢; rw [lvR, if_pos h]
  | x :: t, k + 1, hk, hj, h => by
    have h0 := hj 0 (by omega)
    simp only [nt, List.getD_cons_zero] at h0
    simp only [nt, List.getD_cons_succ] at h ⊢
    rw [lvR, if_neg h0]
    exact lvR_stop v t k (by simpa using hk) (fun j hj' => by have := hj (j + 1) (by omega); simpa [nt] using this) h
theorem lvR_none (v : Int) : ∀ (r : List Row2), (∀ j, j < r.length → ¬ (nt r j).1 ≤ v) → lvR r v = 0
  | [], _ => rfl
  | x :: t, hj => by
    have h0 := hj 0 (by simp)
    simp only [nt, List.getD_cons_zero] at h0
    rw [lvR, if_neg h0]
    exact lvR_none v t (fun j hj' => by have := hj (j + 1) (by simpa using hj'); simpa [nt] using this)
theorem nt_rev (rs : List Row2) (k : Nat) (h : k < rs.length) : nt rs.reverse k = nt rs (rs.length - 1 - k) := by
  unfold nt
  rw [List.getD_eq_getElem?_getD, List.getD_eq_getElem?_getD, List.getElem?_reverse h]
theorem lvF_stop (rs : List Row2) (v : Int) (k : Nat) (h : k < rs.length) (hj : ∀ j, j < k → ¬ (nt rs (rs.length - 1 - j)).1 ≤ v) (hx : (nt rs (rs.length - 1 - k)).1 ≤ v) : lvF rs v = (nt rs (rs.length - 1 - k)).2 := by
  unfold lvF
  rw [← nt_rev rs k h] at hx ⊢
  exact lvR_stop v _ k (by simpa using h) (fun j hj' => by rw [nt_rev rs j (by omega)]; exact hj j hj') hx
theorem lvF_none (rs : List Row2) (v : Int) (hj : ∀ j, j < rs.length → ¬ (nt rs (rs.length - 1 - j)).1 ≤ v) : lvF rs v = 0 :=
  lvR_none v _ (fun j hj' => by rw [nt_rev rs j (by simpa using hj')]; exact hj j (by simpa using hj'))

/-- the rows lie in a block below n₀ -/
def RowsAt (n₀ : Nat) (A : Option Addr) (rs : List Row2) (w : World) : Prop :=
  0 < rs.length → ∃ b o, A = some ⟨b, o, none⟩ ∧ b < n₀ ∧ ∀ j, j < rs.length → w.cell? ⟨b, o + j*2, none⟩ = some (.int .i64 (nt rs j).1) ∧ w.cell? ⟨b, o + j*2+1, none⟩ = some (.int .i64 (nt rs j).2)
theorem RowsAt.below {n₀ : Nat} {A : Option Addr} {rs : List Row2} {w w' : World} (h : RowsAt n₀ A rs w) (k : Below n₀ w w') : RowsAt n₀ A rs w' := fun hn => by
  obtain ⟨b, o, ha, hb, hc⟩ := h hn
  exact ⟨b, o, ha, hb, fun j hj => ⟨(k.cell (p := ⟨b, o + j*2, none⟩) hb).trans (hc j hj).1, (k.cell (p := ⟨b, o + j*2+1, none⟩) hb).trans (hc j hj).2⟩⟩
theorem RowsAt.more {n m : Nat} {A : Option Addr} {rs : List Row2} {w : World} (h : RowsAt n A rs w) (hm : n ≤ m) : RowsAt m A rs w := fun hn => by
  obtain ⟨b, o, ha, hb, hc⟩ := h hn
  exact ⟨b, o, ha, by omega, hc⟩
/-- what is yielded: an index, and a row -/
abbrev encR (rs : List Row2) (k : Nat) : Array Value := #[.int .i64 ((rs.length : Int) - 1 - k), .agg #[.int .i64 (nt rs (rs.length - 1 - k)).1, .int .i64 (nt rs (rs.length - 1 - k)).2]]

set_option maxRecDepth 100000 in
set_option maxHeartbeats 2000000 in
theorem back_in (F : Fence) (n : Nat) (hF : F.fn 104) (hro : F.round = none) (hn : 1 ≤ n) (l bs n₀ : Nat) (A : Option Addr) (c : Nat) (rs : List Row2) (hbs : bs < n₀) (hlen : rs.length ≤ 1000) (J Jx : List Nat → World → Prop)
    (hY : ∀ pre x W, J pre W → pre.length < rs.length → YieldAt F (n - 1) Tryd.prog l (encR rs x) W fun e W' =>
      (e = .returned (.bool true) ∧ J (pre ++ [x]) W' ∧ Below n₀ W W') ∨ (e = .returned (.bool false) ∧ Jx (pre ++ [x]) W'))
    (W : World) (hU : W.cell? ⟨bs, 0, none⟩ = some (.slice A rs.length c)) (hu : RowsAt n₀ A rs W) (h0 : J [] W) :
    CallsIn F n Tryd.prog 104 #[.func (.yield l) #[] #[], .pointer (some ⟨bs, 0, none⟩)] W fun e W' => (∃ v, e = .returned v) ∧
      ((∃ xs, xs = List.range rs.length ∧ J xs W') ∨ (∃ pre, (pre = List.range pre.length ∧ pre.length ≤ rs.length) ∧ Jx pre W')) := by
  refine callsIn_of_wp Tryd.func104 rfl hF ?_ hro
  simp only [Tryd.ntmps104, List.size_toArray, List.length_cons, List.length_nil, Nat.reduceAdd, Nat.reduceSub, Array.replicate_succ, Array.replicate_zero, List.push_toArray, List.append_toArray, List.nil_append, List.cons_append]
  gi_wp2
  gi_loopw [3] (fun i' wr => ∃ k : Nat, k ≤ rs.length ∧ i' = .int .i64 ((rs.length : Int) - 1 - k) ∧ J (List.range k) wr ∧ Below n₀ W wr)
    (fun i' _ => (intOf i' + 1).toNat)
  case atStart => exact ⟨0, Nat.zero_le _, by simp, h0, Below.refl _ _⟩
  case round =>
    obtain ⟨k, hk, rfl, hJ, hb⟩ := hrel
    by_cases hlt : k < rs.length
    · obtain ⟨b, o, rfl, hbn, hc⟩ := hu (by omega)
      obtain ⟨m, hm⟩ : ∃ m, m = rs.length - 1 - k := ⟨_, rfl⟩
      have em : ((rs.length : Int) - 1 - k) = (m : Int) := by omega
      have hmlt : m < rs.length := by omega
      obtain ⟨q0, q1⟩ := hc m hmlt
      have c0 := (hb.cell (p := ⟨b, o + m*2, none⟩) hbn).trans q0
      have c1 := (hb.cell (p := ⟨b, o + m*2+1, none⟩) hbn).trans q1
      have hU' := (hb.cell (p := ⟨bs, 0, none⟩) hbs).trans hU
      obtain ⟨fn, tmps, assign, body, hy, hR⟩ := hY (List.range k) k wr hJ (by simpa using hlt)
      dsimp only [encR] at hy
      rw [em, ← hm] at hy
      rw [em]
      have HM := Lib.hid hm
      have EM := Lib.hid em
      clear hc q0 q1 hm em hJ hU hu
      gi_wp2
      refine hR.mono ?_
      rintro e W3 (⟨rfl, hJ3, hk3⟩ | ⟨rfl, hJx3⟩)
      · have hb3 := hb.trans hk3
        gi_wp2
        go_roundw
        case rel => exact ⟨k + 1, by omega, congrArg (Value.int .i64) (by have := HM.out; omega), by rw [List.range_succ]; exact hJ3, hb3⟩
        case measure => simp [intOf]
      · gi_wp2
        refine bodyPost_ret (results_none rfl _ _ _) rfl ?_
        exact ⟨⟨_, rfl⟩, .inr ⟨_, ⟨by simp [List.range_succ], by simp; omega⟩, hJx3⟩⟩
    · obtain rfl : k = rs.length := by omega
      have e0 : ((rs.length : Int) - 1 - (rs.length : Int)) = -1 := by omega
      rw [e0]
      clear e0
      gi_wp2
      go_end0
      exact ⟨⟨_, rfl⟩, .inl ⟨_, rfl, hJ⟩⟩
theorem back_stops (n bs n₀ : Nat) (A : Option Addr) (c : Nat) (rs : List Row2) (w : World) (hn : 1 ≤ n) (hbs : bs < n₀) (hn0 : n₀ ≤ w.heap.size) (hlen : rs.length ≤ 1000)
    (hU : w.cell? ⟨bs, 0, none⟩ = some (.slice A rs.length c)) (hu : RowsAt n₀ A rs w) :
    SeqStopsK Fence.wide n Tryd.prog 104 #[.pointer (some ⟨bs, 0, none⟩)] (encR rs) (Below n₀) (fun xs => xs = List.range rs.length) (fun pre => pre = List.range pre.length ∧ pre.length ≤ rs.length) rs.length w := fun l J Jx W hW _ _ hY h0 => by
  have k : Below n₀ w W := hW.mono hn0
  exact back_in Fence.wide n trivial rfl hn l bs n₀ A c rs hbs hlen J Jx hY W ((k.cell (p := ⟨bs, 0, none⟩) hbs).trans hU) (hu.below k) h0
end Go.Proofs.YtjcgojbfjefbcaaDoor
