/- Read of the code. -/
import Derived.Test.YtdikelijnachjaaDoorRd2
namespace Go.Proofs.YtdikelijnachjaaDoor
set_option linter.unusedSimpArgs false
set_option linter.unusedVariables false
open Go.RowKit
attribute [local go_sem ↓] Go.wp_at_zero Go.wp_at_succ

/-- what Read returns of a text that ends with a letter -/
def rdE (b : List UInt8) (c : UInt8) : Int := if dirK c && rsK b then (if far (dirA c) < rsN b then 7 else 0) else 6
def rdA (b : List UInt8) (c : UInt8) : Int := if rdE b c = 0 then dirS c * rsN b else 0
def rdX (b : List UInt8) (c : UInt8) : Int := if rdE b c = 0 then dirA c else 0
/-- and of any text -/
def reE (l : List UInt8) : Int := if 20 < l.length then 3 else match l.getLast? with | some c => rdE l.dropLast c | none => 6
def reA (l : List UInt8) : Int := if 20 < l.length then 0 else match l.getLast? with | some c => rdA l.dropLast c | none => 0
def reX (l : List UInt8) : Int := if 20 < l.length then 0 else match l.getLast? with | some c => rdX l.dropLast c | none => 0
abbrev read3 (a x e : Int) : Value := .tuple #[.int .i64 a, .int .i64 x, .int .i64 e]

set_option maxHeartbeats 1000000 in
theorem read_long (l : List UInt8) (w : World) (h : 20 < l.length) (hs : l.length ≤ 9223372036854775807) :
    Calls Tryd.prog 38 #[.string ⟨l.toArray⟩] w fun e w' => e = .returned (read3 0 0 3) ∧ Below w.heap.size w w' := by
  have hi : (20 : Int) < (l.length : Int) := by omega
  go_enter Tryd.func38, Tryd.ntmps38
  go_wp2_with fail
  go_ret3
  exact ⟨rfl, Below.refl _ _⟩
set_option maxHeartbeats 1000000 in
theorem read_none (w : World) :
    Calls Tryd.prog 38 #[.string ⟨#[]⟩] w fun e w' => e = .returned (read3 0 0 6) ∧ Below w.heap.size w w' := by
  go_enter Tryd.func38, Tryd.ntmps38
  go_wp2_with fail
  go_ret3
  exact ⟨rfl, Below.refl _ _⟩

theorem dir_bd (c : UInt8) : (dirA c = 0 ∨ dirA c = 1) ∧ (dirS c = 0 ∨ dirS c = 1 ∨ dirS c = -1) := by
  unfold dirA dirS
  repeat' split
  all_goals first | exact ⟨.inl rfl, .inl rfl⟩ | exact ⟨.inl rfl, .inr (.inl rfl)⟩ | exact ⟨.inl rfl, .inr (.inr rfl)⟩ | exact ⟨.inr rfl, .inr (.inl rfl)⟩ | exact ⟨.inr rfl, .inr (.inr rfl)⟩
theorem rsN_bd (b : List UInt8) : 0 ≤ rsN b ∧ rsN b ≤ 1000000000 := by
  unfold rsN
  cases hk : rsK b
  · rw [if_neg (by decide)]; omega
  · rw [if_pos rfl]
    unfold rsK at hk
    rw [Bool.and_eq_true] at hk
    obtain ⟨k1, k2⟩ := hk
    have c3 := (cut_len b).2.2
    have hw : (rsW b).length ≤ 3 ∧ (rsW b).all digB = true := by
      unfold isD at k1
      rw [Bool.and_eq_true] at k1
      have := of_decide_eq_true k1.2
      exact ⟨by omega, k1.1⟩
    have hp : (rsP b).length ≤ 6 ∧ (rsP b).all digB = true := by
      cases hh : rsH b
      · rw [c3 hh]; exact ⟨by simp, rfl⟩
      · rw [hh] at k2
        have k3 : isD (rsP b) 6 = true := by simpa using k2
        unfold isD at k3
        rw [Bool.and_eq_true] at k3
        have := of_decide_eq_true k3.2
        exact ⟨by omega, k3.1⟩
    have dall : (rsD b).all digB = true := by
      unfold rsD
      rw [List.all_append, List.all_append, hw.2, hp.2]
      simp [List.all_replicate]
      right; decide
    have dlen : (rsD b).length < 10 := by unfold rsD; simp; omega
    obtain ⟨v0, v1⟩ := numV_bd (rsD b) 0 (by omega) dall
    have := ten_pow _ dlen
    omega

set_option maxRecDepth 100000 in
set_option maxHeartbeats 1000000 in
theorem read_walk (b : List UInt8) (c : UInt8) (x g n : Int) (k1 k2 : Bool) (v : Value) (w : World) (t : Tabs w) (hl : b.length ≤ 19) (hx : x = 0 ∨ x = 1) (hg : g = 0 ∨ g = 1 ∨ g = -1) (hn : 0 ≤ n ∧ n ≤ 1000000000)
    (hv : Hid (v = if k1 && k2 then (if far x < n then read3 0 0 7 else read3 (g * n) x 0) else read3 0 0 6))
    (D : ∀ w, Tabs w → Calls Tryd.prog 70 #[.int .u8 c.toNat] w fun e w' => e = .returned (.tuple #[.int .i64 x, .int .i64 g, .bool k1]) ∧ Below w.heap.size w w')
    (S : ∀ w, Tabs w → Calls Tryd.prog 71 #[.string ⟨b.toArray⟩] w fun e w' => e = .returned (.tuple #[.int .i64 n, .bool k2]) ∧ Below w.heap.size w w') :
    Calls Tryd.prog 38 #[.string ⟨(b ++ [c]).toArray⟩] w fun e w' => e = .returned v ∧ Below w.heap.size w w' := by
  have D' := Lib.hid D
  have S' := Lib.hid S
  clear D S
  have hlen : (⟨(b ++ [c]).toArray⟩ : ByteArray).size = b.length + 1 := by simp [ByteArray.size]
  have hcc : ∀ h, ((⟨(b ++ [c]).toArray⟩ : ByteArray)[b.length]'h) = c := by
    intro h
    show (b ++ [c]).toArray[b.length]'_ = c
    simp
  have hie : (b ++ [c]).isEmpty = false := by simp
  have h20 : ¬ (20 < (b.length : Int) + 1) := by omega
  have hx2 : ByteArray.extract ⟨(b ++ [c]).toArray⟩ 0 b.length = ⟨b.toArray⟩ := by
    apply ByteArray.ext
    simp [ByteArray.data_extract]
  have hw1 : IntKind.i64.wrap ((b.length : Int) + 1 - 1) = (b.length : Int) := by rw [show (b.length : Int) + 1 - 1 = b.length by omega]; exact IntWalk.i64_in _ (by omega)
  have hgn : IntKind.i64.wrap (g * n) = g * n := by rcases hg with rfl | rfl | rfl <;> exact IntWalk.i64_in _ (by omega)
  go_enter Tryd.func38, Tryd.ntmps38
  go_wp2_with fail
  refine (D'.out _ t).mono ?_
  rintro e w1 ⟨rfl, hb1⟩
  have t1 := t.below hb1
  go_wp2_with fail
  refine (S'.out _ t1).mono ?_
  rintro e w2 ⟨rfl, hb2⟩
  have o2 := hb1.trans (hb2.mono hb1.size)
  obtain ⟨f0, f1, _, _, _, _, _, _, _, _, _, _, _, _, _, _, hsz⟩ := t.below o2
  cases k1
  · go_wp2_with fail
    go_ret3
    exact ⟨by rw [hv.out]; rfl, o2⟩
  · cases k2
    · go_wp2_with fail
      go_ret3
      exact ⟨by rw [hv.out]; rfl, o2⟩
    · rcases hx with rfl | rfl
      · have hf : far 0 = 90000000 := rfl
        by_cases hr : 90000000 < n
        · go_wp2_with fail
          go_ret3
          exact ⟨by rw [hv.out, hf, if_pos (by decide), if_pos (by omega)]; rfl, o2⟩
        · go_wp2_with fail
          go_ret3
          exact ⟨by rw [hv.out, hf, if_pos (by decide), if_neg (by omega)]; rfl, o2⟩
      · have hf : far 1 = 180000000 := rfl
        by_cases hr : 180000000 < n
        · go_wp2_with fail
          go_ret3
          exact ⟨by rw [hv.out, hf, if_pos (by decide), if_pos (by omega)]; rfl, o2⟩
        · go_wp2_with fail
          go_ret3
          exact ⟨by rw [hv.out, hf, if_pos (by decide), if_neg (by omega)]; rfl, o2⟩

theorem read_any (l : List UInt8) (w : World) (t : Tabs w) (hs : l.length ≤ 9223372036854775807) :
    Calls Tryd.prog 38 #[.string ⟨l.toArray⟩] w fun e w' => e = .returned (read3 (reA l) (reX l) (reE l)) ∧ Below w.heap.size w w' := by
  unfold reA reX reE
  by_cases h : 20 < l.length
  · rw [if_pos h, if_pos h, if_pos h]; exact read_long l w h hs
  · rw [if_neg h, if_neg h, if_neg h]
    rcases List.eq_nil_or_concat l with rfl | ⟨b, c, rfl⟩
    · exact read_none w
    · simp only [List.concat_eq_append] at h hs ⊢
      have e1 : (b ++ [c]).getLast? = some c := by simp
      have e2 : (b ++ [c]).dropLast = b := by simp
      rw [e1, e2]
      have hb : b.length ≤ 19 := by simp at h; omega
      have d := dir_bd c
      refine read_walk b c (dirA c) (dirS c) (rsN b) (dirK c) (rsK b) _ w t hb d.1 d.2 (rsN_bd b) ?_ (fun w t => direction_any c w t) (fun w t => readSize_any b w t (by omega))
      show read3 (rdA b c) (rdX b c) (rdE b c) = _
      unfold rdA rdX rdE
      cases (dirK c && rsK b)
      · rfl
      · rw [if_pos rfl, if_pos rfl]
        by_cases k : far (dirA c) < rsN b
        · rw [if_pos k, if_pos k]; rfl
        · rw [if_neg k, if_neg k]; rfl
end Go.Proofs.YtdikelijnachjaaDoor
