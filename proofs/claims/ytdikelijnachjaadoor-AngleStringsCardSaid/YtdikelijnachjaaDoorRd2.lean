/- The size of an angle, as the code reads it. -/
import Derived.Test.YtdikelijnachjaaDoorRd1
import Derived.Laws.IdiomStrings
namespace Go.Proofs.YtdikelijnachjaaDoor
set_option linter.unusedSimpArgs false
set_option linter.unusedVariables false
open Go.RowKit
attribute [local go_sem ↓] Go.wp_at_zero Go.wp_at_succ

/-- digits as a number, behind those before -/
def numV (n : Int) (l : List UInt8) : Int := l.foldl (fun n c => 10 * n + ((c.toNat : Int) - 48)) n
theorem numV_cons (n : Int) (c : UInt8) (l : List UInt8) : numV n (c :: l) = numV (10 * n + ((c.toNat : Int) - 48)) l := rfl
theorem numV_append (n : Int) (a b : List UInt8) : numV n (a ++ b) = numV (numV n a) b := by unfold numV; rw [List.foldl_append]
theorem digB_bd {c : UInt8} (h : digB c = true) : 0 ≤ (c.toNat : Int) - 48 ∧ (c.toNat : Int) - 48 ≤ 9 := by
  have : 48 ≤ c.toNat ∧ c.toNat ≤ 57 := of_decide_eq_true h
  omega
theorem numV_bd (l : List UInt8) : ∀ n : Int, 0 ≤ n → l.all digB = true → 0 ≤ numV n l ∧ numV n l + 1 ≤ (n + 1) * (10 : Int) ^ l.length := by
  induction l with
  | nil => intro n hn _; show 0 ≤ n ∧ n + 1 ≤ (n + 1) * 1; omega
  | cons c l ih =>
    intro n hn h
    rw [List.all_cons, Bool.and_eq_true] at h
    have hc := digB_bd h.1
    obtain ⟨a, b⟩ := ih (10 * n + ((c.toNat : Int) - 48)) (by omega) h.2
    rw [numV_cons]
    refine ⟨a, Int.le_trans b ?_⟩
    rw [List.length_cons, Int.pow_succ, Int.mul_comm _ 10, ← Int.mul_assoc]
    refine Int.mul_le_mul_of_nonneg_right (by omega) (Int.le_of_lt (Int.pow_pos (by decide)))

theorem ten_pow : ∀ k, k < 10 → (10 : Int) ^ k ≤ 1000000000 := by decide

/-- the whole degrees and the decimals of a text, and whether it is one -/
def rsW (l : List UInt8) : List UInt8 := (Lib.cut l [46]).1
def rsP (l : List UInt8) : List UInt8 := (Lib.cut l [46]).2.1
def rsH (l : List UInt8) : Bool := (Lib.cut l [46]).2.2
def rsK (l : List UInt8) : Bool := isD (rsW l) 3 && (!rsH l || isD (rsP l) 6)
def rsD (l : List UInt8) : List UInt8 := rsW l ++ (rsP l ++ List.replicate (6 - (rsP l).length) 48)
def rsN (l : List UInt8) : Int := if rsK l then numV 0 (rsD l) else 0

theorem cut_len (l : List UInt8) : (rsW l).length ≤ l.length ∧ (rsP l).length ≤ l.length ∧ (rsH l = false → rsP l = []) := by
  unfold rsW rsP rsH Lib.cut
  split
  · refine ⟨by simp; omega, by simp, fun h => absurd h (by simp)⟩
  · exact ⟨Nat.le_refl _, by simp, fun _ => rfl⟩
theorem repeat_zero : ∀ c, Lib.repeatL [48] c = List.replicate c 48
  | 0 => rfl
  | c + 1 => by rw [Lib.repeatL, repeat_zero c]; rfl
theorem str_append (A B : List UInt8) : (⟨A.toArray⟩ ++ ⟨B.toArray⟩ : ByteArray) = ⟨(A ++ B).toArray⟩ := by
  apply ByteArray.ext
  simp
theorem cut_any (l : List UInt8) (w : World) (t : Tabs w) (hl : l.length ≤ 100) : Calls Tryd.prog 89 #[.string ⟨l.toArray⟩, .string ⟨#[46]⟩] w fun e w' => e = .returned (.tuple #[.string ⟨(rsW l).toArray⟩, .string ⟨(rsP l).toArray⟩, .bool (rsH l)]) ∧ ∃ n, w' = w.drewN n := by
  obtain ⟨m, hm⟩ := t.len
  have L := Tryd.laysM145
  have h := Any.strings_Cut { L with } ⟨l.toArray⟩ ⟨#[46]⟩ m w (by simp [ByteArray.size]; omega) hm
  exact h

set_option maxHeartbeats 4000000 in
theorem readSize_no (l : List UInt8) (w : World) (t : Tabs w) (hl : l.length ≤ 100) (hk : rsK l = false) :
    Calls Tryd.prog 71 #[.string ⟨l.toArray⟩] w fun e w' => e = .returned (.tuple #[.int .i64 0, .bool false]) ∧ Below w.heap.size w w' := by
  have C := Lib.hid (cut_any l)
  obtain ⟨c1, c2, c3⟩ := cut_len l
  have I1 := Lib.hid (fun w => isDigits_any (rsW l) 3 w (by omega) (by omega))
  have I2 := Lib.hid (fun w => isDigits_any (rsP l) 6 w (by omega) (by omega))
  unfold rsK at hk
  generalize rsW l = W at *
  generalize rsP l = P at *
  generalize rsH l = H at *
  generalize isD W 3 = b1 at *
  generalize isD P 6 = b2 at *
  clear c3
  cases b1
  · go_enter Tryd.func71, Tryd.ntmps71
    go_wp2_with fail
    refine (C.out _ t hl).mono ?_
    rintro e w1 ⟨rfl, n, rfl⟩
    go_wp2_with fail
    refine (I1.out _).mono ?_
    rintro e w2 ⟨rfl, rfl⟩
    go_wp2_with fail
    go_ret2
    exact ⟨rfl, below_drewN' (Below.refl _ _) _⟩
  · cases H
    · exact absurd hk (by simp)
    · cases b2
      · go_enter Tryd.func71, Tryd.ntmps71
        go_wp2_with fail
        refine (C.out _ t hl).mono ?_
        rintro e w1 ⟨rfl, n, rfl⟩
        go_wp2_with fail
        refine (I1.out _).mono ?_
        rintro e w2 ⟨rfl, rfl⟩
        go_wp2_with fail
        refine (I2.out _).mono ?_
        rintro e w2 ⟨rfl, rfl⟩
        go_wp2_with fail
        go_ret2
        exact ⟨rfl, below_drewN' (Below.refl _ _) _⟩
      · exact absurd hk (by simp)

set_option maxRecDepth 100000 in
set_option maxHeartbeats 4000000 in
theorem readSize_yes (l : List UInt8) (w : World) (t : Tabs w) (hl : l.length ≤ 100) (hk : rsK l = true) :
    Calls Tryd.prog 71 #[.string ⟨l.toArray⟩] w fun e w' => e = .returned (.tuple #[.int .i64 (numV 0 (rsD l)), .bool true]) ∧ Below w.heap.size w w' := by
  have C := Lib.hid (cut_any l)
  obtain ⟨c1, c2, c3⟩ := cut_len l
  have I1 := Lib.hid (fun w => isDigits_any (rsW l) 3 w (by omega) (by omega))
  have I2 := Lib.hid (fun w => isDigits_any (rsP l) 6 w (by omega) (by omega))
  unfold rsK at hk
  unfold rsD
  rw [Bool.and_eq_true] at hk
  obtain ⟨k1, k2⟩ := hk
  have hw : (rsW l).length ≤ 3 ∧ (rsW l).all digB = true := by
    unfold isD at k1
    rw [Bool.and_eq_true] at k1
    have := of_decide_eq_true k1.2
    exact ⟨by omega, k1.1⟩
  have hp : (rsP l).length ≤ 6 ∧ (rsP l).all digB = true := by
    cases hh : rsH l
    · rw [c3 hh]; exact ⟨by simp, rfl⟩
    · rw [hh] at k2
      have k3 : isD (rsP l) 6 = true := by simpa using k2
      unfold isD at k3
      rw [Bool.and_eq_true] at k3
      have := of_decide_eq_true k3.2
      exact ⟨by omega, k3.1⟩
  generalize rsW l = W at *
  generalize rsP l = P at *
  generalize rsH l = H at *
  have R := Lib.hid (fun w => Tryd.strings_Repeat ⟨#[48]⟩ (6 - P.length) w (by omega) (by show 1 * _ ≤ _; omega))
  have hz : ((6 - P.length : Nat) : Int) = 6 - (P.length : Int) := by omega
  rw [hz] at R
  have rz := repeat_zero (6 - P.length)
  obtain ⟨D, hD⟩ : ∃ D, D = W ++ (P ++ List.replicate (6 - P.length) 48) := ⟨_, rfl⟩
  have dall : D.all digB = true := by
    rw [hD, List.all_append, List.all_append, hw.2, hp.2]
    simp [List.all_replicate]
    right; decide
  have dlen : D.length ≤ 9 := by rw [hD]; simp; omega
  rw [← hD]
  have HD := Lib.hid hD
  have DA := Lib.hid dall
  clear hD dall c3
  cases H
  · go_enter Tryd.func71, Tryd.ntmps71
    go_wp2_with fail
    refine (C.out _ t hl).mono ?_
    rintro e w1 ⟨rfl, n, rfl⟩
    go_wp2_with fail
    refine (I1.out _).mono ?_
    rintro e w2 ⟨rfl, rfl⟩
    rw [k1]
    go_wp2_with fail
    refine (R.out _).mono ?_
    rintro e w3 ⟨rfl, hb3⟩
    rw [rz]
    clear rz hz
    have hS : (⟨W.toArray⟩ ++ (⟨P.toArray⟩ ++ ⟨Array.replicate (6 - P.length) 48⟩) : ByteArray) = ⟨D.toArray⟩ := by
      rw [HD.out]
      apply ByteArray.ext
      simp
    have hcv := fun w => run_bytes_of_string (P := Tryd.prog) w 9 87 5 ⟨D.toArray⟩ Tryd.underlying9 Tryd.underlying87 Tryd.underlying5
    go_wp2_with fail
    obtain ⟨W', hW⟩ : ∃ W', W' = w3.drew.alloc (.cells (bytesRow ⟨D.toArray⟩ (grownCap w3 (⟨D.toArray⟩ : ByteArray).size 0 5)) 5 ((bytesRow ⟨D.toArray⟩ (grownCap w3 (⟨D.toArray⟩ : ByteArray).size 0 5)).size, (bytesRow ⟨D.toArray⟩ (grownCap w3 (⟨D.toArray⟩ : ByteArray).size 0 5)).size + 1)) := ⟨_, rfl⟩
    have hc : ∀ j (hj : j < D.length), W'.cell? ⟨w3.heap.size, j, none⟩ = some (.int .u8 (D[j].toNat : Int)) := by
      intro j hj
      rw [hW]
      have h1 := World.cell?_alloc_mark w3.drew (bytesRow ⟨D.toArray⟩ (grownCap w3 (⟨D.toArray⟩ : ByteArray).size 0 5)) 5 ((bytesRow ⟨D.toArray⟩ (grownCap w3 (⟨D.toArray⟩ : ByteArray).size 0 5)).size, (bytesRow ⟨D.toArray⟩ (grownCap w3 (⟨D.toArray⟩ : ByteArray).size 0 5)).size + 1) j
      refine h1.trans ?_
      exact bytesRow_at ⟨D.toArray⟩ _ j (by simpa using hj)
    have o3 : Below w.heap.size w w3 := (below_drewN' (Below.refl _ _) _).trans hb3
    have oW : Below w.heap.size w W' := by rw [hW]; exact o3.drew.alloc o3.size _
    have HC := Lib.hid hc
    have HS := Lib.hid hS
    clear hc hS hcv hb3
    go_loopg [2, 37] D.length (fun n v' i' wr => ∃ i : Nat, i ≤ D.length ∧ Hid (n = D.length - i) ∧ v' = .int .i64 (numV 0 (D.take i)) ∧ i' = .int .i64 i ∧ wr = W')
    case atStart => exact ⟨0, by omega, rfl, rfl, rfl, hW.symm⟩
    case round =>
      clear hW
      obtain ⟨i, hi, HN, rfl, rfl, rfl⟩ := hrel
      by_cases hlt : i < D.length
      · have hli : (i : Int) < (D.length : Int) := by omega
        have hcell := HC.out i hlt
        have dg : digB D[i] = true := List.all_eq_true.1 DA.out D[i] (List.getElem_mem hlt)
        have cb := digB_bd dg
        have tk : (D.take i).all digB = true := List.all_eq_true.2 (fun c hm => List.all_eq_true.1 DA.out c (List.mem_of_mem_take hm))
        obtain ⟨v0, v1⟩ := numV_bd (D.take i) 0 (by omega) tk
        have vb : numV 0 (D.take i) < 1000000000 := by
          have h2 : (D.take i).length ≤ 9 := by rw [List.length_take]; omega
          have h3 := ten_pow _ (show (D.take i).length < 10 by omega)
          omega
        have e1 : numV 0 (D.take (i+1)) = 10 * numV 0 (D.take i) + ((D[i].toNat : Int) - 48) := by
          rw [List.take_succ_eq_append_getElem hlt, numV_append]; rfl
        have HE := Lib.hid e1
        clear e1 tk v1 dg
        generalize numV 0 (D.take i) = v at *
        generalize hcc : ((D[i].toNat : Nat) : Int) = c at *
        have w1 : IntKind.i64.wrap (10 * v) = 10 * v := IntWalk.i64_in _ (by omega)
        have w3 : IntKind.i64.wrap (c - 48) = c - 48 := IntWalk.i64_in _ (by omega)
        have w4 : IntKind.i64.wrap (10 * v + (c - 48)) = 10 * v + (c - 48) := IntWalk.i64_in _ (by omega)
        clear hcc
        go_wp2_with fail
        go_roundg (D.length - (i + 1))
        case measure => have := HN.out; omega
        case rel => exact ⟨i + 1, by omega, rfl, by rw [HE.out], by go_num, rfl⟩
      · obtain rfl : i = D.length := by omega
        rw [List.take_length]
        go_wp2_with fail
        go_ret2
        exact ⟨rfl, oW⟩
  · have k3 : isD P 6 = true := by simpa using k2
    go_enter Tryd.func71, Tryd.ntmps71
    go_wp2_with fail
    refine (C.out _ t hl).mono ?_
    rintro e w1 ⟨rfl, n, rfl⟩
    go_wp2_with fail
    refine (I1.out _).mono ?_
    rintro e w2 ⟨rfl, rfl⟩
    rw [k1]
    go_wp2_with fail
    refine (I2.out _).mono ?_
    rintro e w2 ⟨rfl, rfl⟩
    rw [k3]
    go_wp2_with fail
    refine (R.out _).mono ?_
    rintro e w3 ⟨rfl, hb3⟩
    rw [rz]
    clear rz hz
    have hS : (⟨W.toArray⟩ ++ (⟨P.toArray⟩ ++ ⟨Array.replicate (6 - P.length) 48⟩) : ByteArray) = ⟨D.toArray⟩ := by
      rw [HD.out]
      apply ByteArray.ext
      simp
    have hcv := fun w => run_bytes_of_string (P := Tryd.prog) w 9 87 5 ⟨D.toArray⟩ Tryd.underlying9 Tryd.underlying87 Tryd.underlying5
    go_wp2_with fail
    obtain ⟨W', hW⟩ : ∃ W', W' = w3.drew.alloc (.cells (bytesRow ⟨D.toArray⟩ (grownCap w3 (⟨D.toArray⟩ : ByteArray).size 0 5)) 5 ((bytesRow ⟨D.toArray⟩ (grownCap w3 (⟨D.toArray⟩ : ByteArray).size 0 5)).size, (bytesRow ⟨D.toArray⟩ (grownCap w3 (⟨D.toArray⟩ : ByteArray).size 0 5)).size + 1)) := ⟨_, rfl⟩
    have hc : ∀ j (hj : j < D.length), W'.cell? ⟨w3.heap.size, j, none⟩ = some (.int .u8 (D[j].toNat : Int)) := by
      intro j hj
      rw [hW]
      have h1 := World.cell?_alloc_mark w3.drew (bytesRow ⟨D.toArray⟩ (grownCap w3 (⟨D.toArray⟩ : ByteArray).size 0 5)) 5 ((bytesRow ⟨D.toArray⟩ (grownCap w3 (⟨D.toArray⟩ : ByteArray).size 0 5)).size, (bytesRow ⟨D.toArray⟩ (grownCap w3 (⟨D.toArray⟩ : ByteArray).size 0 5)).size + 1) j
      refine h1.trans ?_
      exact bytesRow_at ⟨D.toArray⟩ _ j (by simpa using hj)
    have o3 : Below w.heap.size w w3 := (below_drewN' (Below.refl _ _) _).trans hb3
    have oW : Below w.heap.size w W' := by rw [hW]; exact o3.drew.alloc o3.size _
    have HC := Lib.hid hc
    have HS := Lib.hid hS
    clear hc hS hcv hb3
    go_loopg [2, 37] D.length (fun n v' i' wr => ∃ i : Nat, i ≤ D.length ∧ Hid (n = D.length - i) ∧ v' = .int .i64 (numV 0 (D.take i)) ∧ i' = .int .i64 i ∧ wr = W')
    case atStart => exact ⟨0, by omega, rfl, rfl, rfl, hW.symm⟩
    case round =>
      clear hW
      obtain ⟨i, hi, HN, rfl, rfl, rfl⟩ := hrel
      by_cases hlt : i < D.length
      · have hli : (i : Int) < (D.length : Int) := by omega
        have hcell := HC.out i hlt
        have dg : digB D[i] = true := List.all_eq_true.1 DA.out D[i] (List.getElem_mem hlt)
        have cb := digB_bd dg
        have tk : (D.take i).all digB = true := List.all_eq_true.2 (fun c hm => List.all_eq_true.1 DA.out c (List.mem_of_mem_take hm))
        obtain ⟨v0, v1⟩ := numV_bd (D.take i) 0 (by omega) tk
        have vb : numV 0 (D.take i) < 1000000000 := by
          have h2 : (D.take i).length ≤ 9 := by rw [List.length_take]; omega
          have h3 := ten_pow _ (show (D.take i).length < 10 by omega)
          omega
        have e1 : numV 0 (D.take (i+1)) = 10 * numV 0 (D.take i) + ((D[i].toNat : Int) - 48) := by
          rw [List.take_succ_eq_append_getElem hlt, numV_append]; rfl
        have HE := Lib.hid e1
        clear e1 tk v1 dg
        generalize numV 0 (D.take i) = v at *
        generalize hcc : ((D[i].toNat : Nat) : Int) = c at *
        have w1 : IntKind.i64.wrap (10 * v) = 10 * v := IntWalk.i64_in _ (by omega)
        have w3 : IntKind.i64.wrap (c - 48) = c - 48 := IntWalk.i64_in _ (by omega)
        have w4 : IntKind.i64.wrap (10 * v + (c - 48)) = 10 * v + (c - 48) := IntWalk.i64_in _ (by omega)
        clear hcc
        go_wp2_with fail
        go_roundg (D.length - (i + 1))
        case measure => have := HN.out; omega
        case rel => exact ⟨i + 1, by omega, rfl, by rw [HE.out], by go_num, rfl⟩
      · obtain rfl : i = D.length := by omega
        rw [List.take_length]
        go_wp2_with fail
        go_ret2
        exact ⟨rfl, oW⟩

theorem readSize_any (l : List UInt8) (w : World) (t : Tabs w) (hl : l.length ≤ 100) :
    Calls Tryd.prog 71 #[.string ⟨l.toArray⟩] w fun e w' => e = .returned (.tuple #[.int .i64 (rsN l), .bool (rsK l)]) ∧ Below w.heap.size w w' := by
  unfold rsN
  cases hk : rsK l
  · rw [if_neg (by decide)]; exact readSize_no l w t hl hk
  · rw [if_pos rfl]; exact readSize_yes l w t hl hk
end Go.Proofs.YtdikelijnachjaaDoor
