/- Read of the reference. -/
import Derived.Test.YtdikelijnachjaaDoorSg4
namespace Go.Proofs.YtdikelijnachjaaDoor
set_option linter.unusedSimpArgs false
set_option linter.unusedVariables false
open Go.RowKit
attribute [local go_sem ↓] Go.wp_at_zero Go.wp_at_succ

/-- what is read, once the letter is left -/
def outV (R : List UInt8) (A : Int) : Value := match R with
  | [c] => if dirK c then (if far (dirA c) < A then read3 0 0 7 else read3 (dirS c * A) (dirA c) 0) else read3 0 0 6
  | _ => read3 0 0 6

set_option maxHeartbeats 1000000 in
theorem rread_long (l : List UInt8) (w : World) (h : 20 < l.length) (hs : l.length ≤ 9223372036854775807) :
    Calls Tryd.prog 39 #[.string ⟨l.toArray⟩] w fun e w' => e = .returned (read3 0 0 3) ∧ Below w.heap.size w w' := by
  have hi : (20 : Int) < (l.length : Int) := by omega
  go_enter Tryd.func39, Tryd.ntmps39
  go_wp2_with fail
  go_ret3
  exact ⟨rfl, Below.refl _ _⟩
set_option maxHeartbeats 1000000 in
theorem rread_bad (l : List UInt8) (w : World) (hl : l.length ≤ 20) (h : figN l < 1 ∨ 3 < figN l) :
    Calls Tryd.prog 39 #[.string ⟨l.toArray⟩] w fun e w' => e = .returned (read3 0 0 6) ∧ Below w.heap.size w w' := by
  have F := Lib.hid (figures_any l w (by omega))
  have hi : ¬ (20 : Int) < (l.length : Int) := by omega
  generalize figN l = k at *
  rcases h with h | h
  · have i1 : (k : Int) < 1 := by omega
    go_enter Tryd.func39, Tryd.ntmps39
    go_wp2_with fail
    refine F.out.mono ?_
    rintro e w1 ⟨rfl, rfl⟩
    go_wp2_with fail
    go_ret3
    exact ⟨rfl, Below.refl _ _⟩
  · have i1 : ¬ (k : Int) < 1 := by omega
    have i2 : 3 < (k : Int) := by omega
    go_enter Tryd.func39, Tryd.ntmps39
    go_wp2_with fail
    refine F.out.mono ?_
    rintro e w1 ⟨rfl, rfl⟩
    go_wp2_with fail
    go_ret3
    exact ⟨rfl, Below.refl _ _⟩

theorem ext_lo (W rest : List UInt8) : ByteArray.extract ⟨(W ++ rest).toArray⟩ 0 W.length = ⟨W.toArray⟩ := by
  apply ByteArray.ext
  simp [ByteArray.data_extract]
theorem ext_hi (W rest : List UInt8) : ByteArray.extract ⟨(W ++ rest).toArray⟩ W.length (W.length + rest.length) = ⟨rest.toArray⟩ := by
  apply ByteArray.ext
  simp [ByteArray.data_extract]

set_option maxRecDepth 20000 in
set_option maxHeartbeats 1000000 in
theorem rread_dot (W T : List UInt8) (g : Int) (w : World) (hW : 1 ≤ W.length ∧ W.length ≤ 3) (hfig : figN (W ++ 46 :: T) = W.length) (hl : (W ++ 46 :: T).length ≤ 20) (hg : 0 ≤ g ∧ g ≤ 999)
    (N1 : ∀ w, Calls Tryd.prog 73 #[.string ⟨W.toArray⟩] w fun e w' => e = .returned (.int .i64 g) ∧ w' = w)
    (h : figN T < 1 ∨ 6 < figN T) :
    Calls Tryd.prog 39 #[.string ⟨(W ++ 46 :: T).toArray⟩] w fun e w' => e = .returned (read3 0 0 6) ∧ Below w.heap.size w w' := by
  have hT : T.length ≤ 20 := by simp at hl; omega
  have F := Lib.hid (fun w => figures_any (W ++ 46 :: T) w (by omega))
  have F2 := Lib.hid (fun w => figures_any T w (by omega))
  have N1' := Lib.hid N1
  clear N1
  rw [hfig] at F
  have hsz : (⟨(W ++ 46 :: T).toArray⟩ : ByteArray).size = W.length + (T.length + 1) := by simp [ByteArray.size]
  have hsT : (⟨(46 :: T).toArray⟩ : ByteArray).size = T.length + 1 := by simp [ByteArray.size]
  have x1 := ext_lo W (46 :: T)
  have x2 : ByteArray.extract ⟨(W ++ 46 :: T).toArray⟩ W.length (W.length + (T.length + 1)) = ⟨(46 :: T).toArray⟩ := ext_hi W (46 :: T)
  have x3 : ByteArray.extract ⟨(46 :: T).toArray⟩ 1 (T.length + 1) = ⟨T.toArray⟩ := by
    have := ext_hi [46] T
    rw [show ([46] : List UInt8).length + T.length = T.length + 1 by simp; omega] at this
    exact this
  have h0 : ∀ h, ((⟨(46 :: T).toArray⟩ : ByteArray)[0]'h) = 46 := fun h => rfl
  have i0 : ¬ (20 : Int) < (W.length : Int) + ((T.length : Int) + 1) := by simp at hl; omega
  have i1 : ¬ (W.length : Int) < 1 := by omega
  have i2 : ¬ 3 < (W.length : Int) := by omega
  have wm : IntKind.i64.wrap (g * 1000000) = g * 1000000 := IntWalk.i64_in _ (by omega)
  generalize figN T = k at *
  clear hfig hl
  go_enter Tryd.func39, Tryd.ntmps39
  go_wp2_with fail
  refine (F.out _).mono ?_
  rintro e w1 ⟨rfl, rfl⟩
  go_wp2_with fail
  go_quiet ((with_reducible refine Calls.quiet_of_same (N1'.out _)))
  go_wp2_with fail
  refine (F2.out _).mono ?_
  rintro e w2 ⟨rfl, rfl⟩
  rcases h with h | h
  · have j1 : (k : Int) < 1 := by omega
    go_wp2_with fail
    go_ret3
    exact ⟨rfl, below_drewN' (Below.refl _ _) _⟩
  · have j1 : ¬ (k : Int) < 1 := by omega
    have j2 : 6 < (k : Int) := by omega
    go_wp2_with fail
    go_ret3
    exact ⟨rfl, below_drewN' (Below.refl _ _) _⟩
end Go.Proofs.YtdikelijnachjaaDoor
