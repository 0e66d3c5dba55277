/- The fields of a lamp, and whether all are in their ranges. -/
import Derived.Test.YtgmpipciinphiaaTbl
namespace Go.Proofs.Ytgmpipciinphiaa
set_option linter.unusedSimpArgs false
set_option linter.unusedVariables false
open Go.RowKit
attribute [local go_sem ↓] Go.wp_at_zero Go.wp_at_succ

/-- what tells where a number is: the address of the number, and of the other end -/
def Ends1 (g : FuncId) (l : Addr) (p q : Option Addr) : Prop :=
  ∀ w : World, Calls Try.prog g #[.pointer (some l)] w fun e w' => e = .returned (.tuple #[.pointer p, .pointer q]) ∧ ∃ n, w' = w.drewN n

theorem ends_1 (b o : Nat) : Ends1 109 ⟨b, o, none⟩ (some ⟨b, o + 3, none⟩) none := by
  intro w
  go_enter Try.func109, Try.ntmps109
  go_wp2_with fail
  go_ret2
  exact ⟨rfl, 0, rfl⟩
theorem ends_2 (b o : Nat) : Ends1 110 ⟨b, o, none⟩ (some ⟨b, o + 4, none⟩) none := by
  intro w
  go_enter Try.func110, Try.ntmps110
  go_wp2_with fail
  go_ret2
  exact ⟨rfl, 0, rfl⟩
theorem ends_3 (b o : Nat) : Ends1 111 ⟨b, o, none⟩ (some ⟨b, o + 5, none⟩) none := by
  intro w
  go_enter Try.func111, Try.ntmps111
  go_wp2_with fail
  go_ret2
  exact ⟨rfl, 0, rfl⟩
theorem ends_4 (b o : Nat) : Ends1 112 ⟨b, o, none⟩ (some ⟨b, o + 6, none⟩) none := by
  intro w
  go_enter Try.func112, Try.ntmps112
  go_wp2_with fail
  go_ret2
  exact ⟨rfl, 0, rfl⟩
theorem ends_5 (b o : Nat) : Ends1 113 ⟨b, o, none⟩ (some ⟨b, o + 7, none⟩) (some ⟨b, o + 8, none⟩) := by
  intro w
  go_enter Try.func113, Try.ntmps113
  go_wp2_with fail
  go_quiet (fail)
  go_wp2_with fail
  go_ret2
  exact ⟨rfl, _, rfl⟩
theorem ends_6 (b o : Nat) : Ends1 114 ⟨b, o, none⟩ (some ⟨b, o + 9, none⟩) (some ⟨b, o + 10, none⟩) := by
  intro w
  go_enter Try.func114, Try.ntmps114
  go_wp2_with fail
  go_quiet (fail)
  go_wp2_with fail
  go_ret2
  exact ⟨rfl, _, rfl⟩
theorem ends_7 (b o : Nat) : Ends1 115 ⟨b, o, none⟩ (some ⟨b, o + 11, none⟩) none := by
  intro w
  go_enter Try.func115, Try.ntmps115
  go_wp2_with fail
  go_ret2
  exact ⟨rfl, 0, rfl⟩
theorem ends_8 (b o : Nat) : Ends1 116 ⟨b, o, none⟩ (some ⟨b, o + 12, none⟩) none := by
  intro w
  go_enter Try.func116, Try.ntmps116
  go_wp2_with fail
  go_ret2
  exact ⟨rfl, 0, rfl⟩
theorem ends_9 (b o : Nat) : Ends1 117 ⟨b, o, none⟩ (some ⟨b, o + 13, none⟩) none := by
  intro w
  go_enter Try.func117, Try.ntmps117
  go_wp2_with fail
  go_ret2
  exact ⟨rfl, 0, rfl⟩

theorem isFrom_is {n a b : Int} {x : Bool} (h : inB n a b = x) (w : World) : Calls Try.prog 54 #[.int .i64 n, .int .i64 a, .int .i64 b] w fun e w' => e = .returned (.bool x) ∧ w' = w :=
  (isFrom_any n a b w).mono fun _ _ ⟨he, hw⟩ => ⟨by rw [← h]; exact he, hw.symm⟩

/-- an index of a list of n -/
theorem isIndex_is {i : Int} {n : Nat} {x : Bool} (h : inB i 0 ((n : Int) - 1) = x) (hn : n ≤ 9223372036854775807) (w : World) : Calls Try.prog 73 #[.int .i64 i, .int .i64 (n : Int)] w fun e w' => e = .returned (.bool x) ∧ w' = w := by
  have ew : IntKind.i64.wrap ((n : Int) - 1) = (n : Int) - 1 := IntWalk.i64_in _ (by omega)
  go_enter Try.func73, Try.ntmps73
  go_wp2_with fail
  refine (isFrom_is h _).mono ?_
  rintro e w1 ⟨rfl, rfl⟩
  go_wp2_with fail
  go_ret
  exact ⟨rfl, rfl⟩

set_option maxHeartbeats 1000000 in
theorem isIn1 (s : ByteArray) (a m lo : Int) (g : FuncId) (b o d : Nat) (w : World) (hb : b < w.heap.size)
    (hg : Ends1 g ⟨b, o, none⟩ (some ⟨b, d, none⟩) none) (eg : ∀ args w, (callFunc g args).run Try.prog w = .ok (.enter g args) w)
    (hc : w.cell? ⟨b, d, none⟩ = some (.int .i64 lo)) :
    Calls Try.prog 103 #[.agg #[.string s, .int .i64 a, .int .i64 m, .func (.func g) #[] #[]], .pointer (some ⟨b, o, none⟩)] w fun e w' => e = .returned (.bool (inB lo a m)) ∧ Own w.heap.size w w' := by
  have hne : b ≠ w.heap.size := by omega
  have HG := Lib.hid hg
  clear hg
  cases hd : inB lo a m
  · have HD := Lib.hid hd
    clear hd
    go_enter Try.func103, Try.ntmps103
    go_wp2_with (go_simp; refine (HG.out _).mono ?_; rintro e w1 ⟨rfl, n1, rfl⟩)
    go_quiet ((go_at_call 54; exact Calls.mono (isFrom_is HD.out _) (fun e w hh => ⟨hh.1, _, hh.2⟩)))
    go_wp2_with fail
    go_ret
    exact ⟨rfl, (((Own.refl _ _).alloc (Nat.le_refl _) _).drewN _).drewN _⟩
  · have HD := Lib.hid hd
    clear hd
    go_enter Try.func103, Try.ntmps103
    go_wp2_with (go_simp; refine (HG.out _).mono ?_; rintro e w1 ⟨rfl, n1, rfl⟩)
    go_quiet ((go_at_call 54; exact Calls.mono (isFrom_is HD.out _) (fun e w hh => ⟨hh.1, _, hh.2⟩)))
    go_wp2_with fail
    go_ret
    exact ⟨rfl, (((Own.refl _ _).alloc (Nat.le_refl _) _).drewN _).drewN _⟩

set_option maxHeartbeats 1000000 in
theorem isIn2 (s : ByteArray) (a m lo hi : Int) (g : FuncId) (b o d d' : Nat) (w : World) (hb : b < w.heap.size)
    (hg : Ends1 g ⟨b, o, none⟩ (some ⟨b, d, none⟩) (some ⟨b, d', none⟩)) (eg : ∀ args w, (callFunc g args).run Try.prog w = .ok (.enter g args) w)
    (hc : w.cell? ⟨b, d, none⟩ = some (.int .i64 lo)) (hc' : w.cell? ⟨b, d', none⟩ = some (.int .i64 hi)) :
    Calls Try.prog 103 #[.agg #[.string s, .int .i64 a, .int .i64 m, .func (.func g) #[] #[]], .pointer (some ⟨b, o, none⟩)] w fun e w' => e = .returned (.bool (inB lo a m && inB hi lo m)) ∧ Own w.heap.size w w' := by
  have hne : b ≠ w.heap.size := by omega
  have HG := Lib.hid hg
  clear hg
  cases hd : inB lo a m
  · have HD := Lib.hid hd
    clear hd
    go_enter Try.func103, Try.ntmps103
    go_wp2_with (go_simp; refine (HG.out _).mono ?_; rintro e w1 ⟨rfl, n1, rfl⟩)
    go_quiet ((go_at_call 54; exact Calls.mono (isFrom_is HD.out _) (fun e w hh => ⟨hh.1, _, hh.2⟩)))
    go_wp2_with fail
    go_ret
    exact ⟨rfl, (((Own.refl _ _).alloc (Nat.le_refl _) _).drewN _).drewN _⟩
  · have HD := Lib.hid hd
    clear hd
    cases he : inB hi lo m
    · have HE := Lib.hid he
      clear he
      go_enter Try.func103, Try.ntmps103
      go_wp2_with (go_simp; refine (HG.out _).mono ?_; rintro e w1 ⟨rfl, n1, rfl⟩)
      go_quiet ((go_at_call 54; (first | (with_reducible refine Calls.mono (isFrom_is HD.out _) ?_) | (with_reducible refine Calls.mono (isFrom_is HE.out _) ?_)); exact fun e w hh => ⟨hh.1, _, hh.2⟩))
      go_wp2_with fail
      go_ret
      exact ⟨rfl, (((Own.refl _ _).alloc (Nat.le_refl _) _).drewN _).drewN _⟩
    · have HE := Lib.hid he
      clear he
      go_enter Try.func103, Try.ntmps103
      go_wp2_with (go_simp; refine (HG.out _).mono ?_; rintro e w1 ⟨rfl, n1, rfl⟩)
      go_quiet ((go_at_call 54; (first | (with_reducible refine Calls.mono (isFrom_is HD.out _) ?_) | (with_reducible refine Calls.mono (isFrom_is HE.out _) ?_)); exact fun e w hh => ⟨hh.1, _, hh.2⟩))
      go_wp2_with fail
      go_ret
      exact ⟨rfl, (((Own.refl _ _).alloc (Nat.le_refl _) _).drewN _).drewN _⟩

end Go.Proofs.Ytgmpipciinphiaa
