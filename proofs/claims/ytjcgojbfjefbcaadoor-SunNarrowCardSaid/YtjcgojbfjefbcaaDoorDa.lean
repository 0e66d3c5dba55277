/- Dates of the code. -/
import Derived.Test.YtjcgojbfjefbcaaDoorDm
import Derived.Test.YtjcgojbfjefbcaaDoorSt
import Derived.Test.YtjcgojbfjefbcaaDoorIs
namespace Go.Proofs.YtjcgojbfjefbcaaDoor
set_option linter.unusedSimpArgs false
set_option linter.unusedVariables false
open Go.RowKit SineNear
attribute [local go_sem ↓] Go.wp_at_zero Go.wp_at_succ

/-- one cell -/
def Cel (b : Nat) (o : Nat) (v : Value) (w : World) : Prop := w.cell? ⟨b, o, none⟩ = some v ∧ b < w.heap.size
theorem Cel.lt {b o : Nat} {v : Value} {w : World} (k : Cel b o v w) : b < w.heap.size := k.2
theorem Cel.below {b o : Nat} {v : Value} {w w1 : World} (k : Cel b o v w) (h : Below w.heap.size w w1) : Cel b o v w1 := ⟨(h.cell (p := ⟨b, o, none⟩) k.2).trans k.1, Nat.lt_of_lt_of_le k.2 h.size⟩
/-- the tables of dates -/
def lenT (i : Nat) : Int := ([31, 28, 31, 30, 31, 30, 31, 31, 30, 31, 30, 31] : List Int).getD i 0
structure TabD (ea : Addr) (w : World) : Prop where
  len : ∀ i, i < 12 → Cel 3 i (.int .i64 (lenT i)) w
  err : Cel 0 0 (.iface 184 (.pointer (some ea))) w
theorem TabD.below {ea : Addr} {w w1 : World} (t : TabD ea w) (h : Below w.heap.size w w1) : TabD ea w1 := ⟨fun i hi => (t.len i hi).below h, t.err.below h⟩
theorem tabd_below {ea : Addr} {W w1 : World} (t : TabD ea W) (h : Below W.heap.size W w1) : TabD ea w1 := t.below h
/-- what a call that reads the tables returns -/
def RetD (ea : Addr) (f : FuncId) (args : Array Value) (v : Value) : Prop := ∀ w : World, TabD ea w → Calls Tryd.prog f args w fun e w' => e = .returned v ∧ Below w.heap.size w w'
abbrev errV (ea : Addr) : Value := .iface 184 (.pointer (some ea))

set_option maxHeartbeats 1000000 in
theorem newYear_T (y : Int) (h0 : 1990 ≤ y) (h1 : y ≤ 2120) : RetT 74 #[.int .i64 y] (.int .i64 (ny y)) := by
  intro w
  go_enter Tryd.func74, Tryd.ntmps74
  go_wp2
  go_ret
  exact ⟨ret_int (by unfold ny; omega), Below.refl _ _⟩

set_option maxRecDepth 100000 in
set_option maxHeartbeats 2000000 in
theorem feb_T (ea : Addr) (y : Int) (h0 : 1995 ≤ y) (h1 : y ≤ 2115) : RetD ea 73 #[.int .i64 y, .int .i64 2] (.int .i64 (ln y 2)) := by
  intro w t
  have tc := t.len 1 (by omega)
  rw [show lenT 1 = 28 from rfl] at tc
  have b0 := ny_bd y (by omega) (by omega)
  have b1 := ny_bd (y + 1) (by omega) (by omega)
  have C1 := Lib.hid (newYear_T (y + 1) (by omega) (by omega))
  have C2 := Lib.hid (newYear_T y (by omega) (by omega))
  have hb : Below w.heap.size w w := Below.refl _ _
  have w1 : IntKind.i64.wrap (y + 1) = y + 1 := IntWalk.i64_in _ (by omega)
  have w2 : IntKind.i64.wrap (ny (y + 1) - ny y) = ny (y + 1) - ny y := IntWalk.i64_in _ (by omega)
  have w3 : IntKind.i64.wrap (ny (y + 1) - ny y - 365) = ny (y + 1) - ny y - 365 := IntWalk.i64_in _ (by omega)
  have w4 : IntKind.i64.wrap (ny (y + 1) - ny y - 365 + 28) = ny (y + 1) - ny y - 365 + 28 := IntWalk.i64_in _ (by omega)
  have w5 : IntKind.i64.wrap (2 - 1) = 1 := by decide
  have w6 : IntKind.i64.wrap 1 = 1 := by decide
  clear h0 h1 b0 b1 t
  go_enter Tryd.func73, Tryd.ntmps73
  go_wp2_with fail
  have hR : ∀ w', Below w.heap.size w w' → Cel (3) (1) (.int .i64 28) w' := fun w' hq0 => tc.below hq0
  have hG := good_below hR
  refine wp_region_G (R := fun w' => Cel (3) (1) (.int .i64 28) w') (fun w' => Below w.heap.size w w') (by kernel_rfl) (Below.refl _ _).drew ?_
  refine wpAnyG_take (i := 0) (v := ?_) rfl (by kernel_rfl) (by kernel_rfl) (by kernel_rfl) hG rfl ?_ ?_
  rotate_left
  (focus (intro ww hSw; obtain ⟨r0_0, r0_1⟩ := hSw; go_simp; (try with_reducible rfl)))
  (try simp only [Act.put, List.setIfInBounds_toArray, List.set_cons_zero, List.set_cons_succ, List.getElem_toArray, List.getElem_cons_zero, List.getElem_cons_succ])
  refine wpAnyG_take (i := 1) (v := ?_) rfl (by kernel_rfl) (by kernel_rfl) (by kernel_rfl) hG rfl ?_ ?_
  rotate_left
  (focus (intro ww hSw; obtain ⟨r0_0, r0_1⟩ := hSw; go_simp; (try with_reducible rfl)))
  (try simp only [Act.put, List.setIfInBounds_toArray, List.set_cons_zero, List.set_cons_succ, List.getElem_toArray, List.getElem_cons_zero, List.getElem_cons_succ])
  refine wpAnyG_call (i := 2) _ _ _ rfl (by kernel_rfl) (by kernel_rfl) (by kernel_rfl) hG rfl (by intro ww; go_simp; all_goals (first | rfl | exact ⟨rfl, rfl⟩)) (fun ww => C1.out ww) ?_
  (try simp only [Act.put, List.setIfInBounds_toArray, List.set_cons_zero, List.set_cons_succ, List.getElem_toArray, List.getElem_cons_zero, List.getElem_cons_succ])
  refine wpAnyG_take (i := 3) (v := ?_) rfl (by kernel_rfl) (by kernel_rfl) (by kernel_rfl) hG rfl ?_ ?_
  rotate_left
  (focus (intro ww hSw; obtain ⟨r0_0, r0_1⟩ := hSw; go_simp; (try with_reducible rfl)))
  (try simp only [Act.put, List.setIfInBounds_toArray, List.set_cons_zero, List.set_cons_succ, List.getElem_toArray, List.getElem_cons_zero, List.getElem_cons_succ])
  refine wpAnyG_call (i := 4) _ _ _ rfl (by kernel_rfl) (by kernel_rfl) (by kernel_rfl) hG rfl (by intro ww; go_simp; all_goals (first | rfl | exact ⟨rfl, rfl⟩)) (fun ww => C2.out ww) ?_
  (try simp only [Act.put, List.setIfInBounds_toArray, List.set_cons_zero, List.set_cons_succ, List.getElem_toArray, List.getElem_cons_zero, List.getElem_cons_succ])
  refine wpAnyG_take (i := 5) (v := ?_) rfl (by kernel_rfl) (by kernel_rfl) (by kernel_rfl) hG rfl ?_ ?_
  rotate_left
  (focus (intro ww hSw; obtain ⟨r0_0, r0_1⟩ := hSw; go_simp; (try with_reducible rfl)))
  (try simp only [Act.put, List.setIfInBounds_toArray, List.set_cons_zero, List.set_cons_succ, List.getElem_toArray, List.getElem_cons_zero, List.getElem_cons_succ])
  refine wpAnyG_take (i := 6) (v := ?_) rfl (by kernel_rfl) (by kernel_rfl) (by kernel_rfl) hG rfl ?_ ?_
  rotate_left
  (focus (intro ww hSw; obtain ⟨r0_0, r0_1⟩ := hSw; go_simp; (try with_reducible rfl)))
  (try simp only [Act.put, List.setIfInBounds_toArray, List.set_cons_zero, List.set_cons_succ, List.getElem_toArray, List.getElem_cons_zero, List.getElem_cons_succ])
  refine wpAnyG_take (i := 7) (v := ?_) rfl (by kernel_rfl) (by kernel_rfl) (by kernel_rfl) hG rfl ?_ ?_
  rotate_left
  (focus (intro ww hSw; obtain ⟨r0_0, r0_1⟩ := hSw; go_simp; (try with_reducible rfl)))
  (try simp only [Act.put, List.setIfInBounds_toArray, List.set_cons_zero, List.set_cons_succ, List.getElem_toArray, List.getElem_cons_zero, List.getElem_cons_succ])
  refine wpAnyG_take (i := 8) (v := ?_) rfl (by kernel_rfl) (by kernel_rfl) (by kernel_rfl) hG rfl ?_ ?_
  rotate_left
  (focus (intro ww hSw; obtain ⟨r0_0, r0_1⟩ := hSw; go_simp; (try with_reducible rfl)))
  (try simp only [Act.put, List.setIfInBounds_toArray, List.set_cons_zero, List.set_cons_succ, List.getElem_toArray, List.getElem_cons_zero, List.getElem_cons_succ])
  refine wpAnyG_take (i := 9) (v := ?_) rfl (by kernel_rfl) (by kernel_rfl) (by kernel_rfl) hG rfl ?_ ?_
  rotate_left
  (focus (intro ww hSw; obtain ⟨r0_0, r0_1⟩ := hSw; go_simp; (try with_reducible rfl)))
  (try simp only [Act.put, List.setIfInBounds_toArray, List.set_cons_zero, List.set_cons_succ, List.getElem_toArray, List.getElem_cons_zero, List.getElem_cons_succ])
  refine wpAnyG_take (i := 10) (v := ?_) rfl (by kernel_rfl) (by kernel_rfl) (by kernel_rfl) hG rfl ?_ ?_
  rotate_left
  (focus (intro ww hSw; obtain ⟨r0_0, r0_1⟩ := hSw; go_simp; (try with_reducible rfl)))
  (try simp only [Act.put, List.setIfInBounds_toArray, List.set_cons_zero, List.set_cons_succ, List.getElem_toArray, List.getElem_cons_zero, List.getElem_cons_succ])
  refine wpAnyG_take (i := 11) (v := ?_) rfl (by kernel_rfl) (by kernel_rfl) (by kernel_rfl) hG rfl ?_ ?_
  rotate_left
  (focus (intro ww hSw; obtain ⟨r0_0, r0_1⟩ := hSw; go_simp; (try with_reducible rfl)))
  (try simp only [Act.put, List.setIfInBounds_toArray, List.set_cons_zero, List.set_cons_succ, List.getElem_toArray, List.getElem_cons_zero, List.getElem_cons_succ])
  refine wpAnyG_take (i := 12) (v := ?_) rfl (by kernel_rfl) (by kernel_rfl) (by kernel_rfl) hG rfl ?_ ?_
  rotate_left
  (focus (intro ww hSw; obtain ⟨r0_0, r0_1⟩ := hSw; go_simp; (try with_reducible rfl)))
  (try simp only [Act.put, List.setIfInBounds_toArray, List.set_cons_zero, List.set_cons_succ, List.getElem_toArray, List.getElem_cons_zero, List.getElem_cons_succ])
  refine wpAnyG_done (by kernel_rfl) ?_ _
  intro W1 hB
  clear hR hG
  have tc := tc.below hB
  have hb := hb.trans (hB.mono hb.size)
  clear hB
  go_wp2_with fail
  go_ret
  exact ⟨ret_int (by unfold ln lp; rw [if_pos rfl]), hb⟩

set_option maxRecDepth 100000 in
set_option maxHeartbeats 2000000 in
theorem len_T (ea : Addr) (y m : Int) (h0 : 1995 ≤ y) (h1 : y ≤ 2115) (m0 : 1 ≤ m) (m1 : m ≤ 12) : RetD ea 73 #[.int .i64 y, .int .i64 m] (.int .i64 (ln y m)) := by
  by_cases h2 : m = 2
  · subst h2; exact feb_T ea y h0 h1
  · intro w t
    have : m = 1 ∨ m = 3 ∨ m = 4 ∨ m = 5 ∨ m = 6 ∨ m = 7 ∨ m = 8 ∨ m = 9 ∨ m = 10 ∨ m = 11 ∨ m = 12 := by omega
    clear m0 m1 h2
    rcases this with rfl | rfl | rfl | rfl | rfl | rfl | rfl | rfl | rfl | rfl | rfl
    · obtain ⟨tc, tl⟩ := t.len 0 (by omega)
      rw [show lenT 0 = 31 from rfl] at tc
      have e : ln y 1 = 31 := by unfold ln; simp
      rw [e]
      clear t e
      go_enter Tryd.func73, Tryd.ntmps73
      go_wp2
      go_ret
      exact ⟨rfl, Below.refl _ _⟩
    · obtain ⟨tc, tl⟩ := t.len 2 (by omega)
      rw [show lenT 2 = 31 from rfl] at tc
      have e : ln y 3 = 31 := by unfold ln; simp
      rw [e]
      clear t e
      go_enter Tryd.func73, Tryd.ntmps73
      go_wp2
      go_ret
      exact ⟨rfl, Below.refl _ _⟩
    · obtain ⟨tc, tl⟩ := t.len 3 (by omega)
      rw [show lenT 3 = 30 from rfl] at tc
      have e : ln y 4 = 30 := by unfold ln; simp
      rw [e]
      clear t e
      go_enter Tryd.func73, Tryd.ntmps73
      go_wp2
      go_ret
      exact ⟨rfl, Below.refl _ _⟩
    · obtain ⟨tc, tl⟩ := t.len 4 (by omega)
      rw [show lenT 4 = 31 from rfl] at tc
      have e : ln y 5 = 31 := by unfold ln; simp
      rw [e]
      clear t e
      go_enter Tryd.func73, Tryd.ntmps73
      go_wp2
      go_ret
      exact ⟨rfl, Below.refl _ _⟩
    · obtain ⟨tc, tl⟩ := t.len 5 (by omega)
      rw [show lenT 5 = 30 from rfl] at tc
      have e : ln y 6 = 30 := by unfold ln; simp
      rw [e]
      clear t e
      go_enter Tryd.func73, Tryd.ntmps73
      go_wp2
      go_ret
      exact ⟨rfl, Below.refl _ _⟩
    · obtain ⟨tc, tl⟩ := t.len 6 (by omega)
      rw [show lenT 6 = 31 from rfl] at tc
      have e : ln y 7 = 31 := by unfold ln; simp
      rw [e]
      clear t e
      go_enter Tryd.func73, Tryd.ntmps73
      go_wp2
      go_ret
      exact ⟨rfl, Below.refl _ _⟩
    · obtain ⟨tc, tl⟩ := t.len 7 (by omega)
      rw [show lenT 7 = 31 from rfl] at tc
      have e : ln y 8 = 31 := by unfold ln; simp
      rw [e]
      clear t e
      go_enter Tryd.func73, Tryd.ntmps73
      go_wp2
      go_ret
      exact ⟨rfl, Below.refl _ _⟩
    · obtain ⟨tc, tl⟩ := t.len 8 (by omega)
      rw [show lenT 8 = 30 from rfl] at tc
      have e : ln y 9 = 30 := by unfold ln; simp
      rw [e]
      clear t e
      go_enter Tryd.func73, Tryd.ntmps73
      go_wp2
      go_ret
      exact ⟨rfl, Below.refl _ _⟩
    · obtain ⟨tc, tl⟩ := t.len 9 (by omega)
      rw [show lenT 9 = 31 from rfl] at tc
      have e : ln y 10 = 31 := by unfold ln; simp
      rw [e]
      clear t e
      go_enter Tryd.func73, Tryd.ntmps73
      go_wp2
      go_ret
      exact ⟨rfl, Below.refl _ _⟩
    · obtain ⟨tc, tl⟩ := t.len 10 (by omega)
      rw [show lenT 10 = 30 from rfl] at tc
      have e : ln y 11 = 30 := by unfold ln; simp
      rw [e]
      clear t e
      go_enter Tryd.func73, Tryd.ntmps73
      go_wp2
      go_ret
      exact ⟨rfl, Below.refl _ _⟩
    · obtain ⟨tc, tl⟩ := t.len 11 (by omega)
      rw [show lenT 11 = 31 from rfl] at tc
      have e : ln y 12 = 31 := by unfold ln; simp
      rw [e]
      clear t e
      go_enter Tryd.func73, Tryd.ntmps73
      go_wp2
      go_ret
      exact ⟨rfl, Below.refl _ _⟩

set_option maxHeartbeats 2000000 in
theorem dayOf_n1 (ea : Addr) (y m d : Int) (h0 : frB y 1999 2109 = false) : RetD ea 44 #[.int .i64 y, .int .i64 m, .int .i64 d] (.tuple #[.int .i64 0, errV ea]) := by
  intro w t
  have tc := t.err
  have hb : Below w.heap.size w w := Below.refl _ _
  have C0 := from_T y 1999 2109
  rw [h0] at C0
  have C0 := Lib.hid C0
  clear h0 t
  go_enter Tryd.func44, Tryd.ntmps44
  go_wp2_with fail
  refine (C0.out _).mono ?_
  rintro e v1 ⟨rfl, hq⟩
  have tc := tc.below hq
  have hb := hb.trans (hq.mono hb.size)
  clear hq
  go_wp2_with fail
  have hR : ∀ w', Below v1.heap.size v1 w' → Cel (0) (0) (errV ea) w' := fun w' hq0 => tc.below hq0
  have hG := good_below hR
  refine wp_region_G (R := fun w' => Cel (0) (0) (errV ea) w') (fun w' => Below v1.heap.size v1 w') (by kernel_rfl) (Below.refl _ _).drew ?_
  refine wpAnyG_take (i := 0) (v := ?_) rfl (by kernel_rfl) (by kernel_rfl) (by kernel_rfl) hG rfl ?_ ?_
  rotate_left
  (focus (intro ww hSw; obtain ⟨r0_0, r0_1⟩ := hSw; go_simp; (try with_reducible rfl)))
  (try simp only [Act.put, List.setIfInBounds_toArray, List.set_cons_zero, List.set_cons_succ, List.getElem_toArray, List.getElem_cons_zero, List.getElem_cons_succ])
  refine wpAnyG_take (i := 1) (v := ?_) rfl (by kernel_rfl) (by kernel_rfl) (by kernel_rfl) hG rfl ?_ ?_
  rotate_left
  (focus (intro ww hSw; obtain ⟨r0_0, r0_1⟩ := hSw; go_simp; (try with_reducible rfl)))
  (try simp only [Act.put, List.setIfInBounds_toArray, List.set_cons_zero, List.set_cons_succ, List.getElem_toArray, List.getElem_cons_zero, List.getElem_cons_succ])
  refine wpAnyG_take (i := 2) (v := ?_) rfl (by kernel_rfl) (by kernel_rfl) (by kernel_rfl) hG rfl ?_ ?_
  rotate_left
  (focus (intro ww hSw; obtain ⟨r0_0, r0_1⟩ := hSw; go_simp; (try with_reducible rfl)))
  (try simp only [Act.put, List.setIfInBounds_toArray, List.set_cons_zero, List.set_cons_succ, List.getElem_toArray, List.getElem_cons_zero, List.getElem_cons_succ])
  refine wpAnyG_done (by kernel_rfl) ?_ _
  intro W2 hB
  clear hR hG
  have tc := tc.below hB
  have hb := hb.trans (hB.mono hb.size)
  clear hB
  go_wp2_with fail
  go_ret2
  exact ⟨rfl, hb⟩

set_option maxHeartbeats 2000000 in
theorem dayOf_n2 (ea : Addr) (y m d : Int) (h0 : frB y 1999 2109 = true) (h1 : frB m 1 12 = false) : RetD ea 44 #[.int .i64 y, .int .i64 m, .int .i64 d] (.tuple #[.int .i64 0, errV ea]) := by
  intro w t
  have tc := t.err
  have hb : Below w.heap.size w w := Below.refl _ _
  have C0 := from_T y 1999 2109
  rw [h0] at C0
  have C0 := Lib.hid C0
  have C1 := from_T m 1 12
  rw [h1] at C1
  have C1 := Lib.hid C1
  clear h0 h1 t
  go_enter Tryd.func44, Tryd.ntmps44
  go_wp2_with fail
  refine (C0.out _).mono ?_
  rintro e v1 ⟨rfl, hq⟩
  have tc := tc.below hq
  have hb := hb.trans (hq.mono hb.size)
  clear hq
  go_wp2_with fail
  refine (C1.out _).mono ?_
  rintro e v2 ⟨rfl, hq⟩
  have tc := tc.below hq
  have hb := hb.trans (hq.mono hb.size)
  clear hq
  go_wp2_with fail
  have hR : ∀ w', Below v2.heap.size v2 w' → Cel (0) (0) (errV ea) w' := fun w' hq0 => tc.below hq0
  have hG := good_below hR
  refine wp_region_G (R := fun w' => Cel (0) (0) (errV ea) w') (fun w' => Below v2.heap.size v2 w') (by kernel_rfl) (Below.refl _ _).drew ?_
  refine wpAnyG_take (i := 0) (v := ?_) rfl (by kernel_rfl) (by kernel_rfl) (by kernel_rfl) hG rfl ?_ ?_
  rotate_left
  (focus (intro ww hSw; obtain ⟨r0_0, r0_1⟩ := hSw; go_simp; (try with_reducible rfl)))
  (try simp only [Act.put, List.setIfInBounds_toArray, List.set_cons_zero, List.set_cons_succ, List.getElem_toArray, List.getElem_cons_zero, List.getElem_cons_succ])
  refine wpAnyG_take (i := 1) (v := ?_) rfl (by kernel_rfl) (by kernel_rfl) (by kernel_rfl) hG rfl ?_ ?_
  rotate_left
  (focus (intro ww hSw; obtain ⟨r0_0, r0_1⟩ := hSw; go_simp; (try with_reducible rfl)))
  (try simp only [Act.put, List.setIfInBounds_toArray, List.set_cons_zero, List.set_cons_succ, List.getElem_toArray, List.getElem_cons_zero, List.getElem_cons_succ])
  refine wpAnyG_take (i := 2) (v := ?_) rfl (by kernel_rfl) (by kernel_rfl) (by kernel_rfl) hG rfl ?_ ?_
  rotate_left
  (focus (intro ww hSw; obtain ⟨r0_0, r0_1⟩ := hSw; go_simp; (try with_reducible rfl)))
  (try simp only [Act.put, List.setIfInBounds_toArray, List.set_cons_zero, List.set_cons_succ, List.getElem_toArray, List.getElem_cons_zero, List.getElem_cons_succ])
  refine wpAnyG_done (by kernel_rfl) ?_ _
  intro W3 hB
  clear hR hG
  have tc := tc.below hB
  have hb := hb.trans (hB.mono hb.size)
  clear hB
  go_wp2_with fail
  go_ret2
  exact ⟨rfl, hb⟩

set_option maxHeartbeats 2000000 in
theorem dayOf_n4 (ea : Addr) (y m d : Int) (h0 : frB y 1999 2109 = true) (h1 : frB m 1 12 = true) (h3 : frB d 1 (ln y m) = false) : RetD ea 44 #[.int .i64 y, .int .i64 m, .int .i64 d] (.tuple #[.int .i64 0, errV ea]) := by
  intro w t
  have tc := t.err
  have hb : Below w.heap.size w w := Below.refl _ _
  have C0 := from_T y 1999 2109
  rw [h0] at C0
  have C0 := Lib.hid C0
  have C1 := from_T m 1 12
  rw [h1] at C1
  have C1 := Lib.hid C1
  have C3 := from_T d 1 (ln y m)
  rw [h3] at C3
  have C3 := Lib.hid C3
  have y0 := frB_yes h0
  have m0 := frB_yes h1
  have C2 := Lib.hid (len_T ea y m (by omega) (by omega) m0.1 m0.2)
  clear y0 m0
  clear h0 h1 h3
  go_enter Tryd.func44, Tryd.ntmps44
  go_wp2_with fail
  refine (C0.out _).mono ?_
  rintro e v1 ⟨rfl, hq⟩
  have tc := tc.below hq
  have t := t.below hq
  have hb := hb.trans (hq.mono hb.size)
  clear hq
  go_wp2_with fail
  refine (C1.out _).mono ?_
  rintro e v2 ⟨rfl, hq⟩
  have tc := tc.below hq
  have t := t.below hq
  have hb := hb.trans (hq.mono hb.size)
  clear hq
  go_wp2_with fail
  refine (C2.out _ t).mono ?_
  rintro e v3 ⟨rfl, hq⟩
  have tc := tc.below hq
  have t := t.below hq
  have hb := hb.trans (hq.mono hb.size)
  clear hq
  go_wp2_with fail
  refine (C3.out _).mono ?_
  rintro e v4 ⟨rfl, hq⟩
  have tc := tc.below hq
  have t := t.below hq
  have hb := hb.trans (hq.mono hb.size)
  clear hq
  go_wp2_with fail
  have hR : ∀ w', Below v4.heap.size v4 w' → Cel (0) (0) (errV ea) w' := fun w' hq0 => tc.below hq0
  have hG := good_below hR
  refine wp_region_G (R := fun w' => Cel (0) (0) (errV ea) w') (fun w' => Below v4.heap.size v4 w') (by kernel_rfl) (Below.refl _ _).drew ?_
  refine wpAnyG_take (i := 0) (v := ?_) rfl (by kernel_rfl) (by kernel_rfl) (by kernel_rfl) hG rfl ?_ ?_
  rotate_left
  (focus (intro ww hSw; obtain ⟨r0_0, r0_1⟩ := hSw; go_simp; (try with_reducible rfl)))
  (try simp only [Act.put, List.setIfInBounds_toArray, List.set_cons_zero, List.set_cons_succ, List.getElem_toArray, List.getElem_cons_zero, List.getElem_cons_succ])
  refine wpAnyG_take (i := 1) (v := ?_) rfl (by kernel_rfl) (by kernel_rfl) (by kernel_rfl) hG rfl ?_ ?_
  rotate_left
  (focus (intro ww hSw; obtain ⟨r0_0, r0_1⟩ := hSw; go_simp; (try with_reducible rfl)))
  (try simp only [Act.put, List.setIfInBounds_toArray, List.set_cons_zero, List.set_cons_succ, List.getElem_toArray, List.getElem_cons_zero, List.getElem_cons_succ])
  refine wpAnyG_take (i := 2) (v := ?_) rfl (by kernel_rfl) (by kernel_rfl) (by kernel_rfl) hG rfl ?_ ?_
  rotate_left
  (focus (intro ww hSw; obtain ⟨r0_0, r0_1⟩ := hSw; go_simp; (try with_reducible rfl)))
  (try simp only [Act.put, List.setIfInBounds_toArray, List.set_cons_zero, List.set_cons_succ, List.getElem_toArray, List.getElem_cons_zero, List.getElem_cons_succ])
  refine wpAnyG_done (by kernel_rfl) ?_ _
  intro W5 hB
  clear hR hG
  have tc := tc.below hB
  have t := t.below hB
  have hb := hb.trans (hB.mono hb.size)
  clear hB
  go_wp2_with fail
  go_ret2
  exact ⟨rfl, hb⟩

set_option maxRecDepth 100000 in
set_option maxHeartbeats 4000000 in
theorem dayOf_yes (ea : Addr) (y m d : Int) (y0 : 1999 ≤ y) (y1 : y ≤ 2109) (hd : IsDate y m d) : RetD ea 44 #[.int .i64 y, .int .i64 m, .int .i64 d] (.tuple #[.int .i64 (num y m d), .nilIface]) := by
  intro w t
  obtain ⟨m0, m1, d0, d1⟩ := hd
  have lb := ln_bd y m
  have nb := ny_bd y (by omega) (by omega)
  have C0 := from_T y 1999 2109
  rw [show frB y 1999 2109 = true from decide_eq_true ⟨y0, y1⟩] at C0
  have C0 := Lib.hid C0
  have C1 := from_T m 1 12
  rw [show frB m 1 12 = true from decide_eq_true ⟨m0, m1⟩] at C1
  have C1 := Lib.hid C1
  have C2 := Lib.hid (len_T ea y m (by omega) (by omega) m0 m1)
  have C3 := from_T d 1 (ln y m)
  rw [show frB d 1 (ln y m) = true from decide_eq_true ⟨d0, d1⟩] at C3
  have C3 := Lib.hid C3
  have C4 := Lib.hid (newYear_T y (by omega) (by omega))
  have LN := Lib.hid (fun (k : Int) (k0 : 1 ≤ k) (k1 : k ≤ 12) => len_T ea y k (by omega) (by omega) k0 k1)
  have hb : Below w.heap.size w w := Below.refl _ _
  have dm : d ≤ 31 := by omega
  clear lb
  go_enter Tryd.func44, Tryd.ntmps44
  go_wp2_with fail
  refine (C0.out _).mono ?_
  rintro e v1 ⟨rfl, hq⟩
  have t := t.below hq
  have hb := hb.trans (hq.mono hb.size)
  clear hq
  go_wp2_with fail
  refine (C1.out _).mono ?_
  rintro e v2 ⟨rfl, hq⟩
  have t := t.below hq
  have hb := hb.trans (hq.mono hb.size)
  clear hq
  go_wp2_with fail
  refine (C2.out _ t).mono ?_
  rintro e v3 ⟨rfl, hq⟩
  have t := t.below hq
  have hb := hb.trans (hq.mono hb.size)
  clear hq
  go_wp2_with fail
  refine (C3.out _).mono ?_
  rintro e v4 ⟨rfl, hq⟩
  have t := t.below hq
  have hb := hb.trans (hq.mono hb.size)
  clear hq
  go_wp2_with fail
  refine (C4.out _).mono ?_
  rintro e v5 ⟨rfl, hq⟩
  have t := t.below hq
  have hb := hb.trans (hq.mono hb.size)
  clear hq
  go_wp2_with fail
  go_loopw [8, 9] (fun n i wr => ∃ k : Int, 1 ≤ k ∧ k ≤ m ∧ i = .int .i64 k ∧ n = .int .i64 (ny y + d - 1 + cu y k) ∧ TabD ea wr ∧ Below w.heap.size w wr) (fun _ i _ => (m - intOf i).toNat)
  case atStart => exact ⟨1, by omega, by omega, rfl, by rw [cu_one]; simp, t, hb⟩
  case round =>
    clear t hb
    obtain ⟨k, k0, k1, rfl, rfl, t, hb⟩ := hrel
    have cb := cu_bd y k
    have lb := ln_bd y k
    by_cases hlt : k < m
    · have CK := Lib.hid (LN.out k k0 (by omega))
      have cs := Lib.hid (cu_succ y k k0 (by omega))
      go_wp2_with fail
      refine (CK.out _ t).mono ?_
      rintro e v6 ⟨rfl, hq⟩
      have t := t.below hq
      have hb := hb.trans (hq.mono hb.size)
      clear hq
      go_wp2_with fail
      go_roundw
      case rel => exact ⟨k + 1, by omega, by omega, rfl, by rw [cs.out, Int.add_assoc (ny y + d - 1)], t, hb⟩
      case measure => simp [intOf]; omega
    · obtain rfl : k = m := by omega
      go_wp2_with fail
      go_ret2
      exact ⟨by rw [show ny y + d - 1 + cu y k = num y k d by unfold num; omega]; rfl, hb⟩

theorem frB_no {n l m : Int} (h : frB n l m = false) : ¬ (l ≤ n ∧ n ≤ m) := of_decide_eq_false h
/-- the number of a date, and its error -/
def okD (y m d : Int) : Bool := decide (1999 ≤ y ∧ y ≤ 2109 ∧ IsDate y m d)
theorem dayOf_T (ea : Addr) (y m d : Int) : RetD ea 44 #[.int .i64 y, .int .i64 m, .int .i64 d] (if okD y m d then .tuple #[.int .i64 (num y m d), .nilIface] else .tuple #[.int .i64 0, errV ea]) := by
  by_cases h : 1999 ≤ y ∧ y ≤ 2109 ∧ IsDate y m d
  · rw [show okD y m d = true from decide_eq_true h, if_pos rfl]
    exact dayOf_yes ea y m d h.1 h.2.1 h.2.2
  · rw [show okD y m d = false from decide_eq_false h, if_neg (by decide)]
    cases h0 : frB y 1999 2109
    · exact dayOf_n1 ea y m d h0
    · cases h1 : frB m 1 12
      · exact dayOf_n2 ea y m d h0 h1
      · cases h3 : frB d 1 (ln y m)
        · exact dayOf_n4 ea y m d h0 h1 h3
        · exact absurd ⟨(frB_yes h0).1, (frB_yes h0).2, (frB_yes h1).1, (frB_yes h1).2, (frB_yes h3).1, (frB_yes h3).2⟩ h

/-- Day -/
def dyV (y m d : Int) : Int := if okD y m d && frB (num y m d) 0 40000 then num y m d else 0
def dyE (y m d : Int) : Int := if okD y m d && frB (num y m d) 0 40000 then 0 else 7
theorem isDay_T (n : Int) : RetT 46 #[.int .i64 n] (.bool (frB n 0 40000)) := by
  intro w
  have C := Lib.hid (from_T n 0 40000)
  go_enter Tryd.func46, Tryd.ntmps46
  go_wp2_with fail
  refine (C.out _).mono ?_
  rintro e w1 ⟨rfl, hq⟩
  go_wp2_with fail
  go_ret
  exact ⟨rfl, hq⟩
theorem isNil_T (ea : Addr) : RetT 45 #[.nilIface, errV ea] (.bool false) := fun w => (is_nil ea w).mono fun _ _ ⟨e, o⟩ => ⟨e, o ▸ Below.refl _ _⟩
theorem isSame_T (ea : Addr) : RetT 45 #[errV ea, errV ea] (.bool true) := fun w => (is_same ea w).mono fun _ _ ⟨e, o⟩ => ⟨e, o ▸ Below.refl _ _⟩

set_option maxHeartbeats 2000000 in
theorem day_no (ea : Addr) (y m d n : Int) (C0 : Hid (RetD ea 44 #[.int .i64 y, .int .i64 m, .int .i64 d] (.tuple #[.int .i64 0, errV ea]))) : RetD ea 17 #[.int .i64 y, .int .i64 m, .int .i64 d] (.tuple #[.int .i64 0, .int .i64 7]) := by
  intro w t
  have tc := t.err
  have hb : Below w.heap.size w w := Below.refl _ _
  have C1 := Lib.hid (isSame_T ea)
  go_enter Tryd.func17, Tryd.ntmps17
  go_wp2_with fail
  refine (C0.out _ t).mono ?_
  rintro e v1 ⟨rfl, hq⟩
  have tc := tc.below hq
  have hb := hb.trans (hq.mono hb.size)
  clear hq
  have Htc := Lib.hid tc
  obtain ⟨tc_0, tc_1⟩ := tc
  have tc_n : (0) ≠ v1.heap.size := Nat.ne_of_lt tc_1
  go_wp2_with fail
  clear tc_n tc_0 tc_1
  have tc := Htc.out
  clear Htc
  refine (C1.out _).mono ?_
  rintro e v2 ⟨rfl, hq⟩
  have tc := tc.below hq
  have hb := hb.trans (hq.mono hb.size)
  clear hq
  go_wp2_with fail
  go_ret2
  exact ⟨rfl, hb⟩

set_option maxHeartbeats 2000000 in
theorem day_far (ea : Addr) (y m d n : Int) (C0 : Hid (RetD ea 44 #[.int .i64 y, .int .i64 m, .int .i64 d] (.tuple #[.int .i64 n, .nilIface]))) (h : frB n 0 40000 = false) : RetD ea 17 #[.int .i64 y, .int .i64 m, .int .i64 d] (.tuple #[.int .i64 0, .int .i64 7]) := by
  intro w t
  have tc := t.err
  have hb : Below w.heap.size w w := Below.refl _ _
  have C1 := Lib.hid (isNil_T ea)
  have C2 := isDay_T n
  rw [h] at C2
  have C2 := Lib.hid C2
  clear h
  go_enter Tryd.func17, Tryd.ntmps17
  go_wp2_with fail
  refine (C0.out _ t).mono ?_
  rintro e v1 ⟨rfl, hq⟩
  have tc := tc.below hq
  have hb := hb.trans (hq.mono hb.size)
  clear hq
  have Htc := Lib.hid tc
  obtain ⟨tc_0, tc_1⟩ := tc
  have tc_n : (0) ≠ v1.heap.size := Nat.ne_of_lt tc_1
  go_wp2_with fail
  clear tc_n tc_0 tc_1
  have tc := Htc.out
  clear Htc
  refine (C1.out _).mono ?_
  rintro e v2 ⟨rfl, hq⟩
  have tc := tc.below hq
  have hb := hb.trans (hq.mono hb.size)
  clear hq
  go_wp2_with fail
  refine (C2.out _).mono ?_
  rintro e v3 ⟨rfl, hq⟩
  have tc := tc.below hq
  have hb := hb.trans (hq.mono hb.size)
  clear hq
  go_wp2_with fail
  go_ret2
  exact ⟨rfl, hb⟩

set_option maxHeartbeats 2000000 in
theorem day_yes (ea : Addr) (y m d n : Int) (C0 : Hid (RetD ea 44 #[.int .i64 y, .int .i64 m, .int .i64 d] (.tuple #[.int .i64 n, .nilIface]))) (h : frB n 0 40000 = true) : RetD ea 17 #[.int .i64 y, .int .i64 m, .int .i64 d] (.tuple #[.int .i64 n, .int .i64 0]) := by
  intro w t
  have tc := t.err
  have hb : Below w.heap.size w w := Below.refl _ _
  have C1 := Lib.hid (isNil_T ea)
  have C2 := isDay_T n
  rw [h] at C2
  have C2 := Lib.hid C2
  clear h
  go_enter Tryd.func17, Tryd.ntmps17
  go_wp2_with fail
  refine (C0.out _ t).mono ?_
  rintro e v1 ⟨rfl, hq⟩
  have tc := tc.below hq
  have hb := hb.trans (hq.mono hb.size)
  clear hq
  have Htc := Lib.hid tc
  obtain ⟨tc_0, tc_1⟩ := tc
  have tc_n : (0) ≠ v1.heap.size := Nat.ne_of_lt tc_1
  go_wp2_with fail
  clear tc_n tc_0 tc_1
  have tc := Htc.out
  clear Htc
  refine (C1.out _).mono ?_
  rintro e v2 ⟨rfl, hq⟩
  have tc := tc.below hq
  have hb := hb.trans (hq.mono hb.size)
  clear hq
  go_wp2_with fail
  refine (C2.out _).mono ?_
  rintro e v3 ⟨rfl, hq⟩
  have tc := tc.below hq
  have hb := hb.trans (hq.mono hb.size)
  clear hq
  go_wp2_with fail
  go_ret2
  exact ⟨rfl, hb⟩

theorem day_T (ea : Addr) (y m d : Int) : RetD ea 17 #[.int .i64 y, .int .i64 m, .int .i64 d] (.tuple #[.int .i64 (dyV y m d), .int .i64 (dyE y m d)]) := by
  have C := dayOf_T ea y m d
  unfold dyV dyE
  cases h0 : okD y m d
  · rw [h0] at C
    simpa using day_no ea y m d 0 C
  · rw [h0] at C
    cases h1 : frB (num y m d) 0 40000
    · simpa using day_far ea y m d (num y m d) C h1
    · simpa using day_yes ea y m d (num y m d) C h1
end Go.Proofs.YtjcgojbfjefbcaaDoor
