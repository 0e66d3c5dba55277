/- The walk of AngleCircle: the small functions of the law. -/
import Derived.Test.YtdikelijnachjaaDoorBack
import Derived.Test.YtdikelijnachjaaDoorCirM
import Derived.IntWalk
import Derived.Deep.RegionWith
import Derived.Deep.RegionHeld3
namespace Go.Proofs.YtdikelijnachjaaDoor
set_option linter.unusedSimpArgs false
set_option linter.unusedVariables false
open Go.RowKit SineNear

theorem meet_yes (a b c d : Int) (h1 : a ≤ d) (h2 : c ≤ b) (w : World) :
    Calls Tryd.prog 42 #[encl a b, encl c d] w fun e w' => e = .returned (.bool true) ∧ Own w.heap.size w w' := by
  have hb : Own w.heap.size w ((w.alloc (.cells #[.int .i64 a, .int .i64 b] 39)).alloc (.cells #[.int .i64 c, .int .i64 d] 39)) := ((Own.refl _ _).alloc (Nat.le_refl _) _).alloc (by simp) _
  go_enter Tryd.func42, Tryd.ntmps42
  go_wp2
  go_ret
  exact ⟨ret_bool (by simp [h1, h2]), hb⟩

set_option maxHeartbeats 400000 in
theorem sum_val (a b c d : Int) (ha : -40000000000000000 ≤ a ∧ a ≤ 40000000000000000) (hb' : -40000000000000000 ≤ b ∧ b ≤ 40000000000000000) (hc : -40000000000000000 ≤ c ∧ c ≤ 40000000000000000) (hd : -40000000000000000 ≤ d ∧ d ≤ 40000000000000000) (w : World) :
    Calls Tryd.prog 43 #[encl a b, encl c d] w fun e w' => e = .returned (encl (a + c) (b + d)) ∧ Own w.heap.size w w' := by
  have hb : Own w.heap.size w ((w.alloc (.cells #[.int .i64 a, .int .i64 b] 39)).alloc (.cells #[.int .i64 c, .int .i64 d] 39)) := ((Own.refl _ _).alloc (Nat.le_refl _) _).alloc (by simp) _
  go_enter Tryd.func43, Tryd.ntmps43
  go_wp2
  exact bodyPost_ret (v := encl (a + c) (b + d)) (by simp [results, Tryd.results43, go_sem]) rfl ⟨rfl, hb.alloc (by simp; omega) _⟩

theorem min2_is (k : IntKind) (x y : Int) : Builtin.min2 (.int k x) (.int k y) = pure (.int k (min x y)) := by
  show (pure (.int k (if y < x then y else x)) : Sem Value) = _
  congr 2
  by_cases h : y < x
  · rw [if_pos h]; omega
  · rw [if_neg h]; omega
theorem max2_is (k : IntKind) (x y : Int) : Builtin.max2 (.int k x) (.int k y) = pure (.int k (max x y)) := by
  show (pure (.int k (if y > x then y else x)) : Sem Value) = _
  congr 2
  by_cases h : y > x
  · rw [if_pos h]; omega
  · rw [if_neg h]; omega
@[go_sem ↓] theorem min_four (ats : Array TypeId) (ty : TypeId) (k : IntKind) (p q r s : Int) : Builtin.min_ ats ty #[.int k p, .int k q, .int k r, .int k s] = pure (.int k (min (min (min p q) r) s)) := by
  show (Builtin.min2 (.int k p) (.int k q) >>= fun a => Builtin.min2 a (.int k r) >>= fun a => Builtin.min2 a (.int k s) >>= fun a => pure a) = _
  rw [min2_is]
  show (Builtin.min2 (.int k (min p q)) (.int k r) >>= fun a => Builtin.min2 a (.int k s) >>= fun a => pure a) = _
  rw [min2_is]
  show (Builtin.min2 (.int k (min (min p q) r)) (.int k s) >>= fun a => pure a) = _
  rw [min2_is]
  rfl
@[go_sem ↓] theorem max_four (ats : Array TypeId) (ty : TypeId) (k : IntKind) (p q r s : Int) : Builtin.max_ ats ty #[.int k p, .int k q, .int k r, .int k s] = pure (.int k (max (max (max p q) r) s)) := by
  show (Builtin.max2 (.int k p) (.int k q) >>= fun a => Builtin.max2 a (.int k r) >>= fun a => Builtin.max2 a (.int k s) >>= fun a => pure a) = _
  rw [max2_is]
  show (Builtin.max2 (.int k (max p q)) (.int k r) >>= fun a => Builtin.max2 a (.int k s) >>= fun a => pure a) = _
  rw [max2_is]
  show (Builtin.max2 (.int k (max (max p q) r)) (.int k s) >>= fun a => pure a) = _
  rw [max2_is]
  rfl
/-- two enclosures in their boxes -/
def KpP (w0 : World) (b c : Nat) (l h l2 h2 : Int) (w : World) : Prop :=
  w.cell? ⟨b, 0, none⟩ = some (.int .i64 l) ∧ w.cell? ⟨b, 1, none⟩ = some (.int .i64 h) ∧ w.cell? ⟨c, 0, none⟩ = some (.int .i64 l2) ∧ w.cell? ⟨c, 1, none⟩ = some (.int .i64 h2) ∧ Own w0.heap.size w0 w
theorem KpP.drew {w0 w : World} {b c : Nat} {l h l2 h2 : Int} (k : KpP w0 b c l h l2 h2 w) : KpP w0 b c l h l2 h2 w.drew := ⟨k.1, k.2.1, k.2.2.1, k.2.2.2.1, k.2.2.2.2.drew⟩

set_option maxRecDepth 100000 in
set_option maxHeartbeats 1000000 in
theorem product_val (a b c d : Int) (h1 : -40000000000000000 ≤ a * c ∧ a * c ≤ 40000000000000000) (h2 : -40000000000000000 ≤ a * d ∧ a * d ≤ 40000000000000000) (h3 : -40000000000000000 ≤ b * c ∧ b * c ≤ 40000000000000000) (h4 : -40000000000000000 ≤ b * d ∧ b * d ≤ 40000000000000000) (w : World) :
    Calls Tryd.prog 45 #[encl a b, encl c d] w fun e w' => e = .returned (encl (pLo a b c d) (pHi a b c d)) ∧ Own w.heap.size w w' := by
  have hb : Own w.heap.size w ((w.alloc (.cells #[.int .i64 a, .int .i64 b] 23)).alloc (.cells #[.int .i64 c, .int .i64 d] 23)) := ((Own.refl _ _).alloc (Nat.le_refl _) _).alloc (by simp) _
  have w1 := IntWalk.i64_in (a * c) (by omega)
  have w2 := IntWalk.i64_in (a * d) (by omega)
  have w3 := IntWalk.i64_in (b * c) (by omega)
  have w4 := IntWalk.i64_in (b * d) (by omega)
  go_enter Tryd.func45, Tryd.ntmps45
  go_wp2
  have hS : KpP w w.heap.size (w.heap.size + 1) a b c d (((w.alloc (.cells #[.int .i64 a, .int .i64 b] 23)).alloc (.cells #[.int .i64 c, .int .i64 d] 23)).alloc (.cells #[.int .i64 0, .int .i64 0] 39)) := by
    refine ⟨?_, ?_, ?_, ?_, hb.alloc (by simp; omega) _⟩ <;> simp [go_sem]
  have hB : Box (w.heap.size + 1 + 1) 0 0 (((w.alloc (.cells #[.int .i64 a, .int .i64 b] 23)).alloc (.cells #[.int .i64 c, .int .i64 d] 23)).alloc (.cells #[.int .i64 0, .int .i64 0] 39)) := by
    have h := Box.fresh ((w.alloc (.cells #[.int .i64 a, .int .i64 b] 23)).alloc (.cells #[.int .i64 c, .int .i64 d] 23)) 0 0 39
    simpa using h
  generalize ((w.alloc (.cells #[.int .i64 a, .int .i64 b] 23)).alloc (.cells #[.int .i64 c, .int .i64 d] 23)).alloc (.cells #[.int .i64 0, .int .i64 0] 39) = W at *
  go_region_held3 (fun w' => w'.cell? ⟨w.heap.size, 0, none⟩ = some (.int .i64 a) ∧ w'.cell? ⟨w.heap.size, 1, none⟩ = some (.int .i64 b) ∧ w'.cell? ⟨w.heap.size + 1, 0, none⟩ = some (.int .i64 c) ∧ w'.cell? ⟨w.heap.size + 1, 1, none⟩ = some (.int .i64 d) ∧ Own w.heap.size w w') (first | exact KpP.drew hS | exact KpP.drew (by assumption))
    (fail)
  have kS : KpP w w.heap.size (w.heap.size + 1) a b c d W.drew := hS.drew
  have kB : Box (w.heap.size + 1 + 1) 0 0 W.drew := hB.drew
  clear hS hB
  generalize W.drew = V at *
  clear W
  have hO : Own w.heap.size w V := kS.2.2.2.2
  have k2 := kB.2.2.1
  have k3 := kB.2.2.2.1
  have k0 := kB.1
  have k1 := kB.2.1
  go_wp2
  have e1 : min (a * c) (min (a * d) (min (b * c) (b * d))) = pLo a b c d := by
    unfold pLo; generalize a*c = p; generalize a*d = q; generalize b*c = r; generalize b*d = s; omega
  have e2 : max (a * c) (max (a * d) (max (b * c) (b * d))) = pHi a b c d := by
    unfold pHi; generalize a*c = p; generalize a*d = q; generalize b*c = r; generalize b*d = s; omega
  rw [e1, e2]
  have m := Box.set kB (pLo a b c d) (pHi a b c d)
  have hz := kB.2.2.2.2
  have g0 := m.1
  have g1 := m.2.1
  refine bodyPost_ret (v := encl (pLo a b c d) (pHi a b c d)) ?_ rfl ⟨rfl, (hO.setCell (show w.heap.size ≤ w.heap.size + 1 + 1 by omega) _).setCell (show w.heap.size ≤ w.heap.size + 1 + 1 by omega) _⟩
  generalize (V.setCell ⟨w.heap.size + 1 + 1, 0, none⟩ (.int .i64 (pLo a b c d))).setCell ⟨w.heap.size + 1 + 1, 1, none⟩ (.int .i64 (pHi a b c d)) = X at *
  simp [results, Tryd.results45, go_sem, g0, g1]

@[go_sem ↓] theorem min_two (ats : Array TypeId) (ty : TypeId) (k : IntKind) (p q : Int) : Builtin.min_ ats ty #[.int k p, .int k q] = pure (.int k (min p q)) := by
  show (Builtin.min2 (.int k p) (.int k q) >>= fun a => pure a) = _
  rw [min2_is]
  rfl
@[go_sem ↓] theorem max_two (ats : Array TypeId) (ty : TypeId) (k : IntKind) (p q : Int) : Builtin.max_ ats ty #[.int k p, .int k q] = pure (.int k (max p q)) := by
  show (Builtin.max2 (.int k p) (.int k q) >>= fun a => pure a) = _
  rw [max2_is]
  rfl

set_option maxRecDepth 100000 in
set_option maxHeartbeats 2000000 in
theorem square_zero (a b : Int) (h0 : a ≤ 0) (h1 : 0 ≤ b) (ha : 0 ≤ a * a ∧ a * a ≤ 40000000000000000) (hb : 0 ≤ b * b ∧ b * b ≤ 40000000000000000) (C : ∀ w : World, Calls Tryd.prog 45 #[encl a b, encl a b] w fun e w' => e = .returned (encl (pLo a b a b) (pHi a b a b)) ∧ Own w.heap.size w w') (w : World) :
    Calls Tryd.prog 44 #[encl a b] w fun e w' => e = .returned (encl 0 (pHi a b a b)) ∧ Own w.heap.size w w' := by
  have C' := Lib.hid C
  clear C
  have y1 := IntWalk.i64_in (a * a) (by omega)
  have y2 := IntWalk.i64_in (b * b) (by omega)
  go_enter Tryd.func44, Tryd.ntmps44
  go_wp2_with fail
  refine (C'.out _).mono ?_
  rintro e w1 ⟨rfl, hb1⟩
  have k := ((Box.fresh w a b 23).alloc (.cells #[.int .i64 0, .int .i64 0] 39)).below hb1.below
  have r := (Box.fresh (w.alloc (.cells #[.int .i64 a, .int .i64 b] 23)) 0 0 39).below hb1.below
  rw [show (w.alloc (.cells #[.int .i64 a, .int .i64 b] 23)).heap.size = w.heap.size + 1 by simp] at r
  have o : Own w.heap.size w w1 := (((Own.refl _ _).alloc (Nat.le_refl _) _).alloc (by simp) _).trans (hb1.mono (by simp; omega))
  clear hb1
  have k2 := k.alloc (.cells #[.int .i64 (pLo a b a b), .int .i64 (pHi a b a b)] 39)
  have r2 := r.alloc (.cells #[.int .i64 (pLo a b a b), .int .i64 (pHi a b a b)] 39)
  have p2 := Box.fresh w1 (pLo a b a b) (pHi a b a b) 39
  have o2 : Own w.heap.size w (w1.alloc (.cells #[.int .i64 (pLo a b a b), .int .i64 (pHi a b a b)] 39)) := o.alloc (by have := o.below.size; omega) _
  have hz := r.2.2.2.2
  have kz := k.2.2.2.2
  have r0 := r.1
  have r1 := r.2.1
  have k0 := k.1
  have k1 := k.2.1
  have f0 := r.2.2.1
  have f1 := r.2.2.2.1
  go_wp2_with fail
  have m := (Box.set r (0) (pHi a b a b)).alloc (.cells #[.int .i64 (pLo a b a b), .int .i64 (pHi a b a b)] 39)
  have g0 := m.1
  have g1 := m.2.1
  have hw := o.below.size
  have oo : Own w.heap.size w (((w1.setCell ⟨w.heap.size + 1, 0, none⟩ (.int .i64 (0))).setCell ⟨w.heap.size + 1, 1, none⟩ (.int .i64 (pHi a b a b))).alloc (.cells #[.int .i64 (pLo a b a b), .int .i64 (pHi a b a b)] 39)) := ((o.setCell (show w.heap.size ≤ w.heap.size + 1 by omega) _).setCell (show w.heap.size ≤ w.heap.size + 1 by omega) _).alloc (by simpa using hw) _
  refine bodyPost_ret (v := encl (0) (pHi a b a b)) ?_ rfl ⟨rfl, oo⟩
  generalize ((w1.setCell ⟨w.heap.size + 1, 0, none⟩ (.int .i64 (0))).setCell ⟨w.heap.size + 1, 1, none⟩ (.int .i64 (pHi a b a b))).alloc (.cells #[.int .i64 (pLo a b a b), .int .i64 (pHi a b a b)] 39) = X at *
  simp [results, Tryd.results44, go_sem, g0, g1]

set_option maxRecDepth 100000 in
set_option maxHeartbeats 2000000 in
theorem square_else (a b : Int) (h0 : ¬ (a ≤ 0 ∧ 0 ≤ b)) (ha : 0 ≤ a * a ∧ a * a ≤ 40000000000000000) (hb : 0 ≤ b * b ∧ b * b ≤ 40000000000000000) (C : ∀ w : World, Calls Tryd.prog 45 #[encl a b, encl a b] w fun e w' => e = .returned (encl (pLo a b a b) (pHi a b a b)) ∧ Own w.heap.size w w') (w : World) :
    Calls Tryd.prog 44 #[encl a b] w fun e w' => e = .returned (encl (min (a * a) (b * b)) (max (a * a) (b * b))) ∧ Own w.heap.size w w' := by
  have C' := Lib.hid C
  clear C
  have y1 := IntWalk.i64_in (a * a) (by omega)
  have y2 := IntWalk.i64_in (b * b) (by omega)
  go_enter Tryd.func44, Tryd.ntmps44
  go_wp2_with fail
  refine (C'.out _).mono ?_
  rintro e w1 ⟨rfl, hb1⟩
  have k := ((Box.fresh w a b 23).alloc (.cells #[.int .i64 0, .int .i64 0] 39)).below hb1.below
  have r := (Box.fresh (w.alloc (.cells #[.int .i64 a, .int .i64 b] 23)) 0 0 39).below hb1.below
  rw [show (w.alloc (.cells #[.int .i64 a, .int .i64 b] 23)).heap.size = w.heap.size + 1 by simp] at r
  have o : Own w.heap.size w w1 := (((Own.refl _ _).alloc (Nat.le_refl _) _).alloc (by simp) _).trans (hb1.mono (by simp; omega))
  clear hb1
  have k2 := k.alloc (.cells #[.int .i64 (pLo a b a b), .int .i64 (pHi a b a b)] 39)
  have r2 := r.alloc (.cells #[.int .i64 (pLo a b a b), .int .i64 (pHi a b a b)] 39)
  have p2 := Box.fresh w1 (pLo a b a b) (pHi a b a b) 39
  have o2 : Own w.heap.size w (w1.alloc (.cells #[.int .i64 (pLo a b a b), .int .i64 (pHi a b a b)] 39)) := o.alloc (by have := o.below.size; omega) _
  have hz := r.2.2.2.2
  have kz := k.2.2.2.2
  have r0 := r.1
  have r1 := r.2.1
  have k0 := k.1
  have k1 := k.2.1
  have f0 := r.2.2.1
  have f1 := r.2.2.2.1
  by_cases c : a ≤ 0
  · have c2 : ¬ (0 ≤ b) := by omega
    go_wp2_with fail
    have m := (Box.set r (min (a * a) (b * b)) (max (a * a) (b * b))).alloc (.cells #[.int .i64 (pLo a b a b), .int .i64 (pHi a b a b)] 39)
    have g0 := m.1
    have g1 := m.2.1
    have hw := o.below.size
    have oo : Own w.heap.size w (((w1.setCell ⟨w.heap.size + 1, 0, none⟩ (.int .i64 (min (a * a) (b * b)))).setCell ⟨w.heap.size + 1, 1, none⟩ (.int .i64 (max (a * a) (b * b)))).alloc (.cells #[.int .i64 (pLo a b a b), .int .i64 (pHi a b a b)] 39)) := ((o.setCell (show w.heap.size ≤ w.heap.size + 1 by omega) _).setCell (show w.heap.size ≤ w.heap.size + 1 by omega) _).alloc (by simpa using hw) _
    refine bodyPost_ret (v := encl (min (a * a) (b * b)) (max (a * a) (b * b))) ?_ rfl ⟨rfl, oo⟩
    generalize ((w1.setCell ⟨w.heap.size + 1, 0, none⟩ (.int .i64 (min (a * a) (b * b)))).setCell ⟨w.heap.size + 1, 1, none⟩ (.int .i64 (max (a * a) (b * b)))).alloc (.cells #[.int .i64 (pLo a b a b), .int .i64 (pHi a b a b)] 39) = X at *
    simp [results, Tryd.results44, go_sem, g0, g1]
  · go_wp2_with fail
    have m := (Box.set r (min (a * a) (b * b)) (max (a * a) (b * b))).alloc (.cells #[.int .i64 (pLo a b a b), .int .i64 (pHi a b a b)] 39)
    have g0 := m.1
    have g1 := m.2.1
    have hw := o.below.size
    have oo : Own w.heap.size w (((w1.setCell ⟨w.heap.size + 1, 0, none⟩ (.int .i64 (min (a * a) (b * b)))).setCell ⟨w.heap.size + 1, 1, none⟩ (.int .i64 (max (a * a) (b * b)))).alloc (.cells #[.int .i64 (pLo a b a b), .int .i64 (pHi a b a b)] 39)) := ((o.setCell (show w.heap.size ≤ w.heap.size + 1 by omega) _).setCell (show w.heap.size ≤ w.heap.size + 1 by omega) _).alloc (by simpa using hw) _
    refine bodyPost_ret (v := encl (min (a * a) (b * b)) (max (a * a) (b * b))) ?_ rfl ⟨rfl, oo⟩
    generalize ((w1.setCell ⟨w.heap.size + 1, 0, none⟩ (.int .i64 (min (a * a) (b * b)))).setCell ⟨w.heap.size + 1, 1, none⟩ (.int .i64 (max (a * a) (b * b)))).alloc (.cells #[.int .i64 (pLo a b a b), .int .i64 (pHi a b a b)] 39) = X at *
    simp [results, Tryd.results44, go_sem, g0, g1]

theorem square_val (a b : Int) (h1 : -40000000000000000 ≤ a * b ∧ a * b ≤ 40000000000000000) (ha : 0 ≤ a * a ∧ a * a ≤ 40000000000000000) (hb : 0 ≤ b * b ∧ b * b ≤ 40000000000000000) (w : World) :
    Calls Tryd.prog 44 #[encl a b] w fun e w' => e = .returned (encl (qLo a b) (qHi a b)) ∧ Own w.heap.size w w' := by
  have C := product_val a b a b ⟨by omega, ha.2⟩ h1 (by rw [Int.mul_comm b a]; exact h1) ⟨by omega, hb.2⟩
  unfold qLo qHi
  by_cases c : a ≤ 0 ∧ 0 ≤ b
  · rw [if_pos c, if_pos c]
    exact square_zero a b c.1 c.2 ha hb C w
  · rw [if_neg c, if_neg c]
    exact square_else a b c ha hb C w
end Go.Proofs.YtdikelijnachjaaDoor
