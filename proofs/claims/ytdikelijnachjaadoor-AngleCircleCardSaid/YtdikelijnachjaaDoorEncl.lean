/- The walk of AngleEncloses. -/
import Derived.Test.YtdikelijnachjaaDoorBack
import Derived.Test.YtdikelijnachjaaDoorEnM
import Derived.IntWalk
import Derived.Deep.RegionWith
namespace Go.Proofs.YtdikelijnachjaaDoor
set_option linter.unusedSimpArgs false
set_option linter.unusedVariables false
open Go.RowKit SineNear

/-- one enclosure within another -/
def wiB (a b c d : Int) : Bool := decide (c ≤ a ∧ b ≤ d)

set_option maxHeartbeats 400000 in
theorem within_any (a b c d : Int) (w : World) :
    Calls Tryd.prog 46 #[encl a b, encl c d] w fun e w' => e = .returned (.bool (wiB a b c d)) ∧ Own w.heap.size w w' := by
  have hb : Own w.heap.size w ((w.alloc (.cells #[.int .i64 a, .int .i64 b] 23)).alloc (.cells #[.int .i64 c, .int .i64 d] 23)) := ((Own.refl _ _).alloc (Nat.le_refl _) _).alloc (by simp) _
  by_cases h : c ≤ a
  · go_enter Tryd.func46, Tryd.ntmps46
    go_wp2
    go_ret
    exact ⟨ret_bool (by unfold wiB; simp [h]), hb⟩
  · go_enter Tryd.func46, Tryd.ntmps46
    go_wp2
    go_ret
    exact ⟨ret_bool (by unfold wiB; exact (decide_eq_false (by omega)).symm), hb⟩
theorem within_yes (a b c d : Int) (h1 : c ≤ a) (h2 : b ≤ d) (w : World) :
    Calls Tryd.prog 46 #[encl a b, encl c d] w fun e w' => e = .returned (.bool true) ∧ Own w.heap.size w w' := by
  have h := within_any a b c d w
  rw [show wiB a b c d = true from decide_eq_true ⟨h1, h2⟩] at h
  exact h

/-- two enclosures in their boxes, the tables, and all that a region leaves as it was -/
def KpE (W : World) (b c : Nat) (l h l2 h2 : Int) (w : World) : Prop :=
  w.cell? ⟨b, 0, none⟩ = some (.int .i64 l) ∧ w.cell? ⟨b, 1, none⟩ = some (.int .i64 h) ∧ w.cell? ⟨c, 0, none⟩ = some (.int .i64 l2) ∧ w.cell? ⟨c, 1, none⟩ = some (.int .i64 h2) ∧ (b < w.heap.size ∧ c < w.heap.size) ∧ Tabs w ∧ Below W.heap.size W w
theorem KpE.call {W w w1 : World} {b c : Nat} {l h l2 h2 : Int} (k : KpE W b c l h l2 h2 w) (o : Below w.heap.size w w1) : KpE W b c l h l2 h2 w1 := by
  obtain ⟨k0, k1, k2, k3, ⟨hb', hc'⟩, t, k6⟩ := k
  have hsz := o.size
  refine ⟨?_, ?_, ?_, ?_, ⟨by omega, by omega⟩, t.below o, k6.trans (o.mono k6.size)⟩
  · rw [o.cell (p := ⟨b, 0, none⟩) hb']; exact k0
  · rw [o.cell (p := ⟨b, 1, none⟩) hb']; exact k1
  · rw [o.cell (p := ⟨c, 0, none⟩) hc']; exact k2
  · rw [o.cell (p := ⟨c, 1, none⟩) hc']; exact k3
theorem KpE.tabs {W w : World} {b c : Nat} {l h l2 h2 : Int} (k : KpE W b c l h l2 h2 w) : Tabs w := k.2.2.2.2.2.1

/-- the same of one enclosure -/
def KpF (W : World) (b : Nat) (l h : Int) (w : World) : Prop :=
  w.cell? ⟨b, 0, none⟩ = some (.int .i64 l) ∧ w.cell? ⟨b, 1, none⟩ = some (.int .i64 h) ∧ b < w.heap.size ∧ Tabs w ∧ Below W.heap.size W w
theorem KpF.call {W w w1 : World} {b : Nat} {l h : Int} (k : KpF W b l h w) (o : Below w.heap.size w w1) : KpF W b l h w1 := by
  obtain ⟨k0, k1, hb', t, k6⟩ := k
  have hsz := o.size
  refine ⟨?_, ?_, by omega, t.below o, k6.trans (o.mono k6.size)⟩
  · rw [o.cell (p := ⟨b, 0, none⟩) hb']; exact k0
  · rw [o.cell (p := ⟨b, 1, none⟩) hb']; exact k1
theorem KpF.tabs {W w : World} {b : Nat} {l h : Int} (k : KpF W b l h w) : Tabs w := k.2.2.2.1
theorem KpE.one {W w : World} {b c : Nat} {l h l2 h2 : Int} (k : KpE W b c l h l2 h2 w) : KpF W b l h w := ⟨k.1, k.2.1, k.2.2.2.2.1.1, k.2.2.2.2.2.1, k.2.2.2.2.2.2⟩

set_option maxRecDepth 100000 in
set_option maxHeartbeats 1000000 in
theorem encl_no (l h u : Int) (w : World) (t : Tabs w) (C1 : ∀ w : World, Calls Tryd.prog 19 #[encl l h] w fun e w' => e = .returned (enclE 0 0 7) ∧ Own w.heap.size w w') (C2 : ∀ w : World, Calls Tryd.prog 21 #[encl l h] w fun e w' => e = .returned (enclE 0 0 7) ∧ Own w.heap.size w w') :
    Calls Tryd.prog 8 #[encl l h, .int .u8 u] w fun e w' => e = .returned (.bool true) ∧ Below w.heap.size w w' := by
  have C1' := Lib.hid C1
  have C2' := Lib.hid C2
  clear C1 C2
  go_enter Tryd.func8, Tryd.ntmps8
  go_wp2_with fail
  refine (C1'.out _).mono ?_
  rintro e w1 ⟨rfl, hb1⟩
  have k2 := (Box.fresh w l h 23).below hb1.below
  have d1 : Below w.heap.size w w1 := ((Below.refl _ _).alloc (Nat.le_refl _) _).trans (hb1.below.mono (by simp))
  obtain ⟨k20, k21, k22, k23, k24⟩ := k2
  go_wp2_with fail
  refine (C2'.out _).mono ?_
  rintro e w2 ⟨rfl, hb2⟩
  have d2 : Below w.heap.size w w2 := (d1.alloc d1.size _).trans (hb2.below.mono (by have := d1.size; simp; omega))
  go_wp2_with fail
  have d3 : Below w.heap.size w (w2.alloc (.cells #[.int .i64 0, .int .i64 0] 23)) := d2.alloc d2.size _
  refine (awake_any _ (t.below d3)).mono ?_
  rintro e w3 ⟨rfl, hb3⟩
  go_wp2_with fail
  go_ret
  exact ⟨rfl, d3.trans (hb3.mono d3.size)⟩

end Go.Proofs.YtdikelijnachjaaDoor
