/- A region that draws its order: calls that return one value in whatever world, and leave what was there as it was, are taken one by one, with no branch over their orders. -/
import Derived.OrdersHeld
import Derived.Below
namespace Go.Proofs.YtjcgojbfjefbcaaDoor
set_option linter.unusedSimpArgs false
set_option linter.unusedVariables false
open Go.RowKit

section
variable {P : Program} {ops : Array Oper} {Q : Exit → Act → World → Prop} {md : Region.Mode} {R : World → Prop}

/-- what an operation leaves: a value, and a world -/
def opV (P : Program) (o : Oper) (a : Act) (w : World) (T : Value → World → Prop) : Prop :=
  match (execOp a.eval o).run P w with
  | .ok (.value u) w' => T u w'
  | .ok .skip w' => T undef w'
  | .ok (.enter f args) w' => Calls P f args w' fun e w'' => ∃ u, e = .returned u ∧ T u w''
  | _ => False

theorem opV_mono {o : Oper} {a : Act} {w : World} {T T' : Value → World → Prop} (h : opV P o a w T) (k : ∀ u w', T u w' → T' u w') : opV P o a w T' := by
  unfold opV at *
  split at h
  · exact k _ _ h
  · exact k _ _ h
  · exact Calls.mono h fun e w'' ⟨u, he, ht⟩ => ⟨u, he, k _ _ ht⟩
  · exact h.elim
theorem opV_wp {o : Oper} {a : Act} {w : World} {T : Value → World → Prop} {K : Act → World → Prop} (h : opV P o a w T) (k : ∀ u w', T u w' → K (a.put o.dst u) w') : o.wp P a w K Q := by
  unfold opV at h
  unfold Oper.wp
  generalize (execOp a.eval o).run P w = r at *
  cases r with
  | ok n w' =>
    cases n <;> simp only [Oper.upon] at h ⊢ <;> first | exact k _ _ h | exact h.elim | skip
    refine Calls.mono h fun e w'' he => ?_
    obtain ⟨u, rfl, ht⟩ := he
    exact k _ _ ht
  | halt x w' => exact h.elim
theorem opV_congr {o : Oper} {a a' : Act} (he : execOp a'.eval o = execOp a.eval o) {w : World} {T : Value → World → Prop} (h : opV P o a w T) : opV P o a' w T := by
  unfold opV at *
  rw [he]; exact h

/-- kept by whatever leaves what was there as it was; it gives R -/
def Good (R : World → Prop) (S : World → Prop) : Prop := (∀ w w', S w → Below w.heap.size w w' → S w') ∧ ∀ w, S w → R w

/-- the operation leaves one of the values v, and S' -/
def Step (P : Program) (ops : Array Oper) (o : Oper) (a : Act) (S : World → Prop) {I : Type} (v : I → Value) (S' : I → World → Prop) : Prop :=
  (Region.wanted o (yielded ops a.tmps) = true ∧ ∀ w, S w → opV P o a w fun u w' => ∃ x, a.put o.dst u = a.put o.dst (v x) ∧ S' x w') ∨
  (Region.wanted o (yielded ops a.tmps) = false ∧ ∀ w, S w → ∃ x, v x = undef ∧ S' x w)

/-- whatever order is picked: each operation that may come up leaves one of some values, whatever the world is, if it meets S -/
def wpAnyG (P : Program) (md : Region.Mode) (ops : Array Oper) (Q : Exit → Act → World → Prop) (R : World → Prop) : Nat → Array Bool → Act → (World → Prop) → Prop
  | 0, listed, a, S => Region.ready md ops listed = [] ∧ ∀ w, S w → Q .normal a w
  | fuel + 1, listed, a, S =>
    (Region.ready md ops listed = [] → ∀ w, S w → Q .normal a w) ∧
    ∀ i ∈ Region.ready md ops listed, ∃ (o : Oper) (I : Type) (v : I → Value) (S' : I → World → Prop), ops[i]? = some o ∧ (∀ x, Good R (S' x)) ∧ Step P ops o a S v S' ∧
      ∀ x, wpAnyG P md ops Q R fuel (listed.setIfInBounds i true) (a.put o.dst (v x)) (S' x)

theorem wpAny_of_G : ∀ (fuel : Nat) (listed : Array Bool) (a : Act) (S : World → Prop) (w : World), wpAnyG P md ops Q R fuel listed a S → S w → wpAny P md ops Q fuel listed a w := by
  intro fuel
  induction fuel with
  | zero => intro listed a S w h hS; exact ⟨h.1, h.2 w hS⟩
  | succ fuel ih =>
    intro listed a S w h hS
    refine ⟨fun h0 => h.1 h0 w hS, fun i hi => ?_⟩
    obtain ⟨o, I, v, S', ho, hg, hst, hx⟩ := h.2 i hi
    unfold wpOp
    simp only [ho]
    rcases hst with ⟨hw, hst⟩ | ⟨hw, hst⟩
    · simp only [hw, if_true]
      refine Or.inl (opV_wp (hst w hS) fun u w' hu => ?_)
      obtain ⟨x, hx1, hx2⟩ := hu
      rw [hx1]
      exact ih _ _ _ _ (hx x) hx2
    · simp only [hw, Bool.false_eq_true, if_false]
      obtain ⟨x, hx1, hx2⟩ := hst w hS
      rw [← hx1]
      exact ih _ _ _ _ (hx x) hx2

theorem wp_region_G {id : Nat} {a : Act} {w : World} (S : World → Prop) (hm : P.follows .mixedOrders = true) (hS : S { w with drawn := w.drawn + 1 })
    (h : wpAnyG P .any ops Q R ops.size (Array.replicate ops.size false) a S) : (Code.region id ops true).wp P Q a w :=
  wp_region_any hm (wpAny_of_G _ _ _ _ _ h hS)

/-- one value, in whatever world that meets R -/
def Det (P : Program) (ops : Array Oper) (R : World → Prop) (o : Oper) (v : Value) (a : Act) : Prop :=
  (Region.wanted o (yielded ops a.tmps) = true ∧ ∀ w, R w → opV P o a w fun u w' => u = v ∧ Below w.heap.size w w') ∨
  (Region.wanted o (yielded ops a.tmps) = false ∧ v = undef)
theorem Det.of_same {o : Oper} {v : Value} {a a' : Act} (hy : Det P ops R o v a) (he : execOp a'.eval o = execOp a.eval o)
    (hw : Region.wanted o (yielded ops a'.tmps) = Region.wanted o (yielded ops a.tmps)) : Det P ops R o v a' := by
  rcases hy with ⟨h1, h2⟩ | ⟨h1, h2⟩
  · exact Or.inl ⟨by rw [hw]; exact h1, fun w hR => opV_congr he (h2 w hR)⟩
  · exact Or.inr ⟨by rw [hw]; exact h1, h2⟩
theorem Det.step {o : Oper} {v : Value} {a : Act} {S : World → Prop} (hy : Det P ops R o v a) (hg : Good R S) : Step P ops o a S (fun _ : Unit => v) (fun _ => S) := by
  rcases hy with ⟨h1, h2⟩ | ⟨h1, h2⟩
  · exact Or.inl ⟨h1, fun w hS => opV_mono (h2 w (hg.2 w hS)) fun u w' ⟨hu, hb⟩ => ⟨(), by rw [hu], hg.1 w w' hS hb⟩⟩
  · exact Or.inr ⟨h1, fun w hS => ⟨(), h2, hS⟩⟩

theorem put_inj {a : Act} {x y : Option Tmp} {v u u' : Value} (hne : ∀ d, x = some d → y ≠ some d) (h : (a.put x v).put y u = (a.put x v).put y u') : a.put y u = a.put y u' := by
  cases y with
  | none => rfl
  | some d =>
    by_cases hd : d < a.tmps.size
    · have h1 := congrArg (fun b : Act => b.tmps[d]?) h
      have hs : d < (a.put x v).tmps.size := by cases x <;> simp [Act.put, hd]
      simp [Act.put, Array.getElem?_setIfInBounds, hs] at h1
      cases x with
      | none => simp [Act.put, hd] at h1; rw [h1]
      | some e => simp [Act.put, hd] at h1; rw [h1]
    · simp [Act.put, Array.setIfInBounds, hd]

theorem Step.back {oi oj : Oper} {v : Value} {a : Act} {S : World → Prop} {I : Type} {u : I → Value} {S' : I → World → Prop} (hap : oi.apart ops oj = true) (hsj : ∀ cs b, oj.op ≠ .select cs b)
    (h : Step P ops oj (a.put oi.dst v) S u S') : Step P ops oj a S u S' := by
  obtain ⟨h1, h2, h3⟩ := Oper.apart_spec hap
  have e := execOp_put oj hsj a oi.dst v h1
  have ew := wanted_put oj a oi.dst v h1
  unfold Step at *
  rw [ew] at h
  rcases h with ⟨hw, h⟩ | ⟨hw, h⟩
  · exact Or.inl ⟨hw, fun w hS => opV_mono (opV_congr e.symm (h w hS)) fun z w' ⟨x, hx, hs⟩ => ⟨x, put_inj h2 hx, hs⟩⟩
  · exact Or.inr ⟨hw, h⟩

theorem wpAnyG_first {i : Nat} {oi : Oper} {v : Value} (hi : ops[i]? = some oi) (hsel : ∀ (j : Nat) (o : Oper) cs b, ops[j]? = some o → o.op ≠ .select cs b) :
    ∀ (fuel : Nat) (listed : Array Bool) (a : Act) (S : World → Prop),
      (∀ j oj, ops[j]? = some oj → j ≠ i → listed.getD j true = false → (∀ e ∈ oj.after, Region.binds md e = true → e.on ≠ i) → oi.apart ops oj = true) →
      i ∈ Region.ready md ops listed → Det P ops R oi v a → Good R S →
      wpAnyG P md ops Q R fuel (listed.setIfInBounds i true) (a.put oi.dst v) S → wpAnyG P md ops Q R (fuel + 1) listed a S := by
  intro fuel
  induction fuel with
  | zero =>
    intro listed a S _ hr hy hg H
    refine ⟨fun h => (by rw [h] at hr; cases hr), fun j hj => ?_⟩
    by_cases hji : j = i
    · subst hji; exact ⟨oi, Unit, fun _ => v, fun _ => S, hi, fun _ => hg, hy.step hg, fun _ => H⟩
    · have := ready_mono hj hji
      rw [H.1] at this
      cases this
  | succ fuel ih =>
    intro listed a S hfree hr hy hg H
    refine ⟨fun h => (by rw [h] at hr; cases hr), fun j hj => ?_⟩
    by_cases hji : j = i
    · subst hji; exact ⟨oi, Unit, fun _ => v, fun _ => S, hi, fun _ => hg, hy.step hg, fun _ => H⟩
    · obtain ⟨oj, I, u, S', hoj, hgj, hstep, hx⟩ := H.2 j (ready_mono hj hji)
      obtain ⟨hjun, oj', hoj', hall⟩ := mem_ready.1 hj
      obtain rfl : oj = oj' := Option.some.inj (hoj.symm.trans hoj')
      have hnot : ∀ e ∈ oj.after, Region.binds md e = true → e.on ≠ i := fun e he hb heq => by
        have h1 := hall e he hb
        have h0 := (mem_ready.1 hr).1
        rw [heq] at h1
        rcases Nat.lt_or_ge i listed.size with h' | h'
        · simp [h'] at h0 h1; rw [h0] at h1; cases h1
        · simp [Array.getElem?_eq_none h'] at h1
      have hap := hfree j oj hoj hji hjun hnot
      obtain ⟨a1, a2, a3⟩ := Oper.apart_spec hap
      have hfree' : ∀ k ok, ops[k]? = some ok → k ≠ i → (listed.setIfInBounds j true).getD k true = false →
          (∀ e ∈ ok.after, Region.binds md e = true → e.on ≠ i) → oi.apart ops ok = true := fun k ok hk hki hun hno => by
        refine hfree k ok hk hki ?_ hno
        by_cases hjk : j = k
        · subst hjk; exact hjun
        · rw [getD_set_ne true hjk] at hun; exact hun
      refine ⟨oj, I, u, S', hoj, hgj, hstep.back hap (fun cs b => hsel j oj cs b hoj), fun x => ?_⟩
      have hy' : Det P ops R oi v (a.put oj.dst (u x)) := hy.of_same (execOp_put oi (fun cs b => hsel i oi cs b hi) a oj.dst (u x) a3) (wanted_put oi a oj.dst (u x) a3)
      refine ih (listed.setIfInBounds j true) (a.put oj.dst (u x)) (S' x) hfree' (ready_mono hr (Ne.symm hji)) hy' (hgj x) ?_
      rw [Array.setIfInBounds_comm _ _ hji, ← Act.put_comm a v (u x) a2]
      exact hx x

/-- a load, or a computation, is taken first -/
theorem wpAnyG_take {i : Nat} {oi : Oper} {v : Value} {fuel : Nat} {listed : Array Bool} {a : Act} {S : World → Prop} (hi : ops[i]? = some oi)
    (hs : Region.noSelect ops = true) (hf : Region.free md ops listed i = true) (hr : (Region.ready md ops listed).contains i = true) (hg : Good R S)
    (hw : Region.wanted oi (yielded ops a.tmps) = true) (hy : ∀ w, R w → (execOp a.eval oi).run P w = .ok (.value v) w)
    (h : wpAnyG P md ops Q R fuel (listed.setIfInBounds i true) (a.put oi.dst v) S) : wpAnyG P md ops Q R (fuel + 1) listed a S :=
  wpAnyG_first hi (Region.noSelect_spec hs) fuel listed a S (Region.free_spec hi hf) (by simpa using hr)
    (Or.inl ⟨hw, fun w hR => by unfold opV; rw [hy w hR]; exact ⟨rfl, Below.refl _ _⟩⟩) hg h
/-- one that is not wanted -/
theorem wpAnyG_skip {i : Nat} {oi : Oper} {fuel : Nat} {listed : Array Bool} {a : Act} {S : World → Prop} (hi : ops[i]? = some oi)
    (hs : Region.noSelect ops = true) (hf : Region.free md ops listed i = true) (hr : (Region.ready md ops listed).contains i = true) (hg : Good R S)
    (hw : Region.wanted oi (yielded ops a.tmps) = false)
    (h : wpAnyG P md ops Q R fuel (listed.setIfInBounds i true) (a.put oi.dst undef) S) : wpAnyG P md ops Q R (fuel + 1) listed a S :=
  wpAnyG_first hi (Region.noSelect_spec hs) fuel listed a S (Region.free_spec hi hf) (by simpa using hr) (Or.inr ⟨hw, rfl⟩) hg h
/-- a call is taken first -/
theorem wpAnyG_call {i : Nat} {oi : Oper} (f : FuncId) (args : Array Value) (v : Value) {fuel : Nat} {listed : Array Bool} {a : Act} {S : World → Prop} (hi : ops[i]? = some oi)
    (hs : Region.noSelect ops = true) (hf : Region.free md ops listed i = true) (hr : (Region.ready md ops listed).contains i = true) (hg : Good R S)
    (hw : Region.wanted oi (yielded ops a.tmps) = true) (he : ∀ w, (execOp a.eval oi).run P w = .ok (.enter f args) w)
    (C : ∀ w, Calls P f args w fun e w' => e = .returned v ∧ Below w.heap.size w w')
    (h : wpAnyG P md ops Q R fuel (listed.setIfInBounds i true) (a.put oi.dst v) S) : wpAnyG P md ops Q R (fuel + 1) listed a S :=
  wpAnyG_first hi (Region.noSelect_spec hs) fuel listed a S (Region.free_spec hi hf) (by simpa using hr)
    (Or.inl ⟨hw, fun w hR => by unfold opV; rw [he w]; exact Calls.mono (C w) fun e w' ⟨h1, h2⟩ => ⟨v, h1, rfl, h2⟩⟩) hg h
/-- the one that may come up: whatever it leaves -/
theorem wpAnyG_one {i : Nat} {oi : Oper} {I : Type} (v : I → Value) (S' : I → World → Prop) {fuel : Nat} {listed : Array Bool} {a : Act} {S : World → Prop} (hi : ops[i]? = some oi)
    (hr : Region.ready md ops listed = [i]) (hg : ∀ x, Good R (S' x)) (hw : Region.wanted oi (yielded ops a.tmps) = true)
    (hy : ∀ w, S w → opV P oi a w fun u w' => ∃ x, u = v x ∧ S' x w')
    (h : ∀ x, wpAnyG P md ops Q R fuel (listed.setIfInBounds i true) (a.put oi.dst (v x)) (S' x)) : wpAnyG P md ops Q R (fuel + 1) listed a S := by
  refine ⟨fun h0 => (by rw [hr] at h0; cases h0), fun j hj => ?_⟩
  rw [hr] at hj
  obtain rfl : j = i := by simpa using hj
  exact ⟨oi, I, v, S', hi, hg, Or.inl ⟨hw, fun w hS => opV_mono (hy w hS) fun u w' ⟨x, hu, hs⟩ => ⟨x, by rw [hu], hs⟩⟩, h⟩
/-- a store -/
theorem wpAnyG_store {i : Nat} {oi : Oper} (S' : World → Prop) {fuel : Nat} {listed : Array Bool} {a : Act} {S : World → Prop} (hi : ops[i]? = some oi)
    (hr : Region.ready md ops listed = [i]) (hg : Good R S') (hw : Region.wanted oi (yielded ops a.tmps) = true)
    (hy : ∀ w, S w → ∃ w', (execOp a.eval oi).run P w = .ok .skip w' ∧ S' w')
    (h : wpAnyG P md ops Q R fuel (listed.setIfInBounds i true) (a.put oi.dst undef) S') : wpAnyG P md ops Q R (fuel + 1) listed a S :=
  wpAnyG_one (I := Unit) (fun _ => undef) (fun _ => S') hi hr (fun _ => hg) hw (fun w hS => by
    obtain ⟨w', e, hs⟩ := hy w hS
    unfold opV; rw [e]; exact ⟨(), rfl, hs⟩) (fun _ => h)
/-- one that makes a block: its value hangs on the block's number -/
theorem wpAnyG_new {i : Nat} {oi : Oper} (v : Nat → Value) (S' : Nat → World → Prop) {fuel : Nat} {listed : Array Bool} {a : Act} {S : World → Prop} (hi : ops[i]? = some oi)
    (hr : Region.ready md ops listed = [i]) (hg : ∀ b, Good R (S' b)) (hw : Region.wanted oi (yielded ops a.tmps) = true)
    (hy : ∀ w, S w → ∃ w', (execOp a.eval oi).run P w = .ok (.value (v w.heap.size)) w' ∧ S' w.heap.size w')
    (h : ∀ b, wpAnyG P md ops Q R fuel (listed.setIfInBounds i true) (a.put oi.dst (v b)) (S' b)) : wpAnyG P md ops Q R (fuel + 1) listed a S :=
  wpAnyG_one (I := Nat) v S' hi hr hg hw (fun w hS => by
    obtain ⟨w', e, hs⟩ := hy w hS
    unfold opV; rw [e]; exact ⟨w.heap.size, rfl, hs⟩) h
/-- one of those that may come up: whatever it leaves -/
def StepTo (P : Program) (md : Region.Mode) (ops : Array Oper) (Q : Exit → Act → World → Prop) (R : World → Prop) (i : Nat) (fuel : Nat) (listed : Array Bool) (a : Act) (S : World → Prop) : Prop :=
  ∃ (o : Oper) (I : Type) (v : I → Value) (S' : I → World → Prop), ops[i]? = some o ∧ (∀ x, Good R (S' x)) ∧ Step P ops o a S v S' ∧
    ∀ x, wpAnyG P md ops Q R fuel (listed.setIfInBounds i true) (a.put o.dst (v x)) (S' x)
theorem wpAnyG_two {i j : Nat} {fuel : Nat} {listed : Array Bool} {a : Act} {S : World → Prop} (hr : Region.ready md ops listed = [i, j])
    (hi : StepTo P md ops Q R i fuel listed a S) (hj : StepTo P md ops Q R j fuel listed a S) : wpAnyG P md ops Q R (fuel + 1) listed a S := by
  refine ⟨fun h0 => (by rw [hr] at h0; cases h0), fun k hk => ?_⟩
  rw [hr] at hk
  have : k = i ∨ k = j := by simpa using hk
  rcases this with rfl | rfl
  · exact hi
  · exact hj
theorem stepTo_new {i : Nat} {oi : Oper} (v : Nat → Value) (S' : Nat → World → Prop) {fuel : Nat} {listed : Array Bool} {a : Act} {S : World → Prop} (hi : ops[i]? = some oi)
    (hg : ∀ b, Good R (S' b)) (hw : Region.wanted oi (yielded ops a.tmps) = true)
    (hy : ∀ w, S w → ∃ w', (execOp a.eval oi).run P w = .ok (.value (v w.heap.size)) w' ∧ S' w.heap.size w')
    (h : ∀ b, wpAnyG P md ops Q R fuel (listed.setIfInBounds i true) (a.put oi.dst (v b)) (S' b)) : StepTo P md ops Q R i fuel listed a S :=
  ⟨oi, Nat, v, S', hi, hg, Or.inl ⟨hw, fun w hS => by
    obtain ⟨w', e, hs⟩ := hy w hS
    unfold opV; rw [e]; exact ⟨w.heap.size, rfl, hs⟩⟩, h⟩
theorem stepTo_call {i : Nat} {oi : Oper} (f : FuncId) (args : Array Value) (v : Value) {fuel : Nat} {listed : Array Bool} {a : Act} {S : World → Prop} (hi : ops[i]? = some oi)
    (hg : Good R S) (hw : Region.wanted oi (yielded ops a.tmps) = true) (he : ∀ w, (execOp a.eval oi).run P w = .ok (.enter f args) w)
    (C : ∀ w, S w → Calls P f args w fun e w' => e = .returned v ∧ Below w.heap.size w w')
    (h : wpAnyG P md ops Q R fuel (listed.setIfInBounds i true) (a.put oi.dst v) S) : StepTo P md ops Q R i fuel listed a S :=
  ⟨oi, Unit, fun _ => v, fun _ => S, hi, fun _ => hg, Or.inl ⟨hw, fun w hS => by
    unfold opV; rw [he w]; exact Calls.mono (C w hS) fun e w' ⟨h1, h2⟩ => ⟨v, h1, (), rfl, hg.1 w w' hS h2⟩⟩, fun _ => h⟩
theorem wpAnyG_step {i : Nat} {fuel : Nat} {listed : Array Bool} {a : Act} {S : World → Prop} (hr : Region.ready md ops listed = [i])
    (hi : StepTo P md ops Q R i fuel listed a S) : wpAnyG P md ops Q R (fuel + 1) listed a S := by
  refine ⟨fun h0 => (by rw [hr] at h0; cases h0), fun k hk => ?_⟩
  rw [hr] at hk
  obtain rfl : k = i := by simpa using hk
  exact hi
/-- all have come up -/
theorem wpAnyG_done {listed : Array Bool} {a : Act} {S : World → Prop} (hr : Region.ready md ops listed = []) (h : ∀ w, S w → Q .normal a w) : ∀ fuel, wpAnyG P md ops Q R fuel listed a S
  | 0 => ⟨hr, h⟩
  | _ + 1 => ⟨fun _ => h, by rw [hr]; simp⟩
end
end Go.Proofs.YtjcgojbfjefbcaaDoor
