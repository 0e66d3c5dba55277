/- Arguments that are structs of numbers, or small arrays: what they are. -/
import Derived.Test.YtgmpipciinphiaaOpc
namespace Go.Proofs.Ytgmpipciinphiaa
set_option linter.unusedSimpArgs false
set_option linter.unusedVariables false
open Go.RowKit Go.ChangeShapes Go.WideShapes Go.Deep Go.Joins
set_option maxRecDepth 100000

theorem c4rect : Try.prog.cellsOf 40 = 4 := by kernel_rfl
theorem c3use : Try.prog.cellsOf 48 = 3 := by kernel_rfl
theorem c4place : Try.prog.cellsOf 33 = 4 := by kernel_rfl
theorem c5field : Try.prog.cellsOf 42 = 5 := by kernel_rfl
theorem c9beam : Try.prog.cellsOf 54 = 9 := by kernel_rfl
theorem c8lit : Try.prog.cellsOf 66 = 8 := by kernel_rfl
theorem c1u8 : Try.prog.cellsOf 5 = 1 := by kernel_rfl
theorem c1u16 : Try.prog.cellsOf 77 = 1 := by kernel_rfl
theorem c2arr8 : Try.prog.cellsOf 57 = 2 := by kernel_rfl
theorem c3arr16 : Try.prog.cellsOf 78 = 3 := by kernel_rfl

section
variable {H : Type} {enc : TypeId × Value → H} {W : World} {base : Nat} {held : Bool}

theorem agg_arg {t : TypeId} {n : Nat} (ht : (∃ fs, Try.prog.underlying t = some (.struct fs)) ∨ (∃ k e, Try.prog.underlying t = some (.array k e))) (hn : Try.prog.cellsOf t = n) {r : Reach} {b0 : Nat} {v : Value} {d : DataW H} {p : List MemPlace}
    (hval : Value.okWide Try.prog W r b0 t v) (h : DataW.Trod enc Try.prog W base (fun _ => true) held t v d p) :
    ∃ cs : List Value, v = .agg cs.toArray ∧ cs.length = n ∧ ∃ fuel x, DataW.trod enc Try.prog W base (fun _ => true) held fuel t cs = some x := by
  rcases ht with ⟨fs, ht⟩ | ⟨k, e, ht⟩ <;>
  · simp only [Value.okWide, ht] at hval
    obtain ⟨cs, rfl, hsz, _⟩ := hval
    obtain ⟨fuel, hf⟩ := h
    exact ⟨cs.toList, by simp, by simp [hsz, hn], fuel, _, hf⟩
theorem rect_open {fuel : Nat} {cs : List Value} {x : DataW H × List MemPlace} (hl : cs.length = 4) (h : DataW.trod enc Try.prog W base (fun _ => true) held fuel 40 cs = some x) : ∃ i0 i1 i2 i3 : Int, cs = [.int .i64 i0, .int .i64 i1, .int .i64 i2, .int .i64 i3] := by
  match cs, hl with
  | [v0, v1, v2, v3], _ =>
    obtain ⟨_, n, hf⟩ := trod_fields Try.underlying40 h
    obtain ⟨y0, h0⟩ := hf 0 _ rfl
    obtain ⟨y1, h1⟩ := hf 1 _ rfl
    obtain ⟨y2, h2⟩ := hf 2 _ rfl
    obtain ⟨y3, h3⟩ := hf 3 _ rfl
    simp only [c1int, List.drop, List.take] at h0 h1 h2 h3
    obtain ⟨i0, e0, _, _⟩ := DataW.trod_int Try.underlying3 h0
    simp at e0
    subst e0
    obtain ⟨i1, e1, _, _⟩ := DataW.trod_int Try.underlying3 h1
    simp at e1
    subst e1
    obtain ⟨i2, e2, _, _⟩ := DataW.trod_int Try.underlying3 h2
    simp at e2
    subst e2
    obtain ⟨i3, e3, _, _⟩ := DataW.trod_int Try.underlying3 h3
    simp at e3
    subst e3
    exact ⟨i0, i1, i2, i3, rfl⟩
theorem rect_arg {r : Reach} {b0 : Nat} {v : Value} {d : DataW H} {p : List MemPlace} (hval : Value.okWide Try.prog W r b0 40 v) (h : DataW.Trod enc Try.prog W base (fun _ => true) held 40 v d p) : ∃ i0 i1 i2 i3 : Int, v = .agg #[.int .i64 i0, .int .i64 i1, .int .i64 i2, .int .i64 i3] := by
  obtain ⟨cs, rfl, hl, fuel, x, hx⟩ := agg_arg (.inl ⟨_, Try.underlying40⟩) c4rect hval h
  obtain ⟨i0, i1, i2, i3, rfl⟩ := rect_open hl hx
  exact ⟨i0, i1, i2, i3, rfl⟩
theorem use_open {fuel : Nat} {cs : List Value} {x : DataW H × List MemPlace} (hl : cs.length = 3) (h : DataW.trod enc Try.prog W base (fun _ => true) held fuel 48 cs = some x) : ∃ i0 i1 i2 : Int, cs = [.int .i64 i0, .int .i64 i1, .int .i64 i2] := by
  match cs, hl with
  | [v0, v1, v2], _ =>
    obtain ⟨_, n, hf⟩ := trod_fields Try.underlying48 h
    obtain ⟨y0, h0⟩ := hf 0 _ rfl
    obtain ⟨y1, h1⟩ := hf 1 _ rfl
    obtain ⟨y2, h2⟩ := hf 2 _ rfl
    simp only [c1int, List.drop, List.take] at h0 h1 h2
    obtain ⟨i0, e0, _, _⟩ := DataW.trod_int Try.underlying3 h0
    simp at e0
    subst e0
    obtain ⟨i1, e1, _, _⟩ := DataW.trod_int Try.underlying3 h1
    simp at e1
    subst e1
    obtain ⟨i2, e2, _, _⟩ := DataW.trod_int Try.underlying3 h2
    simp at e2
    subst e2
    exact ⟨i0, i1, i2, rfl⟩
theorem use_arg {r : Reach} {b0 : Nat} {v : Value} {d : DataW H} {p : List MemPlace} (hval : Value.okWide Try.prog W r b0 48 v) (h : DataW.Trod enc Try.prog W base (fun _ => true) held 48 v d p) : ∃ i0 i1 i2 : Int, v = .agg #[.int .i64 i0, .int .i64 i1, .int .i64 i2] := by
  obtain ⟨cs, rfl, hl, fuel, x, hx⟩ := agg_arg (.inl ⟨_, Try.underlying48⟩) c3use hval h
  obtain ⟨i0, i1, i2, rfl⟩ := use_open hl hx
  exact ⟨i0, i1, i2, rfl⟩
theorem place_open {fuel : Nat} {cs : List Value} {x : DataW H × List MemPlace} (hl : cs.length = 4) (h : DataW.trod enc Try.prog W base (fun _ => true) held fuel 33 cs = some x) : ∃ i0 i1 i2 i3 : Int, cs = [.int .i64 i0, .int .i64 i1, .int .i64 i2, .int .i64 i3] := by
  match cs, hl with
  | [v0, v1, v2, v3], _ =>
    obtain ⟨_, n, hf⟩ := trod_fields Try.underlying33 h
    obtain ⟨y0, h0⟩ := hf 0 _ rfl
    obtain ⟨y1, h1⟩ := hf 1 _ rfl
    obtain ⟨y2, h2⟩ := hf 2 _ rfl
    obtain ⟨y3, h3⟩ := hf 3 _ rfl
    simp only [c1int, List.drop, List.take] at h0 h1 h2 h3
    obtain ⟨i0, e0, _, _⟩ := DataW.trod_int Try.underlying3 h0
    simp at e0
    subst e0
    obtain ⟨i1, e1, _, _⟩ := DataW.trod_int Try.underlying3 h1
    simp at e1
    subst e1
    obtain ⟨i2, e2, _, _⟩ := DataW.trod_int Try.underlying3 h2
    simp at e2
    subst e2
    obtain ⟨i3, e3, _, _⟩ := DataW.trod_int Try.underlying3 h3
    simp at e3
    subst e3
    exact ⟨i0, i1, i2, i3, rfl⟩
theorem place_arg {r : Reach} {b0 : Nat} {v : Value} {d : DataW H} {p : List MemPlace} (hval : Value.okWide Try.prog W r b0 33 v) (h : DataW.Trod enc Try.prog W base (fun _ => true) held 33 v d p) : ∃ i0 i1 i2 i3 : Int, v = .agg #[.int .i64 i0, .int .i64 i1, .int .i64 i2, .int .i64 i3] := by
  obtain ⟨cs, rfl, hl, fuel, x, hx⟩ := agg_arg (.inl ⟨_, Try.underlying33⟩) c4place hval h
  obtain ⟨i0, i1, i2, i3, rfl⟩ := place_open hl hx
  exact ⟨i0, i1, i2, i3, rfl⟩
theorem field_open {fuel : Nat} {cs : List Value} {x : DataW H × List MemPlace} (hl : cs.length = 5) (h : DataW.trod enc Try.prog W base (fun _ => true) held fuel 42 cs = some x) : ∃ i0 i1 i2 i3 i4 : Int, cs = [.int .i64 i0, .int .i64 i1, .int .i64 i2, .int .i64 i3, .int .i64 i4] := by
  match cs, hl with
  | [v0, v1, v2, v3, v4], _ =>
    obtain ⟨_, n, hf⟩ := trod_fields Try.underlying42 h
    obtain ⟨y0, h0⟩ := hf 0 _ rfl
    obtain ⟨y1, h1⟩ := hf 1 _ rfl
    simp only [c4rect, c1int, List.drop, List.take] at h0 h1
    obtain ⟨i0, i1, i2, i3, e0⟩ := rect_open rfl h0
    simp at e0
    obtain ⟨rfl, rfl, rfl, rfl⟩ := e0
    obtain ⟨i4, e1, _, _⟩ := DataW.trod_int Try.underlying3 h1
    simp at e1
    subst e1
    exact ⟨i0, i1, i2, i3, i4, rfl⟩
theorem field_arg {r : Reach} {b0 : Nat} {v : Value} {d : DataW H} {p : List MemPlace} (hval : Value.okWide Try.prog W r b0 42 v) (h : DataW.Trod enc Try.prog W base (fun _ => true) held 42 v d p) : ∃ i0 i1 i2 i3 i4 : Int, v = .agg #[.int .i64 i0, .int .i64 i1, .int .i64 i2, .int .i64 i3, .int .i64 i4] := by
  obtain ⟨cs, rfl, hl, fuel, x, hx⟩ := agg_arg (.inl ⟨_, Try.underlying42⟩) c5field hval h
  obtain ⟨i0, i1, i2, i3, i4, rfl⟩ := field_open hl hx
  exact ⟨i0, i1, i2, i3, i4, rfl⟩
theorem beam_open {fuel : Nat} {cs : List Value} {x : DataW H × List MemPlace} (hl : cs.length = 9) (h : DataW.trod enc Try.prog W base (fun _ => true) held fuel 54 cs = some x) : ∃ i0 i1 i2 i3 i4 i5 i6 i7 i8 : Int, cs = [.int .i64 i0, .int .i64 i1, .int .i64 i2, .int .i64 i3, .int .i64 i4, .int .i64 i5, .int .i64 i6, .int .i64 i7, .int .i64 i8] := by
  match cs, hl with
  | [v0, v1, v2, v3, v4, v5, v6, v7, v8], _ =>
    obtain ⟨_, n, hf⟩ := trod_fields Try.underlying54 h
    obtain ⟨y0, h0⟩ := hf 0 _ rfl
    obtain ⟨y1, h1⟩ := hf 1 _ rfl
    obtain ⟨y2, h2⟩ := hf 2 _ rfl
    simp only [c1int, c3use, c5field, List.drop, List.take] at h0 h1 h2
    obtain ⟨i0, e0, _, _⟩ := DataW.trod_int Try.underlying3 h0
    simp at e0
    subst e0
    obtain ⟨i1, i2, i3, e1⟩ := use_open rfl h1
    simp at e1
    obtain ⟨rfl, rfl, rfl⟩ := e1
    obtain ⟨i4, i5, i6, i7, i8, e2⟩ := field_open rfl h2
    simp at e2
    obtain ⟨rfl, rfl, rfl, rfl, rfl⟩ := e2
    exact ⟨i0, i1, i2, i3, i4, i5, i6, i7, i8, rfl⟩
theorem beam_arg {r : Reach} {b0 : Nat} {v : Value} {d : DataW H} {p : List MemPlace} (hval : Value.okWide Try.prog W r b0 54 v) (h : DataW.Trod enc Try.prog W base (fun _ => true) held 54 v d p) : ∃ i0 i1 i2 i3 i4 i5 i6 i7 i8 : Int, v = .agg #[.int .i64 i0, .int .i64 i1, .int .i64 i2, .int .i64 i3, .int .i64 i4, .int .i64 i5, .int .i64 i6, .int .i64 i7, .int .i64 i8] := by
  obtain ⟨cs, rfl, hl, fuel, x, hx⟩ := agg_arg (.inl ⟨_, Try.underlying54⟩) c9beam hval h
  obtain ⟨i0, i1, i2, i3, i4, i5, i6, i7, i8, rfl⟩ := beam_open hl hx
  exact ⟨i0, i1, i2, i3, i4, i5, i6, i7, i8, rfl⟩
theorem lit_open {fuel : Nat} {cs : List Value} {x : DataW H × List MemPlace} (hl : cs.length = 8) (h : DataW.trod enc Try.prog W base (fun _ => true) held fuel 66 cs = some x) : ∃ (c : Cat) (i0 i1 i2 i3 i4 i5 : Int), cs = [c.tv, c.lv, .int .i64 i0, .int .i64 i1, .int .i64 i2, .int .i64 i3, .int .i64 i4, .int .i64 i5] ∧ CatIn W.heap.size c W := by
  match cs, hl with
  | [v0, v1, v2, v3, v4, v5, v6, v7], _ =>
    obtain ⟨_, n, hf⟩ := trod_fields Try.underlying66 h
    obtain ⟨y0, h0⟩ := hf 0 _ rfl
    obtain ⟨y1, h1⟩ := hf 1 _ rfl
    obtain ⟨y2, h2⟩ := hf 2 _ rfl
    simp only [c2cat, c1int, c5field, List.drop, List.take] at h0 h1 h2
    obtain ⟨_, n', hf'⟩ := trod_fields Try.underlying25 h0
    obtain ⟨z0, k0⟩ := hf' 0 _ rfl
    obtain ⟨z1, k1⟩ := hf' 1 _ rfl
    obtain ⟨A, cc, ts, rfl, g0⟩ := tabs_open k0
    obtain ⟨A', cc', ls, rfl, g1⟩ := lamps_open k1
    obtain ⟨i0, e1, _, _⟩ := DataW.trod_int Try.underlying3 h1
    simp at e1
    subst e1
    obtain ⟨i1, i2, i3, i4, i5, e2⟩ := field_open rfl h2
    simp at e2
    obtain ⟨rfl, rfl, rfl, rfl, rfl⟩ := e2
    exact ⟨⟨A, cc, ts, A', cc', ls⟩, i0, i1, i2, i3, i4, i5, rfl, ⟨g0, g1⟩⟩
theorem lit_arg {r : Reach} {b0 : Nat} {v : Value} {d : DataW H} {p : List MemPlace} (hval : Value.okWide Try.prog W r b0 66 v) (h : DataW.Trod enc Try.prog W base (fun _ => true) held 66 v d p) : ∃ (c : Cat) (i0 i1 i2 i3 i4 i5 : Int), v = .agg #[c.tv, c.lv, .int .i64 i0, .int .i64 i1, .int .i64 i2, .int .i64 i3, .int .i64 i4, .int .i64 i5] ∧ CatIn W.heap.size c W := by
  obtain ⟨cs, rfl, hl, fuel, x, hx⟩ := agg_arg (.inl ⟨_, Try.underlying66⟩) c8lit hval h
  obtain ⟨c, i0, i1, i2, i3, i4, i5, rfl, hc⟩ := lit_open hl hx
  exact ⟨c, i0, i1, i2, i3, i4, i5, rfl, hc⟩
theorem arr8_open {fuel : Nat} {cs : List Value} {x : DataW H × List MemPlace} (hl : cs.length = 2) (h : DataW.trod enc Try.prog W base (fun _ => true) held fuel 57 cs = some x) : ∃ i0 i1 : Int, cs = [.int .u8 i0, .int .u8 i1] ∧ 0 ≤ i0 ∧ i0 ≤ 255 ∧ 0 ≤ i1 ∧ i1 ≤ 255 := by
  match cs, hl with
  | [v0, v1], _ =>
    cases fuel with
    | zero => simp [DataW.trod] at h
    | succ n =>
      unfold DataW.trod at h
      rw [Try.underlying57] at h
      have r2 : List.range 2 = [0, 1] := rfl
      simp [r2, c1u8] at h
      obtain ⟨_, h⟩ := h
      cases k0 : DataW.trod enc Try.prog W base (fun _ => true) held n 5 [v0] with
      | none => simp [k0] at h
      | some y0 =>
        cases k1 : DataW.trod enc Try.prog W base (fun _ => true) held n 5 [v1] with
        | none => simp [k0, k1] at h
        | some y1 =>
          obtain ⟨i0, e0, _, wf0⟩ := DataW.trod_int Try.underlying5 k0
          simp at e0
          subst e0
          have b0 := bounds_u8 wf0
          obtain ⟨i1, e1, _, wf1⟩ := DataW.trod_int Try.underlying5 k1
          simp at e1
          subst e1
          have b1 := bounds_u8 wf1
          exact ⟨i0, i1, rfl, b0.1, b0.2, b1.1, b1.2⟩
theorem arr8_arg {r : Reach} {b0 : Nat} {v : Value} {d : DataW H} {p : List MemPlace} (hval : Value.okWide Try.prog W r b0 57 v) (h : DataW.Trod enc Try.prog W base (fun _ => true) held 57 v d p) : ∃ i0 i1 : Int, v = .agg #[.int .u8 i0, .int .u8 i1] ∧ 0 ≤ i0 ∧ i0 ≤ 255 ∧ 0 ≤ i1 ∧ i1 ≤ 255 := by
  obtain ⟨cs, rfl, hl, fuel, x, hx⟩ := agg_arg (.inr ⟨_, _, Try.underlying57⟩) c2arr8 hval h
  obtain ⟨i0, i1, rfl, hb⟩ := arr8_open hl hx
  exact ⟨i0, i1, rfl, hb⟩
theorem arr16_open {fuel : Nat} {cs : List Value} {x : DataW H × List MemPlace} (hl : cs.length = 3) (h : DataW.trod enc Try.prog W base (fun _ => true) held fuel 78 cs = some x) : ∃ i0 i1 i2 : Int, cs = [.int .u16 i0, .int .u16 i1, .int .u16 i2] ∧ 0 ≤ i0 ∧ i0 ≤ 65535 ∧ 0 ≤ i1 ∧ i1 ≤ 65535 ∧ 0 ≤ i2 ∧ i2 ≤ 65535 := by
  match cs, hl with
  | [v0, v1, v2], _ =>
    cases fuel with
    | zero => simp [DataW.trod] at h
    | succ n =>
      unfold DataW.trod at h
      rw [Try.underlying78] at h
      have r2 : List.range 3 = [0, 1, 2] := rfl
      simp [r2, c1u16] at h
      obtain ⟨_, h⟩ := h
      cases k0 : DataW.trod enc Try.prog W base (fun _ => true) held n 77 [v0] with
      | none => simp [k0] at h
      | some y0 =>
        cases k1 : DataW.trod enc Try.prog W base (fun _ => true) held n 77 [v1] with
        | none => simp [k0, k1] at h
        | some y1 =>
          cases k2 : DataW.trod enc Try.prog W base (fun _ => true) held n 77 [v2] with
          | none => simp [k0, k1, k2] at h
          | some y2 =>
            obtain ⟨i0, e0, _, wf0⟩ := DataW.trod_int Try.underlying77 k0
            simp at e0
            subst e0
            have b0 := bounds_u16 wf0
            obtain ⟨i1, e1, _, wf1⟩ := DataW.trod_int Try.underlying77 k1
            simp at e1
            subst e1
            have b1 := bounds_u16 wf1
            obtain ⟨i2, e2, _, wf2⟩ := DataW.trod_int Try.underlying77 k2
            simp at e2
            subst e2
            have b2 := bounds_u16 wf2
            exact ⟨i0, i1, i2, rfl, b0.1, b0.2, b1.1, b1.2, b2.1, b2.2⟩
theorem arr16_arg {r : Reach} {b0 : Nat} {v : Value} {d : DataW H} {p : List MemPlace} (hval : Value.okWide Try.prog W r b0 78 v) (h : DataW.Trod enc Try.prog W base (fun _ => true) held 78 v d p) : ∃ i0 i1 i2 : Int, v = .agg #[.int .u16 i0, .int .u16 i1, .int .u16 i2] ∧ 0 ≤ i0 ∧ i0 ≤ 65535 ∧ 0 ≤ i1 ∧ i1 ≤ 65535 ∧ 0 ≤ i2 ∧ i2 ≤ 65535 := by
  obtain ⟨cs, rfl, hl, fuel, x, hx⟩ := agg_arg (.inr ⟨_, _, Try.underlying78⟩) c3arr16 hval h
  obtain ⟨i0, i1, i2, rfl, hb⟩ := arr16_open hl hx
  exact ⟨i0, i1, i2, rfl, hb⟩
end
end Go.Proofs.Ytgmpipciinphiaa
