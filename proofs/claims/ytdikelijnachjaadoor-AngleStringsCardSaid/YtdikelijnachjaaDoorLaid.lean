/- What a row's list of variables gives. -/
import Derived.Test.YtdikelijnachjaaDoorWwrt
import Derived.Test.YtdikelijnachjaaDoorRows
import Derived.LaidSub
import Derived.Deep.Strs
import Derived.OpenShut
namespace Go.Proofs.YtdikelijnachjaaDoor
set_option linter.unusedSimpArgs false
set_option linter.unusedVariables false
open Go.RowKit Go.Lib

theorem own : ownKnob Tryd.prog.godebug = none := by kernel_rfl
theorem cellsInt : Tryd.prog.cellsOf 3 = 1 := by kernel_rfl
theorem cellsU8 : Tryd.prog.cellsOf 5 = 1 := by kernel_rfl
theorem cellsU64 : Tryd.prog.cellsOf 118 = 1 := by kernel_rfl
theorem cells2 : Tryd.prog.cellsOf 39 = 2 := by kernel_rfl
theorem cellsHead : Tryd.prog.cellsOf 81 = 3 := by kernel_rfl
theorem cellsHeads : Tryd.prog.cellsOf 82 = 12 := by kernel_rfl
theorem cells64 : Tryd.prog.cellsOf 152 = 64 := by kernel_rfl
theorem cells20 : Tryd.prog.cellsOf 142 = 20 := by kernel_rfl
theorem gFar : Tryd.prog.globalNamed "linkboy/angle.furthest" = some 0 := by kernel_rfl
theorem gHead : Tryd.prog.globalNamed "linkboy/angle.headings" = some 1 := by kernel_rfl
theorem gBruijn : Tryd.prog.globalNamed "math/bits.deBruijn64tab" = some 8 := by kernel_rfl
theorem tFar : (Tryd.prog.globals[0]?).map (·.type) = some 39 := by kernel_rfl
theorem tHead : (Tryd.prog.globals[1]?).map (·.type) = some 82 := by kernel_rfl
theorem tPow : (Tryd.prog.globals[4]?).map (·.type) = some 142 := by kernel_rfl

/-- one listed variable, out of a list -/
theorem one_of_laid {W : World} {l : List (String × DataW Unit)} (h : laidMetH Tryd.prog l W) (n : String) (d : DataW Unit) (hn : d.handleName? = none) (hf : l.filter (fun x => x.1 == n) = [(n, d)]) :
    ∃ (g : Nat) (t : TypeId) (cs : Array Value) (fuel : Nat) (p : List MemPlace) (enc : TypeId × Value → Unit), Tryd.prog.globalNamed n = some g ∧ (Tryd.prog.globals[g]?).map (·.type) = some t ∧ W.var? Tryd.prog n = some cs ∧ DataW.trod enc Tryd.prog W 0 (fun _ => true) false fuel t cs.toList = some (d, p) := by
  have h1 := h.filter (fun x => x.1 == n)
  rw [hf] at h1
  obtain ⟨h2, _⟩ := laidMetH_iff.1 h1
  have e : ([(n, d)] : List (String × DataW Unit)).filter (fun x => x.2.handleName?.isNone) = [(n, d)] := by
    simp [List.filter, hn]
  rw [e] at h2
  obtain ⟨ps, ⟨g', t', cs, fuel, p, q, hg', ht', hvar, hd, _, _⟩, _⟩ := h2
  exact ⟨g', t', cs, fuel, p, fun _ => (), hg', ht', hvar, hd⟩

abbrev theList : List (String × DataW Unit) := Rows.angleSinesRow.laid

theorem pow_of {W : World} (h : laidMetH Tryd.prog theList W) : TabIs Tryd.prog W "internal/strconv.uint64pow10" .u64 pow10Tab := by
  obtain ⟨g, t, cs, fuel, p, enc, hg, ht, hv, hd⟩ := one_of_laid h "internal/strconv.uint64pow10" Rows.laid_internal_strconv_uint64pow10 (by rfl) (by rfl)
  obtain rfl := Option.some.inj (gPow.symm.trans hg)
  obtain rfl := Option.some.inj (tPow.symm.trans ht)
  have e : (Rows.laid_internal_strconv_uint64pow10 : DataW Unit) = tabData .u64 pow10Tab := by rfl
  rw [e] at hd
  unfold TabIs
  rw [hv, ← cells_of_tab Tryd.underlying142 Tryd.underlying118 cellsU64 cells20 hd]

theorem far_of {W : World} (h : laidMetH Tryd.prog theList W) : TabIs Tryd.prog W "linkboy/angle.furthest" .i64 [90000000, 180000000] := by
  obtain ⟨g, t, cs, fuel, p, enc, hg, ht, hv, hd⟩ := one_of_laid h "linkboy/angle.furthest" Rows.laid_linkboy_angle_furthest (by rfl) (by rfl)
  obtain rfl := Option.some.inj (gFar.symm.trans hg)
  obtain rfl := Option.some.inj (tFar.symm.trans ht)
  have e : (Rows.laid_linkboy_angle_furthest : DataW Unit) = tabData .i64 [90000000, 180000000] := by rfl
  rw [e] at hd
  unfold TabIs
  rw [hv, ← cells_of_tab Tryd.underlying39 Tryd.underlying3 cellsInt cells2 hd]

theorem size_of {W : World} (h : laidMetH Tryd.prog theList W) : 9 ≤ W.heap.size := by
  obtain ⟨g, t, cs, fuel, p, enc, hg, ht, hv, hd⟩ := one_of_laid h "math/bits.deBruijn64tab" Rows.laid_math_bits_deBruijn64tab (by rfl) (by rfl)
  obtain rfl := Option.some.inj (gBruijn.symm.trans hg)
  unfold World.var? at hv
  rw [gBruijn] at hv
  simp only [Option.bind_some] at hv
  cases hx : W.heap[8]? with
  | none => rw [hx] at hv; simp at hv
  | some o =>
    obtain ⟨hlt, _⟩ := Array.getElem?_eq_some_iff.1 hx
    omega

theorem list3 {α : Type} {l : List α} (h : l.length = 3) : ∃ a b c, l = [a, b, c] := by
  match l, h with
  | [a, b, c], _ => exact ⟨a, b, c, rfl⟩
theorem list4 {α : Type} {l : List α} (h : l.length = 4) : ∃ a b c d, l = [a, b, c, d] := by
  match l, h with
  | [a, b, c, d], _ => exact ⟨a, b, c, d, rfl⟩

theorem list12 {α : Type} {l : List α} (h : l.length = 12) : ∃ a b c d e f g h i j k m, l = [a, b, c, d, e, f, g, h, i, j, k, m] := by
  match l, h with
  | [a, b, c, d, e, f, g, h, i, j, k, m], _ => exact ⟨a, b, c, d, e, f, g, h, i, j, k, m, rfl⟩

/-- a letter's row, as cells -/
theorem head_row {W : World} {enc : TypeId × Value → Unit} {fuel : Nat} {cs : List Value} {q : DataW Unit × List MemPlace} {n a s : Int}
    (h : DataW.trod enc Tryd.prog W 0 (fun _ => true) false fuel 81 cs = some q) (hq : q.1 = .agg [.lit (.int .u8 n), .lit (.int .i64 a), .lit (.int .i64 s)]) :
    cs = [.int .u8 n, .int .i64 a, .int .i64 s] := by
  obtain ⟨y0, y1, y2, m, hx, hl, t0, t1, t2⟩ := Go.Deep.trod_struct3 Tryd.underlying81 h
  rw [cellsHead] at hl
  obtain ⟨c0, c1, c2, rfl⟩ := list3 hl
  obtain ⟨n0, e0, r0, _⟩ := DataW.trod_int Tryd.underlying5 t0
  obtain ⟨n1, e1, r1, _⟩ := DataW.trod_int Tryd.underlying3 t1
  obtain ⟨n2, e2, r2, _⟩ := DataW.trod_int Tryd.underlying3 t2
  subst hx
  rw [r0, r1, r2] at hq
  simp only [DataW.agg.injEq, List.cons.injEq, DataW.lit.injEq, Lit.int.injEq, true_and, and_true] at hq
  obtain ⟨rfl, rfl, rfl⟩ := hq
  simp only [cellsU8, cellsInt, List.drop, List.take] at e0 e1 e2
  simp at e0 e1 e2
  rw [e0, e1, e2]

theorem heads_of {W : World} (h : laidMetH Tryd.prog theList W) : W.var? Tryd.prog "linkboy/angle.headings" = some #[.int .u8 78, .int .i64 0, .int .i64 1, .int .u8 83, .int .i64 0, .int .i64 (-1), .int .u8 69, .int .i64 1, .int .i64 1, .int .u8 87, .int .i64 1, .int .i64 (-1)] := by
  obtain ⟨g, t, cs, fuel, p, enc, hg, ht, hv, hd⟩ := one_of_laid h "linkboy/angle.headings" Rows.laid_linkboy_angle_headings (by rfl) (by rfl)
  obtain rfl := Option.some.inj (gHead.symm.trans hg)
  obtain rfl := Option.some.inj (tHead.symm.trans ht)
  rw [hv]
  congr 1
  obtain ⟨l⟩ := cs
  cases fuel with
  | zero => simp [DataW.trod] at hd
  | succ fuel =>
    simp only [DataW.trod, Tryd.underlying82, cellsHeads, cellsHead] at hd
    split at hd
    · rename_i hl
      obtain ⟨xs, hm, hx⟩ := Option.map_eq_some_iff.1 hd
      have hxl : xs.length = 4 := by simpa using mapM_length hm
      obtain ⟨q0, q1, q2, q3, rfl⟩ := list4 hxl
      have hx1 := congrArg Prod.fst hx
      simp only [Rows.laid_linkboy_angle_headings, List.map_cons, List.map_nil, DataW.agg.injEq, List.cons.injEq, and_true] at hx1
      obtain ⟨d0, d1, d2, d3⟩ := hx1
      have at' : ∀ i (hi : i < 4), ∃ b, ([q0, q1, q2, q3] : List _)[i]? = some b ∧ _ := fun i hi => mapM_at hm i i (by simp [hi])
      obtain ⟨b0, hb0, f0⟩ := at' 0 (by decide)
      obtain ⟨b1, hb1, f1⟩ := at' 1 (by decide)
      obtain ⟨b2, hb2, f2⟩ := at' 2 (by decide)
      obtain ⟨b3, hb3, f3⟩ := at' 3 (by decide)
      simp at hb0 hb1 hb2 hb3
      subst hb0 hb1 hb2 hb3
      have r0 := head_row f0 d0
      have r1 := head_row f1 d1
      have r2 := head_row f2 d2
      have r3 := head_row f3 d3
      have hl' : l.length = 12 := by simpa using hl
      clear at' hm hx hd f0 f1 f2 f3 hv
      obtain ⟨c0, c1, c2, c3, c4, c5, c6, c7, c8, c9, c10, c11, rfl⟩ := list12 hl'
      simp at r0 r1 r2 r3
      obtain ⟨rfl, rfl, rfl⟩ := r0
      obtain ⟨rfl, rfl, rfl⟩ := r1
      obtain ⟨rfl, rfl, rfl⟩ := r2
      obtain ⟨rfl, rfl, rfl⟩ := r3
      rfl
    · cases hd

/-- all of them -/
theorem tabs_of {W : World} (h : laidMetH Tryd.prog theList W) (hsh : W.ShapedOpen Tryd.prog) : Tabs W := by
  have hp := pow_of h
  have hf := far_of h
  have hh := heads_of h
  have c : ∀ i v, (#[Value.int .u8 78, .int .i64 0, .int .i64 1, .int .u8 83, .int .i64 0, .int .i64 (-1), .int .u8 69, .int .i64 1, .int .i64 1, .int .u8 87, .int .i64 1, .int .i64 (-1)] : Array Value)[i]? = some v → W.cell? ⟨1, i, none⟩ = some v := fun i v hv => by
    rw [World.var?_cell gHead hh i]; exact hv
  exact ⟨hf.cell gFar 0 (by decide), hf.cell gFar 1 (by decide), c 0 _ rfl, c 1 _ rfl, c 2 _ rfl, c 3 _ rfl, c 4 _ rfl, c 5 _ rfl, c 6 _ rfl, c 7 _ rfl, c 8 _ rfl, c 9 _ rfl, c 10 _ rfl, c 11 _ rfl,
    hp, Tryd.laysM145.s1_3 W hsh, size_of h⟩
end Go.Proofs.YtdikelijnachjaaDoor
