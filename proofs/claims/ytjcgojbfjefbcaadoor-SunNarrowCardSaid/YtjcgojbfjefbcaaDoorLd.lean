/- What a row's list of variables gives. -/
import Derived.Test.YtjcgojbfjefbcaaDoorAw
import Derived.Test.YtjcgojbfjefbcaaDoorRows
import Derived.LaidSub
import Derived.Lib.LaidTab
import Derived.ChangeSame
import Derived.Deep.Strs
import Derived.OpenShut
import Derived.Stop.LaidErr
namespace Go.Proofs.YtjcgojbfjefbcaaDoor
set_option linter.unusedSimpArgs false
set_option linter.unusedVariables false
open Go.RowKit Go.Lib

theorem own : ownKnob Tryd.prog.godebug = none := by kernel_rfl
theorem cellsInt : Tryd.prog.cellsOf 3 = 1 := by kernel_rfl
theorem cellsBool : Tryd.prog.cellsOf 4 = 1 := by kernel_rfl
theorem cellsLens : Tryd.prog.cellsOf 154 = 12 := by kernel_rfl
theorem cellsEnc : Tryd.prog.cellsOf 51 = 2 := by kernel_rfl
theorem cellsHalf : Tryd.prog.cellsOf 116 = 3 := by kernel_rfl
theorem cellsErrS : Tryd.prog.cellsOf 209 = 1 := by kernel_rfl
theorem cellsStr : Tryd.prog.cellsOf 9 = 1 := by kernel_rfl
theorem gLens : Tryd.prog.globalNamed "linkboy/sun.lengths" = some 3 := by kernel_rfl
theorem gErr : Tryd.prog.globalNamed "linkboy/sun.errNoDate" = some 0 := by kernel_rfl
theorem gEve : Tryd.prog.globalNamed "linkboy/sun.evening" = some 1 := by kernel_rfl
theorem tLens : (Tryd.prog.globals[3]?).map (·.type) = some 154 := by kernel_rfl
theorem tErr : (Tryd.prog.globals[0]?).map (·.type) = some 90 := by kernel_rfl
theorem tEve : (Tryd.prog.globals[1]?).map (·.type) = some 116 := by kernel_rfl
theorem starErr : "*" ++ "errors.errorString" = "*errors.errorString" := by decide
theorem rowErr (u : TypeId) (h : Tryd.prog.typeName? 3 u = some "*errors.errorString") : u = 184 :=
  typeName_ptr_named (nm := "errors.errorString") (by rw [starErr]; kernel_rfl) (by kernel_rfl) (by decide) u (by rw [starErr]; exact h)

theorem met_of_laid {W : World} {l : List (String × DataW Unit)} (h : laidMetH Tryd.prog l W) (n : String) (d : DataW Unit) (hn : d.handleName? = none) (hf : l.filter (fun x => x.1 == n) = [(n, d)]) : laidMet Tryd.prog [(n, d)] W := by
  have h1 := h.filter (fun x => x.1 == n)
  rw [hf] at h1
  obtain ⟨h2, _⟩ := laidMetH_iff.1 h1
  have e : ([(n, d)] : List (String × DataW Unit)).filter (fun x => x.2.handleName?.isNone) = [(n, d)] := by
    simp [List.filter, hn]
  rw [e] at h2
  exact h2
/-- one listed variable, out of a list -/
theorem one_of_laid {W : World} {l : List (String × DataW Unit)} (h : laidMetH Tryd.prog l W) (n : String) (d : DataW Unit) (hn : d.handleName? = none) (hf : l.filter (fun x => x.1 == n) = [(n, d)]) :
    ∃ (g : Nat) (t : TypeId) (cs : Array Value) (fuel : Nat) (p : List MemPlace) (enc : TypeId × Value → Unit), Tryd.prog.globalNamed n = some g ∧ (Tryd.prog.globals[g]?).map (·.type) = some t ∧ W.var? Tryd.prog n = some cs ∧ DataW.trod enc Tryd.prog W 0 (fun _ => true) false fuel t cs.toList = some (d, p) := by
  obtain ⟨ps, ⟨g', t', cs, fuel, p, q, hg', ht', hvar, hd, _, _⟩, _⟩ := met_of_laid h n d hn hf
  exact ⟨g', t', cs, fuel, p, fun _ => (), hg', ht', hvar, hd⟩

theorem var_lt {W : World} {n : String} {g : Nat} {cs : Array Value} (hg : Tryd.prog.globalNamed n = some g) (hv : W.var? Tryd.prog n = some cs) : g < W.heap.size := by
  unfold World.var? at hv
  rw [hg] at hv
  simp only [Option.bind_some] at hv
  cases hx : W.heap[g]? with
  | none => rw [hx] at hv; simp at hv
  | some o =>
    obtain ⟨hlt, _⟩ := Array.getElem?_eq_some_iff.1 hx
    exact hlt

theorem lens_of {W : World} {l : List (String × DataW Unit)} (h : laidMetH Tryd.prog l W) (hf : l.filter (fun x => x.1 == "linkboy/sun.lengths") = [("linkboy/sun.lengths", Rows.laid_linkboy_sun_lengths)]) :
    ∀ i, i < 12 → Cel 3 i (.int .i64 (lenT i)) W := by
  obtain ⟨g, t, cs, fuel, p, enc, hg, ht, hv, hd⟩ := one_of_laid h "linkboy/sun.lengths" Rows.laid_linkboy_sun_lengths (by rfl) hf
  obtain rfl := Option.some.inj (gLens.symm.trans hg)
  obtain rfl := Option.some.inj (tLens.symm.trans ht)
  have e : (Rows.laid_linkboy_sun_lengths : DataW Unit) = tabData .i64 [31, 28, 31, 30, 31, 30, 31, 31, 30, 31, 30, 31] := by rfl
  rw [e] at hd
  have hv' : TabIs Tryd.prog W "linkboy/sun.lengths" .i64 [31, 28, 31, 30, 31, 30, 31, 31, 30, 31, 30, 31] := by
    unfold TabIs
    rw [hv, ← cells_of_tab Tryd.underlying154 Tryd.underlying3 cellsInt cellsLens hd]
  have hlt := var_lt gLens hv
  intro i hi
  refine ⟨?_, hlt⟩
  have := hv'.cell gLens i (by simpa using hi)
  rw [this]
  unfold lenT
  simp only [List.getD_eq_getElem?_getD]

theorem err_of {W : World} {l : List (String × DataW Unit)} (h : laidMetH Tryd.prog l W) (hf : l.filter (fun x => x.1 == "linkboy/sun.errNoDate") = [("linkboy/sun.errNoDate", Rows.laid_linkboy_sun_errNoDate)]) :
    ∃ ea, Cel 0 0 (errV ea) W := by
  obtain ⟨ea, s, hv, _⟩ := laid_sentinel (met_of_laid h "linkboy/sun.errNoDate" Rows.laid_linkboy_sun_errNoDate (by rfl) hf) gErr tErr Tryd.underlying90 rowErr Tryd.underlying184 Tryd.underlying209 rfl rfl Tryd.underlying9 cellsErrS cellsStr
  exact ⟨ea, World.var?_cell gErr hv 0, var_lt gErr hv⟩

theorem list3 {α : Type} {l : List α} (h : l.length = 3) : ∃ a b c, l = [a, b, c] := by
  match l, h with
  | [a, b, c], _ => exact ⟨a, b, c, rfl⟩
theorem half_cells {W : World} {enc : TypeId × Value → Unit} {fuel : Nat} {cs : List Value} {a b : Int} {m : Bool} {p : List MemPlace}
    (h : DataW.trod enc Tryd.prog W 0 (fun _ => true) false fuel 116 cs = some (.agg [.agg [.lit (.int .i64 a), .lit (.int .i64 b)], .lit (.bool m)], p)) : cs = [.int .i64 a, .int .i64 b, .bool m] := by
  obtain ⟨y0, y1, n, hx, hl, t0, t1⟩ := Go.ChangeShapes.trod_struct2 Tryd.underlying116 h
  obtain ⟨z0, z1, k, hz, hl2, u0, u1⟩ := Go.ChangeShapes.trod_struct2 Tryd.underlying51 t0
  rw [cellsHalf] at hl
  obtain ⟨c0, c1, c2, rfl⟩ := list3 hl
  obtain ⟨n0, e0, r0, _⟩ := DataW.trod_int Tryd.underlying3 u0
  obtain ⟨n1, e1, r1, _⟩ := DataW.trod_int Tryd.underlying3 u1
  obtain ⟨b2, e2, r2⟩ := DataW.trod_bool Tryd.underlying4 t1
  subst hz
  rw [r0, r1, r2] at hx
  simp only [Prod.mk.injEq, DataW.agg.injEq, List.cons.injEq, DataW.lit.injEq, Lit.int.injEq, Lit.bool.injEq, true_and, and_true] at hx
  simp only [cellsInt, cellsBool, cellsEnc, List.drop, List.take] at e0 e1 e2
  simp at e0 e1 e2
  obtain ⟨⟨⟨rfl, rfl⟩, rfl⟩, _⟩ := hx
  rw [e0, e1, e2]
theorem half_of {W : World} {g : Nat} {n : String} {cs : Array Value} {a b : Int} {m : Bool} (hg : Tryd.prog.globalNamed n = some g) (hv : W.var? Tryd.prog n = some cs) (hc : cs.toList = [.int .i64 a, .int .i64 b, .bool m]) : Half g a b m W := by
  obtain ⟨l⟩ := cs
  simp at hc
  subst hc
  have c : ∀ i v, (#[Value.int .i64 a, .int .i64 b, .bool m] : Array Value)[i]? = some v → W.cell? ⟨g, i, none⟩ = some v := fun i v hw => by
    rw [World.var?_cell hg hv i]; exact hw
  exact ⟨c 0 _ rfl, c 1 _ rfl, c 2 _ rfl, var_lt hg hv⟩
theorem eve_of {W : World} {l : List (String × DataW Unit)} (h : laidMetH Tryd.prog l W) (hf : l.filter (fun x => x.1 == "linkboy/sun.evening") = [("linkboy/sun.evening", Rows.laid_linkboy_sun_evening)]) : TabE W := by
  obtain ⟨g, t, cs, fuel, p, enc, hg, ht, hv, hd⟩ := one_of_laid h "linkboy/sun.evening" Rows.laid_linkboy_sun_evening (by rfl) hf
  obtain rfl := Option.some.inj (gEve.symm.trans hg)
  obtain rfl := Option.some.inj (tEve.symm.trans ht)
  exact half_of gEve hv (half_cells hd)

abbrev theList : List (String × DataW Unit) := Rows.sunDatesRow.laid
theorem tabs_of {W : World} (h : laidMetH Tryd.prog theList W) : (∃ ea, TabD ea W) ∧ TabE W := by
  have hl := lens_of h (by rfl)
  obtain ⟨ea, he⟩ := err_of h (by rfl)
  exact ⟨⟨ea, hl, he⟩, eve_of h (by rfl)⟩
end Go.Proofs.YtjcgojbfjefbcaaDoor
