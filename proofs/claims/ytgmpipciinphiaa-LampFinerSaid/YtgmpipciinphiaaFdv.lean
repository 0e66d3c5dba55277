/- The list of the fields of a lamp. -/
import Derived.Test.YtgmpipciinphiaaBase
import Derived.Deep.Cut
import Derived.Laws.Tables
import Derived.Laws.Rows
import Derived.Great.BuildSlice
namespace Go.Proofs.Ytgmpipciinphiaa
set_option linter.unusedSimpArgs false
set_option linter.unusedVariables false
open Go.RowKit

/-- the nine fields: word, least, most, where -/
def fldW : Nat → Array UInt8
  | 0 => #[108, 117, 109, 101, 110, 115]
  | 1 => #[112, 111, 119, 101, 114]
  | 2 => #[115, 116, 97, 110, 100, 105, 110, 103]
  | 3 => #[116, 111, 108, 101, 114, 97, 110, 99, 101]
  | 4 => #[97, 103, 101, 105, 110, 103]
  | 5 => #[100, 105, 114, 116]
  | 6 => #[108, 105, 102, 101]
  | 7 => #[100, 105, 109]
  | _ => #[114, 101, 115, 116, 114, 105, 107, 101]
def fldA : Nat → Int
  | 0 => 1 | 1 => 1 | 6 => 1 | _ => 0
def fldM : Nat → Int
  | 0 => 1000000 | 1 => 5000000 | 2 => 5000000 | 3 => 1000 | 4 => 1000 | 5 => 1000 | 6 => 200000 | 7 => 1000 | _ => 3600
def fldF : Nat → FuncId
  | 0 => 109 | 1 => 110 | 2 => 111 | 3 => 112 | 4 => 113 | 5 => 114 | 6 => 115 | 7 => 116 | _ => 117
def fld (k : Nat) : Array Value := #[.string ⟨fldW k⟩, .int .i64 (fldA k), .int .i64 (fldM k), .func (.func (fldF k)) #[] #[]]
def fieldsA : Array Value := fld 0 ++ fld 1 ++ fld 2 ++ fld 3 ++ fld 4 ++ fld 5 ++ fld 6 ++ fld 7 ++ fld 8
def fieldsV : Value := .agg fieldsA


theorem Own.setRow {B : Nat} {a w : World} (h : Own B a w) {g : Nat} (hg : B ≤ g) (cs : Array Value) : Own B a (w.setRow g cs) :=
  ⟨⟨h.below.os, h.below.tape, h.below.output, by simpa using h.below.size, fun i hi => (setRow_other w g i cs (by omega)).trans (h.below.block i hi)⟩, h.drawn⟩

attribute [local irreducible] wpList Code.wp fieldsA fld

set_option maxRecDepth 100000 in
set_option maxHeartbeats 1000000 in
theorem fields_any (w : World) : Calls Try.prog 102 #[] w fun e w' => e = .returned fieldsV ∧ Own w.heap.size w w' := by
  go_enter Try.func102, Try.ntmps102
  go_upto_region 1 with (fail)
  apply wp_region_lit
  refine wpList_buildTo rfl 140 _ rfl (some 1) rfl (fld 0) (by as_aux_lemma => kernel_rfl) ?_
  refine wpList_buildTo rfl 140 _ rfl (some 2) rfl (fld 1) (by as_aux_lemma => kernel_rfl) ?_
  refine wpList_buildTo rfl 140 _ rfl (some 3) rfl (fld 2) (by as_aux_lemma => kernel_rfl) ?_
  refine wpList_buildTo rfl 140 _ rfl (some 4) rfl (fld 3) (by as_aux_lemma => kernel_rfl) ?_
  refine wpList_buildTo rfl 140 _ rfl (some 5) rfl (fld 4) (by as_aux_lemma => kernel_rfl) ?_
  refine wpList_buildTo rfl 140 _ rfl (some 6) rfl (fld 5) (by as_aux_lemma => kernel_rfl) ?_
  refine wpList_buildTo rfl 140 _ rfl (some 7) rfl (fld 6) (by as_aux_lemma => kernel_rfl) ?_
  refine wpList_buildTo rfl 140 _ rfl (some 8) rfl (fld 7) (by as_aux_lemma => kernel_rfl) ?_
  refine wpList_buildTo rfl 140 _ rfl (some 9) rfl (fld 8) (by as_aux_lemma => kernel_rfl) ?_
  refine wpList_buildTo rfl 141 _ rfl (some 10) rfl fieldsA (by as_aux_lemma => kernel_rfl) ?_
  refine wpList_store_row rfl 141 (.tmp 0) (.tmp 10) rfl w.heap.size fieldsA (by as_aux_lemma => kernel_rfl) (by as_aux_lemma => kernel_rfl) 141 _ (heap_alloc_new _ _) (by as_aux_lemma => kernel_rfl) (by as_aux_lemma => kernel_rfl) (by as_aux_lemma => kernel_rfl) ?_
  apply wpList_nil
  rename_i hK
  refine hK _ _ ?_
  refine wp_ret ?_
  refine bodyPost_ret (v := fieldsV) (results_cell_row rfl _ _ w.heap.size 141 fieldsA (0, 0) _ (by as_aux_lemma => kernel_rfl) (setRow_heap _ _ _ _ _ _ (heap_alloc_new _ _)) Try.underlying141 rfl (by as_aux_lemma => kernel_rfl)) rfl ⟨rfl, ?_⟩
  exact Own.setRow ((Own.refl _ _).alloc (Nat.le_refl _) _) (Nat.le_refl _) _
end Go.Proofs.Ytgmpipciinphiaa
