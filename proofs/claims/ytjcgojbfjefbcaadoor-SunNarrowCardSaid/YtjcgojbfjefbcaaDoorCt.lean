/- A city as an argument: opened, and read again. -/
import Derived.Test.YtjcgojbfjefbcaaDoorLe
import Derived.ChangeBook
import Derived.ChangeStays
import Derived.Deep.Slices
namespace Go.Proofs.YtjcgojbfjefbcaaDoor
set_option linter.unusedSimpArgs false
set_option linter.unusedVariables false
open Go.ChangeShapes Go.WideShapes Go.ChangeAt Go.RowKit Go.Deep Go.Joins

theorem sunLaidOut : laidOutB Tryd.prog = true := by kernel_rfl
theorem cellsCity : Tryd.prog.cellsOf 53 = 5 := by kernel_rfl
theorem recCity : Tryd.prog.readableRec 53 = true := by kernel_rfl
theorem inCity : InBook Tryd.prog 53 53 := ⟨of_decide_eq_true (by kernel_rfl), of_decide_eq_true (by kernel_rfl)⟩
section
variable {H : Type} {enc : TypeId × Value → H}
theorem again {t : TypeId} (hr : Tryd.prog.readableRec t = true) (hin : InBook Tryd.prog t t) {W W' : World} {v : Value} {d : DataW H} {ps : List MemPlace} {sp : Nat → Bool}
    (h : DataW.Trod enc Tryd.prog W 0 (fun _ => true) true t v d ps) (hb : Below W.heap.size W W') (hlt : ∀ p ∈ ps, p.block < W.heap.size) (hs : ∀ p ∈ ps, sp p.block = true) :
    DataW.Trod enc Tryd.prog W' 0 sp true t v d ps := by
  obtain ⟨n, hn⟩ := h
  exact ⟨n, DataW.trod_stays (kids_book sunLaidOut hr) (book_sized hr) (fun h => by cases h) hin hn (fun p hp => hb.same (hlt p hp)) hs⟩
theorem list5 {α : Type} {l : List α} (h : l.length = 5) : ∃ a b c d e, l = [a, b, c, d, e] := by
  match l, h with
  | [a, b, c, d, e], _ => exact ⟨a, b, c, d, e, rfl⟩
set_option maxRecDepth 100000 in
theorem city_arg {W : World} {r : Reach} {b0 base : Nat} {v : Value} {d : DataW H} {p : List MemPlace} (hval : Value.okWide Tryd.prog W r b0 53 v) (h : DataW.Trod enc Tryd.prog W base (fun _ => true) true 53 v d p) :
    ∃ la lo zo a0 a1 : Int, v = .agg #[.int .i64 la, .int .i64 lo, .int .i64 zo, .int .i64 a0, .int .i64 a1] ∧ p = [] := by
  obtain ⟨cs, rfl, hsz⟩ := okWide_struct Tryd.underlying53 hval
  obtain ⟨l⟩ := cs
  have hl5 := hsz.trans cellsCity
  rw [List.size_toArray] at hl5
  obtain ⟨c0, c1, c2, c3, c4, rfl⟩ := list5 hl5
  clear hsz hl5
  obtain ⟨fuel, hf⟩ := h
  have hf : DataW.trod enc Tryd.prog W base (fun _ => true) true fuel 53 [c0, c1, c2, c3, c4] = some (d, p) := hf
  obtain ⟨xs, n, _, hx, hl, hlen, hfs⟩ := DataW.trod_struct Tryd.underlying53 hf
  match xs, hlen with
  | [y0, y1, y2, y3], _ =>
    have t0 := hfs 0 _ rfl
    have t1 := hfs 1 _ rfl
    have t2 := hfs 2 _ rfl
    have t3 := hfs 3 _ rfl
    simp at t0 t1 t2 t3
    obtain ⟨z0, z1, k, hz, _, u0, u1⟩ := trod_struct2 Tryd.underlying51 t3
    obtain ⟨n0, e0, r0, _⟩ := DataW.trod_int Tryd.underlying3 t0
    obtain ⟨n1, e1, r1, _⟩ := DataW.trod_int Tryd.underlying3 t1
    obtain ⟨n2, e2, r2, _⟩ := DataW.trod_int Tryd.underlying3 t2
    obtain ⟨n3, e3, r3, _⟩ := DataW.trod_int Tryd.underlying3 u0
    obtain ⟨n4, e4, r4, _⟩ := DataW.trod_int Tryd.underlying3 u1
    simp only [cellsInt, cellsEnc] at e0 e1 e2 e3 e4
    simp at e0 e1 e2 e3 e4
    rw [r3, r4] at hz
    rw [r0, r1, r2, hz] at hx
    simp at hx
    exact ⟨n0, n1, n2, n3, n4, by rw [e0, e1, e2, e3, e4], hx.2⟩
end
end Go.Proofs.YtjcgojbfjefbcaaDoor
