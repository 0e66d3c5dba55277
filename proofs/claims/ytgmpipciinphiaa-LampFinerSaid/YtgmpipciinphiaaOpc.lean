/- A catalogue that is an argument: what it is, where it lies; an argument read again behind a call that leaves what lay below. -/
import Derived.Test.YtgmpipciinphiaaDat
import Derived.Test.YtgmpipciinphiaaRows
import Derived.ProofKit
import Derived.Lib.SmallJoins
import Derived.ChangeBook
import Derived.ChangeStays
import Derived.Deep.Slices
namespace Go.Proofs.Ytgmpipciinphiaa
set_option linter.unusedSimpArgs false
set_option linter.unusedVariables false
open Go.RowKit Go.ChangeShapes Go.WideShapes Go.Deep Go.Joins
set_option maxRecDepth 100000

theorem cat_own : ownKnob Try.prog.godebug = none := by kernel_rfl
theorem cat_laidOut : laidOutB Try.prog = true := by kernel_rfl
theorem c1str : Try.prog.cellsOf 9 = 1 := by kernel_rfl
theorem c1int : Try.prog.cellsOf 3 = 1 := by kernel_rfl
theorem c1ints : Try.prog.cellsOf 58 = 1 := by kernel_rfl
theorem c1rows : Try.prog.cellsOf 59 = 1 := by kernel_rfl
theorem c2encl : Try.prog.cellsOf 35 = 2 := by kernel_rfl
theorem c6tab : Try.prog.cellsOf 61 = 6 := by kernel_rfl
theorem c14lamp : Try.prog.cellsOf 82 = 14 := by kernel_rfl
theorem c2cat : Try.prog.cellsOf 25 = 2 := by kernel_rfl

theorem addr_plain {w : World} {a : Addr} {v : Value} (h : w.cell? a = some v) : ∃ b o, a = ⟨b, o, none⟩ ∧ b < w.heap.size := by
  obtain ⟨b, o, s⟩ := a
  unfold World.cell? at h
  split at h
  · rename_i c e f hb
    cases s with
    | none => exact ⟨b, o, rfl, (Array.getElem?_eq_some_iff.1 hb).1⟩
    | some s => simp at h
  · cases h
theorem add_plain (b o i : Nat) : (⟨b, o, none⟩ : Addr).add i = ⟨b, o + i, none⟩ := by
  unfold Addr.add
  split
  · rename_i h; rw [h]; rfl
  · rfl

section
variable {H : Type} {enc : TypeId × Value → H} {W : World} {base : Nat} {held : Bool}

/-- the fields of a struct, each by itself -/
theorem trod_fields {t : TypeId} {fs : Array Field} {fuel : Nat} {cs : List Value} {x : DataW H × List MemPlace} (ht : Try.prog.underlying t = some (.struct fs)) (h : DataW.trod enc Try.prog W base (fun _ => true) held fuel t cs = some x) :
    cs.length = Try.prog.cellsOf t ∧ ∃ n, ∀ (i : Nat) (f : Field), fs.toList[i]? = some f → ∃ y, DataW.trod enc Try.prog W base (fun _ => true) held n f.type ((cs.drop f.offset).take (Try.prog.cellsOf f.type)) = some y := by
  obtain ⟨xs, n, _, rfl, hl, hlen, hf⟩ := DataW.trod_struct ht h
  refine ⟨hl, n, fun i f hi0 => ?_⟩
  have hi : fs[i]? = some f := by rw [← hi0, Array.getElem?_toList]
  have hlt : i < xs.length := by rw [hlen]; exact (Array.getElem?_eq_some_iff.1 hi).1
  exact ⟨xs[i], by rw [hf i f hi]; exact List.getElem?_eq_getElem hlt⟩

theorem get_take {zs : List Int} {n j : Nat} (hj : j < n) : nth (zs.take n) j = zs.getD j 0 := by
  unfold nth
  rw [List.getElem?_take, if_pos hj]
  simp [List.getD]

theorem ints_open {fuel : Nat} {v : Value} {x : DataW H × List MemPlace} (h : DataW.trod enc Try.prog W base (fun _ => true) held fuel 58 [v] = some x) : ∃ l : Ints, v = l.val ∧ IntsIn W.heap.size l.a l.xs W := by
  rcases open_ints Try.underlying58 Try.underlying3 c1int h with ⟨hv, _⟩ | ⟨a, len, cap, zs, hv, hb, hl, hm, hz, _, hc, _⟩
  · exact ⟨⟨none, 0, []⟩, by simpa [Ints.val] using hv, Nat.zero_le _, fun hh => by simp at hh⟩
  · simp only [if_true] at hz
    have hlen : (zs.take len).length = len := by rw [List.length_take]; omega
    refine ⟨⟨some a, cap, zs.take len⟩, by simpa [Ints.val, hlen] using hv, by show (zs.take len).length ≤ maxLen; omega, fun hh => ?_⟩
    have hh' : 0 < len := by simpa [hlen] using hh
    have h0 := hc 0 (by omega)
    rw [show a.add 0 = a from rfl] at h0
    obtain ⟨b, o, rfl, hb'⟩ := addr_plain h0
    refine ⟨b, o, rfl, hb', fun j hj => ?_⟩
    have hj' : j < len := by simpa [hlen] using hj
    have := hc j (by omega)
    rw [add_plain] at this
    rw [this, get_take hj']

theorem rows_open {fuel : Nat} {v : Value} {x : DataW H × List MemPlace} (h : DataW.trod enc Try.prog W base (fun _ => true) held fuel 59 [v] = some x) : ∃ (A : Option Addr) (c : Nat) (rows : List Ints), v = .slice A rows.length c ∧ RowsIn W.heap.size A rows W := by
  rcases open_slice1 Try.underlying59 c1ints h with ⟨hv, _⟩ | ⟨a, len, cap, m, n, V, D, Pl, hv, hb, hl, hm, hmm, _, hx⟩
  · exact ⟨none, 0, [], by simpa using hv, Nat.zero_le _, fun hh => by simp at hh⟩
  · simp only [if_true] at hmm
    subst hmm
    obtain ⟨f, hf⟩ := choose_lt (p := fun i (l : Ints) => V i = l.val ∧ IntsIn W.heap.size l.a l.xs W) (n := m) (fun i hi => ints_open (hx i hi).2)
    refine ⟨some a, m, (List.range len).map f, by simpa using hv, by simp; omega, fun hh => ?_⟩
    have hh' : 0 < len := by simpa using hh
    have h0 := (hx 0 (by omega)).1
    rw [show a.add 0 = a from rfl] at h0
    obtain ⟨b, o, rfl, hb'⟩ := addr_plain h0
    refine ⟨b, o, rfl, hb', fun j hj => ?_⟩
    have hj' : j < len := by simpa using hj
    have h1 := (hx j (by omega)).1
    rw [add_plain] at h1
    have e : rowAt ((List.range len).map f) j = f j := by simp [rowAt, hj']
    rw [e, h1, (hf j (by omega)).1]
    exact ⟨rfl, (hf j (by omega)).2⟩

theorem cells_six {a : Addr} {cs : List Value} {n : Nat} (h : W.cells? base a n = some cs) (hn : 0 < n) : ∃ b o, a = ⟨b, o, none⟩ ∧ b < W.heap.size ∧ cs.length = n ∧ ∀ j, j < n → W.cell? ⟨b, o + j, none⟩ = cs[j]? := by
  obtain ⟨_, hl, hc⟩ := World.cells?_some h
  have h0 := hc 0 hn
  rw [show a.add 0 = a from rfl, List.getElem?_eq_getElem (by omega)] at h0
  obtain ⟨b, o, rfl, hb⟩ := addr_plain h0
  exact ⟨b, o, rfl, hb, hl, fun j hj => by rw [← add_plain]; exact hc j hj⟩

theorem tab_open {fuel : Nat} {cs : List Value} {x : DataW H × List MemPlace} {b o : Nat} (hb : b < W.heap.size) (hl : cs.length = 6) (hc : ∀ j, j < 6 → W.cell? ⟨b, o + j, none⟩ = cs[j]?)
    (h : DataW.trod enc Try.prog W base (fun _ => true) held fuel 61 cs = some x) : ∃ t : Tab, TabIn W.heap.size b o t W := by
  obtain ⟨_, n, hf⟩ := trod_fields Try.underlying61 h
  match cs, hl with
  | [v0, v1, v2, v3, v4, v5], _ =>
    obtain ⟨y0, h0⟩ := hf 0 _ rfl
    obtain ⟨y1, h1⟩ := hf 1 _ rfl
    obtain ⟨y2, h2⟩ := hf 2 _ rfl
    obtain ⟨y3, h3⟩ := hf 3 _ rfl
    obtain ⟨y4, h4⟩ := hf 4 _ rfl
    obtain ⟨y5, h5⟩ := hf 5 _ rfl
    simp only [c1str, c1int, c1ints, c1rows, List.drop, List.take] at h0 h1 h2 h3 h4 h5
    obtain ⟨s, hs, _, hs1⟩ := DataW.trod_string Try.underlying9 h0
    obtain ⟨l1, rfl, k1⟩ := ints_open h1
    obtain ⟨l2, rfl, k2⟩ := ints_open h2
    obtain ⟨A, c, rows, rfl, k3⟩ := rows_open h3
    obtain ⟨n4, hn4, _, _⟩ := DataW.trod_int Try.underlying3 h4
    obtain ⟨n5, hn5, _, _⟩ := DataW.trod_int Try.underlying3 h5
    simp at hs hn4 hn5
    subst hs hn4 hn5
    exact ⟨⟨s, l1, l2, A, c, rows, n4, n5⟩, ⟨hs1, hb, hc 0 (by omega), hc 1 (by omega), hc 2 (by omega), hc 3 (by omega), hc 4 (by omega), hc 5 (by omega), k1, k2, k3⟩⟩

theorem encl_open {fuel : Nat} {a b : Value} {x : DataW H × List MemPlace} (h : DataW.trod enc Try.prog W base (fun _ => true) held fuel 35 [a, b] = some x) : ∃ m n, a = .int .i64 m ∧ b = .int .i64 n := by
  obtain ⟨_, n, hf⟩ := trod_fields Try.underlying35 h
  obtain ⟨y0, h0⟩ := hf 0 _ rfl
  obtain ⟨y1, h1⟩ := hf 1 _ rfl
  simp only [c1int, List.drop, List.take] at h0 h1
  obtain ⟨n0, e0, _, _⟩ := DataW.trod_int Try.underlying3 h0
  obtain ⟨n1, e1, _, _⟩ := DataW.trod_int Try.underlying3 h1
  simp at e0 e1
  exact ⟨n0, n1, e0, e1⟩

theorem lamp_open {fuel : Nat} {cs : List Value} {x : DataW H × List MemPlace} {b o : Nat} (hb : b < W.heap.size) (hl : cs.length = 14) (hc : ∀ j, j < 14 → W.cell? ⟨b, o + j, none⟩ = cs[j]?)
    (h : DataW.trod enc Try.prog W base (fun _ => true) held fuel 82 cs = some x) : ∃ l : Lmp, LmpIn W.heap.size b o l W := by
  obtain ⟨_, n, hf⟩ := trod_fields Try.underlying82 h
  match cs, hl with
  | [v0, v1, v2, v3, v4, v5, v6, v7, v8, v9, v10, v11, v12, v13], _ =>
    obtain ⟨y0, h0⟩ := hf 0 _ rfl
    obtain ⟨y1, h1⟩ := hf 1 _ rfl
    obtain ⟨y2, h2⟩ := hf 2 _ rfl
    obtain ⟨y3, h3⟩ := hf 3 _ rfl
    obtain ⟨y4, h4⟩ := hf 4 _ rfl
    obtain ⟨y5, h5⟩ := hf 5 _ rfl
    obtain ⟨y6, h6⟩ := hf 6 _ rfl
    obtain ⟨y7, h7⟩ := hf 7 _ rfl
    obtain ⟨y8, h8⟩ := hf 8 _ rfl
    obtain ⟨y9, h9⟩ := hf 9 _ rfl
    obtain ⟨y10, h10⟩ := hf 10 _ rfl
    obtain ⟨y11, h11⟩ := hf 11 _ rfl
    simp only [c1str, c1int, c2encl, List.drop, List.take] at h0 h1 h2 h3 h4 h5 h6 h7 h8 h9 h10 h11
    obtain ⟨s, hs, _, hs1⟩ := DataW.trod_string Try.underlying9 h0
    obtain ⟨n1, e1, _, _⟩ := DataW.trod_int Try.underlying3 h1
    obtain ⟨n2, e2, _, _⟩ := DataW.trod_int Try.underlying3 h2
    obtain ⟨n3, e3, _, _⟩ := DataW.trod_int Try.underlying3 h3
    obtain ⟨n4, e4, _, _⟩ := DataW.trod_int Try.underlying3 h4
    obtain ⟨n5, e5, _, _⟩ := DataW.trod_int Try.underlying3 h5
    obtain ⟨n6, e6, _, _⟩ := DataW.trod_int Try.underlying3 h6
    obtain ⟨n7, n8, rfl, rfl⟩ := encl_open h7
    obtain ⟨n9, n10, rfl, rfl⟩ := encl_open h8
    obtain ⟨n11, e11, _, _⟩ := DataW.trod_int Try.underlying3 h9
    obtain ⟨n12, e12, _, _⟩ := DataW.trod_int Try.underlying3 h10
    obtain ⟨n13, e13, _, _⟩ := DataW.trod_int Try.underlying3 h11
    simp at hs e1 e2 e3 e4 e5 e6 e11 e12 e13
    subst hs e1 e2 e3 e4 e5 e6 e11 e12 e13
    exact ⟨⟨s, n1, n2, n3, n4, n5, n6, n7, n8, n9, n10, n11, n12, n13⟩, ⟨hs1, hb, hc 0 (by omega), hc 1 (by omega), hc 2 (by omega), hc 3 (by omega), hc 4 (by omega), hc 5 (by omega), hc 6 (by omega), hc 7 (by omega), hc 8 (by omega), hc 9 (by omega), hc 10 (by omega), hc 11 (by omega), hc 12 (by omega), hc 13 (by omega)⟩⟩

theorem tabs_open {fuel : Nat} {v : Value} {x : DataW H × List MemPlace} (h : DataW.trod enc Try.prog W base (fun _ => true) held fuel 22 [v] = some x) : ∃ (A : Option Addr) (c : Nat) (ts : List Tab), v = .slice A ts.length c ∧ TabsIn W.heap.size A ts W := by
  rcases open_slice Try.underlying22 h with ⟨hv, _⟩ | ⟨a, len, cap, m, n, D, Pl, hv, hb, hl, hm, hmm, _, hx⟩
  · exact ⟨none, 0, [], by simpa using hv, Nat.zero_le _, fun hh => by simp at hh⟩
  · simp only [if_true] at hmm
    subst hmm
    rw [c6tab] at hx
    obtain ⟨f, hf⟩ := choose_lt (p := fun i (t : Tab) => ∃ b o, a.add (i * 6) = ⟨b, o, none⟩ ∧ TabIn W.heap.size b o t W) (n := m) (fun i hi => by
      obtain ⟨cs, h1, h2⟩ := hx i hi
      obtain ⟨b, o, e, hb, hl, hc⟩ := cells_six h1 (by omega)
      obtain ⟨t, ht⟩ := tab_open hb hl hc h2
      exact ⟨t, b, o, e, ht⟩)
    refine ⟨some a, m, (List.range len).map f, by simpa using hv, by simp; omega, fun hh => ?_⟩
    have hh' : 0 < len := by simpa using hh
    obtain ⟨b, o, e0, ht0⟩ := hf 0 (by omega)
    rw [show a.add (0 * 6) = a from rfl] at e0
    subst e0
    refine ⟨b, o, rfl, ht0.lt, fun j hj => ?_⟩
    have hj' : j < len := by simpa using hj
    obtain ⟨b', o', e1, ht1⟩ := hf j (by omega)
    rw [add_plain] at e1
    injection e1 with e2 e3
    subst e2 e3
    have e : tabAt ((List.range len).map f) j = f j := by simp [tabAt, hj']
    rw [e]
    exact ht1

theorem lamps_open {fuel : Nat} {v : Value} {x : DataW H × List MemPlace} (h : DataW.trod enc Try.prog W base (fun _ => true) held fuel 23 [v] = some x) : ∃ (A : Option Addr) (c : Nat) (ts : List Lmp), v = .slice A ts.length c ∧ LmpsIn W.heap.size A ts W := by
  rcases open_slice Try.underlying23 h with ⟨hv, _⟩ | ⟨a, len, cap, m, n, D, Pl, hv, hb, hl, hm, hmm, _, hx⟩
  · exact ⟨none, 0, [], by simpa using hv, Nat.zero_le _, fun hh => by simp at hh⟩
  · simp only [if_true] at hmm
    subst hmm
    rw [c14lamp] at hx
    obtain ⟨f, hf⟩ := choose_lt (p := fun i (t : Lmp) => ∃ b o, a.add (i * 14) = ⟨b, o, none⟩ ∧ LmpIn W.heap.size b o t W) (n := m) (fun i hi => by
      obtain ⟨cs, h1, h2⟩ := hx i hi
      obtain ⟨b, o, e, hb, hl, hc⟩ := cells_six h1 (by omega)
      obtain ⟨t, ht⟩ := lamp_open hb hl hc h2
      exact ⟨t, b, o, e, ht⟩)
    refine ⟨some a, m, (List.range len).map f, by simpa using hv, by simp; omega, fun hh => ?_⟩
    have hh' : 0 < len := by simpa using hh
    obtain ⟨b, o, e0, ht0⟩ := hf 0 (by omega)
    rw [show a.add (0 * 14) = a from rfl] at e0
    subst e0
    refine ⟨b, o, rfl, ht0.lt, fun j hj => ?_⟩
    have hj' : j < len := by simpa using hj
    obtain ⟨b', o', e1, ht1⟩ := hf j (by omega)
    rw [add_plain] at e1
    injection e1 with e2 e3
    subst e2 e3
    have e : lmpAt ((List.range len).map f) j = f j := by simp [lmpAt, hj']
    rw [e]
    exact ht1

theorem cat_open {r : Reach} {b0 : Nat} {v : Value} {d : DataW H} {p : List MemPlace} (hval : Value.okWide Try.prog W r b0 25 v) (h : DataW.Trod enc Try.prog W base (fun _ => true) held 25 v d p) :
    ∃ c : Cat, v = .agg #[c.tv, c.lv] ∧ CatIn W.heap.size c W := by
  obtain ⟨v0, v1, y0, y1, n, rfl, rfl, rfl, h0, h1⟩ := open_agg2 Try.underlying25 (by kernel_rfl) c2cat hval h
  obtain ⟨A, c, ts, rfl, k0⟩ := tabs_open h0
  obtain ⟨A', c', ls, rfl, k1⟩ := lamps_open h1
  exact ⟨⟨A, c, ts, A', c', ls⟩, rfl, ⟨k0, k1⟩⟩
end
end Go.Proofs.Ytgmpipciinphiaa
