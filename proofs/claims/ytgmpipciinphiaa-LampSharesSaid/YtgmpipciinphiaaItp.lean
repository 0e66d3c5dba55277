/- interpolated of the code. -/
import Derived.Test.YtgmpipciinphiaaInr
import Derived.Test.YtgmpipciinphiaaFac
namespace Go.Proofs.Ytgmpipciinphiaa
set_option linter.unusedSimpArgs false
set_option linter.unusedVariables false
open Go.RowKit

/-- a place between two tangents: the index of the first, the weights of both, their sum -/
structure Plc where
  i : Nat
  f : Int
  s : Int
  al : Int
structure PlcOk (p : Plc) : Prop where
  f0 : 0 ≤ p.f
  s0 : 0 ≤ p.s
  sum : p.f + p.s = p.al
  pos : 0 < p.al
  bd : p.al ≤ 1000000000
def mixLo (p : Plc) (x y : Int) : Int := (p.f * x + p.s * y) / p.al
def mixHi (p : Plc) (x y : Int) : Int := upD (p.f * x + p.s * y) p.al

theorem mix_ge {p : Plc} (h : PlcOk p) {m x y : Int} (hx : m ≤ x) (hy : m ≤ y) : m * p.al ≤ p.f * x + p.s * y := by
  have h1 := Int.mul_le_mul_of_nonneg_left hx h.f0
  have h2 := Int.mul_le_mul_of_nonneg_left hy h.s0
  have h3 : m * p.al = p.f * m + p.s * m := by rw [← h.sum, Int.mul_comm m, Int.add_mul]
  omega
theorem mix_le {p : Plc} (h : PlcOk p) {m x y : Int} (hx : x ≤ m) (hy : y ≤ m) : p.f * x + p.s * y ≤ m * p.al := by
  have h1 := Int.mul_le_mul_of_nonneg_left hx h.f0
  have h2 := Int.mul_le_mul_of_nonneg_left hy h.s0
  have h3 : m * p.al = p.f * m + p.s * m := by rw [← h.sum, Int.mul_comm m, Int.add_mul]
  omega
theorem mixLo_ge {p : Plc} (h : PlcOk p) {m x y : Int} (hx : m ≤ x) (hy : m ≤ y) : m ≤ mixLo p x y :=
  Int.le_ediv_of_mul_le h.pos (mix_ge h hx hy)
theorem mixLo_le {p : Plc} (h : PlcOk p) {m x y : Int} (hx : x ≤ m) (hy : y ≤ m) : mixLo p x y ≤ m := by
  have := mix_le h hx hy
  unfold mixLo
  exact Int.ediv_le_of_le_mul h.pos this
theorem mixHi_le {p : Plc} (h : PlcOk p) {m x y : Int} (hx : x ≤ m) (hy : y ≤ m) : mixHi p x y ≤ m := by
  have := mix_le h hx hy
  unfold mixHi upD
  have : -m ≤ (-(p.f * x + p.s * y)) / p.al := Int.le_ediv_of_mul_le h.pos (by rw [Int.neg_mul]; omega)
  omega
theorem mixHi_ge {p : Plc} (h : PlcOk p) {m x y : Int} (hx : m ≤ x) (hy : m ≤ y) : m ≤ mixHi p x y := by
  have := mix_ge h hx hy
  unfold mixHi upD
  have : (-(p.f * x + p.s * y)) / p.al ≤ -m := Int.ediv_le_of_le_mul h.pos (by rw [Int.neg_mul]; omega)
  omega
theorem mix_bd {p : Plc} (h : PlcOk p) {x y : Int} (x0 : 0 ≤ x) (x1 : x ≤ 10000000) (y0 : 0 ≤ y) (y1 : y ≤ 10000000) :
    (-4000000000000000000 ≤ p.f * x ∧ p.f * x ≤ 4000000000000000000) ∧ (-4000000000000000000 ≤ p.s * y ∧ p.s * y ≤ 4000000000000000000) := by
  have f1 : p.f ≤ 1000000000 := by have := h.bd; have := h.sum; have := h.s0; omega
  have s1 : p.s ≤ 1000000000 := by have := h.bd; have := h.sum; have := h.f0; omega
  have a0 := Int.mul_nonneg h.f0 x0
  have a1 := Int.mul_le_mul f1 x1 x0 (by omega)
  have b0 := Int.mul_nonneg h.s0 y0
  have b1 := Int.mul_le_mul s1 y1 y0 (by omega)
  omega

/-- the value of a table at two indices -/
def tval (t : Tab) (i k : Nat) : Int := nth (rowAt t.rows i).xs k
/-- the intensity in a row, and at two places -/
def inLo (t : Tab) (i : Nat) (q : Plc) : Int := mixLo q (tval t i q.i) (tval t i (q.i + 1))
def inHi (t : Tab) (i : Nat) (q : Plc) : Int := mixHi q (tval t i q.i) (tval t i (q.i + 1))
def itLo (t : Tab) (p q : Plc) : Int := mixLo p (inLo t p.i q) (inLo t (p.i + 1) q)
def itHi (t : Tab) (p q : Plc) : Int := mixHi p (inHi t p.i q) (inHi t (p.i + 1) q)

/-- what interpolated reads, and its result's box c: rows, the place across (b), the place along (d) -/
def Kj (W : World) (n r o o' c b d : Nat) (rv x y : Value) (p q : Plc) (w : World) : Prop :=
  w.cell? ⟨n, 3, none⟩ = some rv ∧ w.cell? ⟨r, o, none⟩ = some x ∧ w.cell? ⟨r, o', none⟩ = some y ∧
  w.cell? ⟨b, 0, none⟩ = some (.int .i64 p.i) ∧ w.cell? ⟨b, 1, none⟩ = some (.int .i64 p.f) ∧ w.cell? ⟨b, 2, none⟩ = some (.int .i64 p.s) ∧ w.cell? ⟨b, 3, none⟩ = some (.int .i64 p.al) ∧
  w.cell? ⟨d, 0, none⟩ = some (.int .i64 q.i) ∧ w.cell? ⟨d, 1, none⟩ = some (.int .i64 q.f) ∧ w.cell? ⟨d, 2, none⟩ = some (.int .i64 q.s) ∧ w.cell? ⟨d, 3, none⟩ = some (.int .i64 q.al) ∧
  w.cell? ⟨c, 0, none⟩ = some (.int .i64 (rd w c 0)) ∧ w.cell? ⟨c, 1, none⟩ = some (.int .i64 (rd w c 1)) ∧ w.frozen? ⟨c, 0, none⟩ = false ∧ w.frozen? ⟨c, 1, none⟩ = false ∧
  (c < w.heap.size ∧ n < w.heap.size ∧ b < w.heap.size ∧ d < w.heap.size) ∧ Own W.heap.size W w
theorem Kj.call {W w w1 : World} {n r o o' c b d : Nat} {rv x y : Value} {p q : Plc} (k : Kj W n r o o' c b d rv x y p q w) (hr : r < W.heap.size) (hb : Own w.heap.size w w1) : Kj W n r o o' c b d rv x y p q w1 := by
  obtain ⟨k0, k1, k2, k3, k4, k5, k6, k7, k8, k9, k10, k11, k12, k13, k14, ⟨k15, k16, k17, k18⟩, k19⟩ := k
  have hz := k19.size
  have hz1 := hb.size
  have hr' : r < w.heap.size := by omega
  refine ⟨?_, ?_, ?_, ?_, ?_, ?_, ?_, ?_, ?_, ?_, ?_, rd_of (n := rd w c 0) ?_, rd_of (n := rd w c 1) ?_, ?_, ?_, ⟨by omega, by omega, by omega, by omega⟩, k19.trans (hb.mono hz)⟩
  · rw [hb.cell (p := ⟨n, 3, none⟩) k16]; exact k0
  · rw [hb.cell (p := ⟨r, o, none⟩) hr']; exact k1
  · rw [hb.cell (p := ⟨r, o', none⟩) hr']; exact k2
  · rw [hb.cell (p := ⟨b, 0, none⟩) k17]; exact k3
  · rw [hb.cell (p := ⟨b, 1, none⟩) k17]; exact k4
  · rw [hb.cell (p := ⟨b, 2, none⟩) k17]; exact k5
  · rw [hb.cell (p := ⟨b, 3, none⟩) k17]; exact k6
  · rw [hb.cell (p := ⟨d, 0, none⟩) k18]; exact k7
  · rw [hb.cell (p := ⟨d, 1, none⟩) k18]; exact k8
  · rw [hb.cell (p := ⟨d, 2, none⟩) k18]; exact k9
  · rw [hb.cell (p := ⟨d, 3, none⟩) k18]; exact k10
  · rw [hb.cell (p := ⟨c, 0, none⟩) k15]; exact k11
  · rw [hb.cell (p := ⟨c, 1, none⟩) k15]; exact k12
  · rw [hb.frozen (p := ⟨c, 0, none⟩) k15]; exact k13
  · rw [hb.frozen (p := ⟨c, 1, none⟩) k15]; exact k14
theorem Kj.set {W w : World} {n r o o' c b d : Nat} {rv x y : Value} {p q : Plc} (k : Kj W n r o o' c b d rv x y p q w) (n0 : n ≠ c) (n1 : r ≠ c) (n2 : b ≠ c) (n3 : d ≠ c) (hc : W.heap.size ≤ c) (u v : Int) : Kj W n r o o' c b d rv x y p q ((w.setCell ⟨c, 0, none⟩ (.int .i64 u)).setCell ⟨c, 1, none⟩ (.int .i64 v)) := by
  obtain ⟨k0, k1, k2, k3, k4, k5, k6, k7, k8, k9, k10, k11, k12, k13, k14, k15, k19⟩ := k
  refine ⟨?_, ?_, ?_, ?_, ?_, ?_, ?_, ?_, ?_, ?_, ?_, rd_of (n := u) ?_, rd_of (n := v) ?_, ?_, ?_, by simpa using k15, (k19.setCell hc _).setCell hc _⟩
  all_goals simp [go_sem, k0, k1, k2, k3, k4, k5, k6, k7, k8, k9, k10, k11, k12, k13, k14, n0, n1, n2, n3, Ne.symm n0, Ne.symm n1, Ne.symm n2, Ne.symm n3]

theorem Kj.row {W w : World} {n r o o' c b d : Nat} {rv x y : Value} {p q : Plc} (k : Kj W n r o o' c b d rv x y p q w) {A : Option Addr} {cap : Nat} {xs : List Int} (hx : IntsIn W.heap.size A xs W) (hq : PlcOk q) (ht : q.i + 1 < xs.length)
    (x0 : 0 ≤ nth xs q.i) (x1 : nth xs q.i ≤ 10000000) (y0 : 0 ≤ nth xs (q.i+1)) (y1 : nth xs (q.i+1) ≤ 10000000) :
    Calls Try.prog 105 #[.slice A xs.length cap, .pointer (some ⟨d, 0, none⟩)] w fun e w' => e = .returned (encl (mixLo q (nth xs q.i) (nth xs (q.i+1))) (mixHi q (nth xs q.i) (nth xs (q.i+1)))) ∧ Own w.heap.size w w' := by
  obtain ⟨k0, k1, k2, k3, k4, k5, k6, k7, k8, k9, k10, k11, k12, k13, k14, ⟨k15, k16, k17, k18⟩, k19⟩ := k
  obtain ⟨m1, m2⟩ := mix_bd hq x0 x1 y0 y1
  exact inRow_any d q.i q.f q.s q.al A cap xs w k18 ((hx.keep k19.below (Nat.le_refl _)).more k19.size) ht k7 k8 k9 k10 hq.pos (by have := hq.bd; omega) m1 m2
end Go.Proofs.Ytgmpipciinphiaa
