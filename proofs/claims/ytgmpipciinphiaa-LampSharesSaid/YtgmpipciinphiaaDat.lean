/- What a catalogue is, and where it lies in memory. -/
import Derived.Test.YtgmpipciinphiaaBase
namespace Go.Proofs.Ytgmpipciinphiaa
set_option linter.unusedSimpArgs false
set_option linter.unusedVariables false
open Go.RowKit

/-- a slice of integers: where it lies, its capacity, what it holds -/
structure Ints where
  a : Option Addr
  c : Nat
  xs : List Int
deriving Inhabited
def Ints.val (l : Ints) : Value := .slice l.a l.xs.length l.c

/-- a number of a list -/
def nth (xs : List Int) (j : Nat) : Int := xs[j]?.getD 0
def rowAt (rows : List Ints) (j : Nat) : Ints := rows[j]?.getD default

/-- the slice at A holds the numbers xs, below block B -/
def IntsIn (B : Nat) (A : Option Addr) (xs : List Int) (w : World) : Prop :=
  xs.length ≤ maxLen ∧ (0 < xs.length → ∃ b o, A = some ⟨b, o, none⟩ ∧ b < B ∧ ∀ j, j < xs.length → w.cell? ⟨b, o + j, none⟩ = some (.int .i64 (nth xs j)))

def RowsIn (B : Nat) (A : Option Addr) (rows : List Ints) (w : World) : Prop :=
  rows.length ≤ maxLen ∧ (0 < rows.length → ∃ b o, A = some ⟨b, o, none⟩ ∧ b < B ∧ ∀ j, j < rows.length → w.cell? ⟨b, o + j, none⟩ = some (rowAt rows j).val ∧ IntsIn B (rowAt rows j).a (rowAt rows j).xs w)

/-- a table of intensities -/
structure Tab where
  name : ByteArray
  us : Ints
  vs : Ints
  ra : Option Addr
  rc : Nat
  rows : List Ints
  side : Int
  sky : Int
deriving Inhabited
def Tab.cells (t : Tab) : List Value := [.string t.name, t.us.val, t.vs.val, .slice t.ra t.rows.length t.rc, .int .i64 t.side, .int .i64 t.sky]

structure TabIn (B b o : Nat) (t : Tab) (w : World) : Prop where
  size : t.name.size ≤ maxLen
  lt : b < B
  c0 : w.cell? ⟨b, o, none⟩ = some (.string t.name)
  c1 : w.cell? ⟨b, o + 1, none⟩ = some t.us.val
  c2 : w.cell? ⟨b, o + 2, none⟩ = some t.vs.val
  c3 : w.cell? ⟨b, o + 3, none⟩ = some (.slice t.ra t.rows.length t.rc)
  c4 : w.cell? ⟨b, o + 4, none⟩ = some (.int .i64 t.side)
  c5 : w.cell? ⟨b, o + 5, none⟩ = some (.int .i64 t.sky)
  us : IntsIn B t.us.a t.us.xs w
  vs : IntsIn B t.vs.a t.vs.xs w
  rows : RowsIn B t.ra t.rows w

/-- a lamp -/
structure Lmp where
  name : ByteArray
  table : Int
  kind : Int
  lumens : Int
  power : Int
  standing : Int
  tol : Int
  alo : Int
  ahi : Int
  dlo : Int
  dhi : Int
  life : Int
  dim : Int
  rest : Int
deriving Inhabited

structure LmpIn (B b o : Nat) (l : Lmp) (w : World) : Prop where
  size : l.name.size ≤ maxLen
  lt : b < B
  c0 : w.cell? ⟨b, o, none⟩ = some (.string l.name)
  c1 : w.cell? ⟨b, o + 1, none⟩ = some (.int .i64 l.table)
  c2 : w.cell? ⟨b, o + 2, none⟩ = some (.int .i64 l.kind)
  c3 : w.cell? ⟨b, o + 3, none⟩ = some (.int .i64 l.lumens)
  c4 : w.cell? ⟨b, o + 4, none⟩ = some (.int .i64 l.power)
  c5 : w.cell? ⟨b, o + 5, none⟩ = some (.int .i64 l.standing)
  c6 : w.cell? ⟨b, o + 6, none⟩ = some (.int .i64 l.tol)
  c7 : w.cell? ⟨b, o + 7, none⟩ = some (.int .i64 l.alo)
  c8 : w.cell? ⟨b, o + 8, none⟩ = some (.int .i64 l.ahi)
  c9 : w.cell? ⟨b, o + 9, none⟩ = some (.int .i64 l.dlo)
  c10 : w.cell? ⟨b, o + 10, none⟩ = some (.int .i64 l.dhi)
  c11 : w.cell? ⟨b, o + 11, none⟩ = some (.int .i64 l.life)
  c12 : w.cell? ⟨b, o + 12, none⟩ = some (.int .i64 l.dim)
  c13 : w.cell? ⟨b, o + 13, none⟩ = some (.int .i64 l.rest)

/-- a catalogue -/
structure Cat where
  ta : Option Addr
  tc : Nat
  tabs : List Tab
  la : Option Addr
  lc : Nat
  lamps : List Lmp
def Cat.tv (c : Cat) : Value := .slice c.ta c.tabs.length c.tc
def Cat.lv (c : Cat) : Value := .slice c.la c.lamps.length c.lc
def tabAt (l : List Tab) (i : Nat) : Tab := l[i]?.getD default
def lmpAt (l : List Lmp) (i : Nat) : Lmp := l[i]?.getD default

def TabsIn (B : Nat) (A : Option Addr) (ts : List Tab) (w : World) : Prop :=
  ts.length ≤ maxLen ∧ (0 < ts.length → ∃ b o, A = some ⟨b, o, none⟩ ∧ b < B ∧ ∀ i, i < ts.length → TabIn B b (o + i * 6) (tabAt ts i) w)
def LmpsIn (B : Nat) (A : Option Addr) (ls : List Lmp) (w : World) : Prop :=
  ls.length ≤ maxLen ∧ (0 < ls.length → ∃ b o, A = some ⟨b, o, none⟩ ∧ b < B ∧ ∀ i, i < ls.length → LmpIn B b (o + i * 14) (lmpAt ls i) w)

/-- a catalogue that lies below block B -/
structure CatIn (B : Nat) (c : Cat) (w : World) : Prop where
  tabs : TabsIn B c.ta c.tabs w
  lamps : LmpsIn B c.la c.lamps w

section
variable {B B' : Nat} {w w' : World}
theorem IntsIn.keep {A : Option Addr} {xs : List Int} (h : IntsIn B A xs w) (k : Below B' w w') (hB : B ≤ B') : IntsIn B A xs w' := by
  refine ⟨h.1, fun hn => ?_⟩
  obtain ⟨b, o, ha, hb, hc⟩ := h.2 hn
  exact ⟨b, o, ha, hb, fun j hj => by rw [k.cell (p := ⟨b, o + j, none⟩) (Nat.lt_of_lt_of_le hb hB)]; exact hc j hj⟩
theorem RowsIn.keep {A : Option Addr} {rows : List Ints} (h : RowsIn B A rows w) (k : Below B' w w') (hB : B ≤ B') : RowsIn B A rows w' := by
  refine ⟨h.1, fun hn => ?_⟩
  obtain ⟨b, o, ha, hb, hc⟩ := h.2 hn
  exact ⟨b, o, ha, hb, fun j hj => ⟨by rw [k.cell (p := ⟨b, o + j, none⟩) (Nat.lt_of_lt_of_le hb hB)]; exact (hc j hj).1, (hc j hj).2.keep k hB⟩⟩
theorem TabIn.keep {b o : Nat} {t : Tab} (h : TabIn B b o t w) (k : Below B' w w') (hB : B ≤ B') : TabIn B b o t w' := by
  have hb : b < B' := Nat.lt_of_lt_of_le h.lt hB
  refine ⟨h.size, h.lt, ?_, ?_, ?_, ?_, ?_, ?_, h.us.keep k hB, h.vs.keep k hB, h.rows.keep k hB⟩
  all_goals rw [k.cell (p := ⟨b, _, none⟩) hb]
  · exact h.c0
  · exact h.c1
  · exact h.c2
  · exact h.c3
  · exact h.c4
  · exact h.c5
theorem LmpIn.keep {b o : Nat} {l : Lmp} (h : LmpIn B b o l w) (k : Below B' w w') (hB : B ≤ B') : LmpIn B b o l w' := by
  have hb : b < B' := Nat.lt_of_lt_of_le h.lt hB
  refine ⟨h.size, h.lt, ?_, ?_, ?_, ?_, ?_, ?_, ?_, ?_, ?_, ?_, ?_, ?_, ?_, ?_⟩
  all_goals rw [k.cell (p := ⟨b, _, none⟩) hb]
  · exact h.c0
  · exact h.c1
  · exact h.c2
  · exact h.c3
  · exact h.c4
  · exact h.c5
  · exact h.c6
  · exact h.c7
  · exact h.c8
  · exact h.c9
  · exact h.c10
  · exact h.c11
  · exact h.c12
  · exact h.c13
theorem TabsIn.keep {A : Option Addr} {ts : List Tab} (h : TabsIn B A ts w) (k : Below B' w w') (hB : B ≤ B') : TabsIn B A ts w' := by
  refine ⟨h.1, fun hn => ?_⟩
  obtain ⟨b, o, ha, hb, hc⟩ := h.2 hn
  exact ⟨b, o, ha, hb, fun j hj => (hc j hj).keep k hB⟩
theorem LmpsIn.keep {A : Option Addr} {ls : List Lmp} (h : LmpsIn B A ls w) (k : Below B' w w') (hB : B ≤ B') : LmpsIn B A ls w' := by
  refine ⟨h.1, fun hn => ?_⟩
  obtain ⟨b, o, ha, hb, hc⟩ := h.2 hn
  exact ⟨b, o, ha, hb, fun j hj => (hc j hj).keep k hB⟩
theorem IntsIn.more {A : Option Addr} {xs : List Int} (h : IntsIn B A xs w) (hB : B ≤ B') : IntsIn B' A xs w :=
  ⟨h.1, fun hn => let ⟨b, o, ha, hb, hc⟩ := h.2 hn; ⟨b, o, ha, Nat.lt_of_lt_of_le hb hB, hc⟩⟩
theorem RowsIn.more {A : Option Addr} {rows : List Ints} (h : RowsIn B A rows w) (hB : B ≤ B') : RowsIn B' A rows w :=
  ⟨h.1, fun hn => let ⟨b, o, ha, hb, hc⟩ := h.2 hn; ⟨b, o, ha, Nat.lt_of_lt_of_le hb hB, fun j hj => ⟨(hc j hj).1, (hc j hj).2.more hB⟩⟩⟩
theorem TabIn.more {b o : Nat} {t : Tab} (h : TabIn B b o t w) (hB : B ≤ B') : TabIn B' b o t w :=
  { h with lt := Nat.lt_of_lt_of_le h.lt hB, us := h.us.more hB, vs := h.vs.more hB, rows := h.rows.more hB }
theorem LmpIn.more {b o : Nat} {l : Lmp} (h : LmpIn B b o l w) (hB : B ≤ B') : LmpIn B' b o l w :=
  { h with lt := Nat.lt_of_lt_of_le h.lt hB }
theorem TabsIn.more {A : Option Addr} {ts : List Tab} (h : TabsIn B A ts w) (hB : B ≤ B') : TabsIn B' A ts w :=
  ⟨h.1, fun hn => let ⟨b, o, ha, hb, hc⟩ := h.2 hn; ⟨b, o, ha, Nat.lt_of_lt_of_le hb hB, fun i hi => (hc i hi).more hB⟩⟩
theorem LmpsIn.more {A : Option Addr} {ls : List Lmp} (h : LmpsIn B A ls w) (hB : B ≤ B') : LmpsIn B' A ls w :=
  ⟨h.1, fun hn => let ⟨b, o, ha, hb, hc⟩ := h.2 hn; ⟨b, o, ha, Nat.lt_of_lt_of_le hb hB, fun i hi => (hc i hi).more hB⟩⟩
theorem CatIn.more {c : Cat} (h : CatIn B c w) (hB : B ≤ B') : CatIn B' c w := ⟨h.tabs.more hB, h.lamps.more hB⟩
theorem CatIn.keep {c : Cat} (h : CatIn B c w) (k : Below B' w w') (hB : B ≤ B') : CatIn B c w' :=
  ⟨h.tabs.keep k hB, h.lamps.keep k hB⟩
end
end Go.Proofs.Ytgmpipciinphiaa
