/- SunDates: the walk. -/
import Derived.Test.YtjcgojbfjefbcaaDoorRe
namespace Go.Proofs.YtjcgojbfjefbcaaDoor
set_option linter.unusedSimpArgs false
set_option linter.unusedVariables false
open Go.RowKit SineNear

/-- three integers in a block -/
structure Tri (b : Nat) (x y z : Int) (w : World) : Prop where
  c0 : w.cell? ⟨b, 0, none⟩ = some (.int .i64 x)
  c1 : w.cell? ⟨b, 1, none⟩ = some (.int .i64 y)
  c2 : w.cell? ⟨b, 2, none⟩ = some (.int .i64 z)
  lt : b < w.heap.size
theorem Tri.below {b : Nat} {x y z : Int} {w w1 : World} (k : Tri b x y z w) (h : Below w.heap.size w w1) : Tri b x y z w1 :=
  ⟨(h.cell (p := ⟨b, 0, none⟩) k.lt).trans k.c0, (h.cell (p := ⟨b, 1, none⟩) k.lt).trans k.c1, (h.cell (p := ⟨b, 2, none⟩) k.lt).trans k.c2, Nat.lt_of_lt_of_le k.lt h.size⟩
theorem Tri.fresh (w : World) (x y z : Int) (t : TypeId) : Tri w.heap.size x y z (w.alloc (.cells #[.int .i64 x, .int .i64 y, .int .i64 z] t)) := by
  refine ⟨?_, ?_, ?_, ?_⟩ <;> simp [go_sem]

set_option maxRecDepth 100000 in
set_option maxHeartbeats 8000000 in
theorem sunDates_any (ea : Addr) (x y z day year : Int) (w : World) (td : TabD ea w) (te : TabE w) :
    Calls Tryd.prog 3 #[.agg #[.int .i64 x, .int .i64 y, .int .i64 z], .int .i64 day, .int .i64 year] w fun e w' => e = .returned (.bool true) ∧ Below w.heap.size w w' := by
  have hb : Below w.heap.size w w := Below.refl _ _
  have C1 := Lib.hid (day_T ea x y z)
  have C2 := Lib.hid (rday_T x y z)
  have C3 := Lib.hid (Easter_T ea year)
  have C4 := Lib.hid (rEaster_T year)
  obtain ⟨p, q, r, e1, C5, C6⟩ := dates_is ea day
  have C5 := Lib.hid C5
  have C6 := Lib.hid C6
  obtain ⟨v1, hv1⟩ : ∃ v, v = dyV x y z := ⟨_, rfl⟩
  obtain ⟨v2, hv2⟩ : ∃ v, v = dyE x y z := ⟨_, rfl⟩
  obtain ⟨v3, hv3⟩ : ∃ v, v = etV year := ⟨_, rfl⟩
  obtain ⟨v4, hv4⟩ : ∃ v, v = etE year := ⟨_, rfl⟩
  rw [← hv1, ← hv2] at C1 C2
  rw [← hv3, ← hv4] at C3 C4
  clear hv1 hv2 hv3 hv4
  have dt := Tri.fresh w x y z 22
  have td := td.below ((Below.refl w.heap.size w).alloc (Nat.le_refl _) (.cells #[.int .i64 x, .int .i64 y, .int .i64 z] 22))
  have te := te.below ((Below.refl w.heap.size w).alloc (Nat.le_refl _) (.cells #[.int .i64 x, .int .i64 y, .int .i64 z] 22))
  have hb := hb.alloc (Nat.le_refl _) (.cells #[.int .i64 x, .int .i64 y, .int .i64 z] 22)
  obtain ⟨d0, d1, d2, dl⟩ := dt
  go_enter Tryd.func3, Tryd.ntmps3
  go_wp2_with fail
  have dt : Tri w.heap.size x y z _ := ⟨d0, d1, d2, dl⟩
  clear d0 d1 d2 dl
  refine (C1.out _ td).mono ?_
  rintro e w1 ⟨rfl, hq⟩
  have dt := dt.below hq
  have td := td.below hq
  have te := te.below hq
  have hb := hb.trans (hq.mono hb.size)
  clear hq
  obtain ⟨d0, d1, d2, dl⟩ := dt
  go_wp2_with fail
  have dt : Tri w.heap.size x y z w1 := ⟨d0, d1, d2, dl⟩
  clear d0 d1 d2 dl
  refine (C2.out _).mono ?_
  rintro e w2 ⟨rfl, hq⟩
  have td := td.below hq
  have te := te.below hq
  have hb := hb.trans (hq.mono hb.size)
  clear hq
  clear dt C1 C2
  go_wp2_with fail
  refine (C3.out _ td).mono ?_
  rintro e w3 ⟨rfl, hq⟩
  have td := td.below hq
  have te := te.below hq
  have hb := hb.trans (hq.mono hb.size)
  clear hq
  go_wp2_with fail
  refine (C4.out _).mono ?_
  rintro e w4 ⟨rfl, hq⟩
  have td := td.below hq
  have te := te.below hq
  have hb := hb.trans (hq.mono hb.size)
  clear hq
  clear C3 C4
  go_wp2_with fail
  refine (C5.out _ td).mono ?_
  rintro e w5 ⟨rfl, hq⟩
  have td := td.below hq
  have te := te.below hq
  have hb := hb.trans (hq.mono hb.size)
  clear hq
  go_wp2_with fail
  refine (C6.out _).mono ?_
  rintro e w6 ⟨rfl, hq⟩
  have td := td.below hq
  have te := te.below hq
  have hb := hb.trans (hq.mono hb.size)
  clear hq
  clear C5 C6
  go_wp2_with fail
  refine (awake_any ea _ td te).mono ?_
  rintro e w7 ⟨rfl, hq⟩
  have hb := hb.trans (hq.mono hb.size)
  clear hq
  clear td te
  go_wp2_with fail
  go_ret
  exact ⟨rfl, hb⟩
end Go.Proofs.YtjcgojbfjefbcaaDoor
