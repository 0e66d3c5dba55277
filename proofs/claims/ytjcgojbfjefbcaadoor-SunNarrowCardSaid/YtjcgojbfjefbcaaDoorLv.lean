/- Level, and Set (code). -/
import Derived.Test.YtjcgojbfjefbcaaDoorDi
namespace Go.Proofs.YtjcgojbfjefbcaaDoor
set_option linter.unusedSimpArgs false
set_option linter.unusedVariables false
open Go.RowKit SineNear

/-- what Level returns -/
def leB (rs : List Row2) (up dn v : Int) : Bool := dmB rs up dn && frB v 0 100000
def leV (rs : List Row2) (up dn v : Int) : Int := if leB rs up dn v then lvF rs v else 0
def leE (rs : List Row2) (up dn v : Int) : Int := if leB rs up dn v then 0 else 7
abbrev dimV (A : Option Addr) (n c : Nat) (up dn : Int) : Value := .agg #[.slice A n c, .int .i64 up, .int .i64 dn]
theorem DimC.fresh (w : World) (A : Option Addr) (n c : Nat) (up dn : Int) (t : TypeId) : DimC w.heap.size A n c up dn (w.alloc (.cells #[.slice A n c, .int .i64 up, .int .i64 dn] t)) := by
  refine ⟨?_, ?_, ?_, ?_⟩ <;> simp [go_sem]

set_option maxRecDepth 100000 in
set_option maxHeartbeats 4000000 in
theorem level_any (A : Option Addr) (c : Nat) (rs : List Row2) (up dn v : Int) (w : World) (ri : RowsIn A rs w) :
    Calls Tryd.prog 28 #[dimV A rs.length c up dn, .int .i64 v] w fun e w' => e = .returned (.tuple #[.int .i64 (leV rs up dn v), .int .i64 (leE rs up dn v)]) ∧ Below w.heap.size w w' := by
  have dc := DimC.fresh w A rs.length c up dn 42
  have hb : Below w.heap.size w (w.alloc (.cells #[.slice A rs.length c, .int .i64 up, .int .i64 dn] 42)) := (Below.refl _ _).alloc (Nat.le_refl _) _
  have ri := ri.below hb
  cases h1 : dmB rs up dn
  · have E1 := Lib.hid (show leV rs up dn v = 0 by unfold leV leB; rw [h1]; rfl)
    have E2 := Lib.hid (show leE rs up dn v = 7 by unfold leE leB; rw [h1]; rfl)
    have H1 := Lib.hid h1
    have C1 := Lib.hid (fun W dc ri => dimming_any w.heap.size A c rs up dn W dc ri)
    clear h1
    go_enter Tryd.func28, Tryd.ntmps28
    go_wp2_with fail
    refine (C1.out _ dc ri).mono ?_
    rintro e v1 ⟨rfl, hq⟩
    have hb := hb.trans (hq.mono hb.size)
    rw [H1.out]
    go_wp2_with fail
    go_ret2
    exact ⟨by rw [E1.out, E2.out]; rfl, hb⟩
  · have hl : rs.length ≤ 1000 := by
      unfold dmB at h1
      simp only [Bool.and_eq_true] at h1
      have := frB_yes h1.1.1.1.1
      omega
    have C1 := Lib.hid (fun W dc ri => dimming_any w.heap.size A c rs up dn W dc ri)
    have H1 := Lib.hid h1
    cases h2 : frB v 0 100000
    · have E1 := Lib.hid (show leV rs up dn v = 0 by unfold leV leB; rw [h1, h2]; rfl)
      have E2 := Lib.hid (show leE rs up dn v = 7 by unfold leE leB; rw [h1, h2]; rfl)
      have C2 := traffic_T v
      rw [h2] at C2
      have C2 := Lib.hid C2
      clear h1 h2
      go_enter Tryd.func28, Tryd.ntmps28
      go_wp2_with fail
      refine (C1.out _ dc ri).mono ?_
      rintro e v1 ⟨rfl, hq⟩
      have hb := hb.trans (hq.mono hb.size)
      rw [H1.out]
      clear hq
      go_wp2_with fail
      refine (C2.out _).mono ?_
      rintro e v2 ⟨rfl, hq⟩
      have hb := hb.trans (hq.mono hb.size)
      clear hq
      go_wp2_with fail
      go_ret2
      exact ⟨by rw [E1.out, E2.out]; rfl, hb⟩
    · have E1 := Lib.hid (show leV rs up dn v = lvF rs v by unfold leV leB; rw [h1, h2]; rfl)
      have E2 := Lib.hid (show leE rs up dn v = 0 by unfold leE leB; rw [h1, h2]; rfl)
      have C2 := traffic_T v
      rw [h2] at C2
      have C2 := Lib.hid C2
      have C3 := Lib.hid (fun W hr => levelFor_any A c rs v W hl hr)
      clear h1 h2 hl
      go_enter Tryd.func28, Tryd.ntmps28
      go_wp2_with fail
      refine (C1.out _ dc ri).mono ?_
      rintro e v1 ⟨rfl, hq⟩
      have hb := hb.trans (hq.mono hb.size)
      have dc := dc.below hq
      have ri := ri.below hq
      rw [H1.out]
      clear hq
      go_wp2_with fail
      refine (C2.out _).mono ?_
      rintro e v2 ⟨rfl, hq⟩
      have hb := hb.trans (hq.mono hb.size)
      have dc := dc.below hq
      have ri := ri.below hq
      clear hq
      obtain ⟨d0, d1, d2, d3⟩ := dc
      go_wp2_with fail
      refine (C3.out _ ri).mono ?_
      rintro e v3 ⟨rfl, hq⟩
      have hb := hb.trans (hq.mono hb.size)
      clear hq d0 d1 d2 d3
      go_wp2_with fail
      go_ret2
      exact ⟨by rw [E1.out, E2.out]; rfl, hb⟩

/-- the evening's half -/
abbrev TabE (w : World) : Prop := Half 1 (-1200) 44400 false w
abbrev TabM (w : World) : Prop := Half 2 (-44400) 1200 true w

set_option maxHeartbeats 2000000 in
theorem set_any (la lo zo : Int) (alt : P2) (day : Int) (w : World) (ev : TabE w) :
    Calls Tryd.prog 31 #[cv la lo zo alt, .int .i64 day] w fun e w' => e = .returned (trV (psK la lo zo alt day false) (psP la lo zo alt day false) (erE la lo zo alt day 40000)) ∧ Below w.heap.size w w' := by
  have C : RetT 66 #[cv la lo zo alt, .int .i64 day, .agg #[.int .i64 (-1200), .int .i64 44400, .bool false]] (trV (psK la lo zo alt day false) (psP la lo zo alt day false) (erE la lo zo alt day 40000)) := passes_T la lo zo alt day false
  have C := Lib.hid C
  obtain ⟨e0, e1, e2, el⟩ := ev
  have n0 : 1 ≠ w.heap.size := by omega
  have n1 : 1 ≠ w.heap.size + 1 := by omega
  have el1 : 1 < w.heap.size + 1 := by omega
  go_enter Tryd.func31, Tryd.ntmps31
  go_wp2_with fail
  refine (C.out _).mono ?_
  rintro e v1 ⟨rfl, hq⟩
  have rt := Box.below (Box.freshAt (b := w.heap.size + 1) (w := w.alloc (.cells #[.int .i64 la, .int .i64 lo, .int .i64 zo, .int .i64 alt.1, .int .i64 alt.2] 53)) (by simp) 0 0 51) hq
  have hb : Below w.heap.size w v1 := (((Below.refl _ _).alloc (Nat.le_refl _) _).alloc (by simp) _).trans (hq.mono (by simp; omega))
  clear hq e0 e1 e2 n0 n1
  obtain ⟨r0, r1, r2, r3, r4⟩ := rt
  go_wp2_with fail
  exact bodyPost_ret (v := trV (psK la lo zo alt day false) (psP la lo zo alt day false) (erE la lo zo alt day 40000)) (by simp [results, Tryd.results31, go_sem, r0, r1, r2, r3, r4]) rfl ⟨rfl, (hb.setCell (by simp) _).setCell (by simp) _⟩
set_option maxHeartbeats 2000000 in
theorem rise_any (la lo zo : Int) (alt : P2) (day : Int) (w : World) (ev : TabM w) :
    Calls Tryd.prog 32 #[cv la lo zo alt, .int .i64 day] w fun e w' => e = .returned (trV (psK la lo zo alt day true) (psP la lo zo alt day true) (erE la lo zo alt day 40000)) ∧ Below w.heap.size w w' := by
  have C : RetT 66 #[cv la lo zo alt, .int .i64 day, .agg #[.int .i64 (-44400), .int .i64 1200, .bool true]] (trV (psK la lo zo alt day true) (psP la lo zo alt day true) (erE la lo zo alt day 40000)) := passes_T la lo zo alt day true
  have C := Lib.hid C
  obtain ⟨e0, e1, e2, el⟩ := ev
  have n0 : 2 ≠ w.heap.size := by omega
  have n1 : 2 ≠ w.heap.size + 1 := by omega
  have el1 : 2 < w.heap.size + 1 := by omega
  go_enter Tryd.func32, Tryd.ntmps32
  go_wp2_with fail
  refine (C.out _).mono ?_
  rintro e v1 ⟨rfl, hq⟩
  have rt := Box.below (Box.freshAt (b := w.heap.size + 1) (w := w.alloc (.cells #[.int .i64 la, .int .i64 lo, .int .i64 zo, .int .i64 alt.1, .int .i64 alt.2] 53)) (by simp) 0 0 51) hq
  have hb : Below w.heap.size w v1 := (((Below.refl _ _).alloc (Nat.le_refl _) _).alloc (by simp) _).trans (hq.mono (by simp; omega))
  clear hq e0 e1 e2 n0 n1
  obtain ⟨r0, r1, r2, r3, r4⟩ := rt
  go_wp2_with fail
  exact bodyPost_ret (v := trV (psK la lo zo alt day true) (psP la lo zo alt day true) (erE la lo zo alt day 40000)) (by simp [results, Tryd.results32, go_sem, r0, r1, r2, r3, r4]) rfl ⟨rfl, (hb.setCell (by simp) _).setCell (by simp) _⟩
end Go.Proofs.YtjcgojbfjefbcaaDoor
