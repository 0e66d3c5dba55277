/- The reference's intensity in a direction. -/
import Derived.Test.YtgmpipciinphiaaRbe
import Derived.Deep.DrawnRows
import Derived.Deep.QuietTactic
import Derived.BigQuiet
namespace Go.Proofs.Ytgmpipciinphiaa
set_option linter.unusedSimpArgs false
set_option linter.unusedVariables false
open Go.RowKit
attribute [local go_sem ↓] Go.wp_at_zero Go.wp_at_succ

/-- what the reference finds in a direction -/
def rval (t : Tab) (h u v : Int) : Int × Int := if insB t u v h = true then (itLo2 t h (u, v), itHi2 t h (u, v)) else (0, t.side)

/-- the box of two enclosures -/
structure Pq4 (b : Nat) (e0 e1 e2 e3 : Int) (W : World) : Prop where
  c0 : W.cell? ⟨b, 0, none⟩ = some (.int .i64 e0)
  c1 : W.cell? ⟨b, 1, none⟩ = some (.int .i64 e1)
  c2 : W.cell? ⟨b, 2, none⟩ = some (.int .i64 e2)
  c3 : W.cell? ⟨b, 3, none⟩ = some (.int .i64 e3)
  f0 : W.frozen? ⟨b, 0, none⟩ = false
  f1 : W.frozen? ⟨b, 1, none⟩ = false
  f2 : W.frozen? ⟨b, 2, none⟩ = false
  f3 : W.frozen? ⟨b, 3, none⟩ = false
theorem Pq4.fresh (W : World) : Pq4 W.heap.size 0 0 0 0 (W.alloc (.cells #[.int .i64 0, .int .i64 0, .int .i64 0, .int .i64 0] 112)) := by
  constructor <;> simp [go_sem]
theorem Pq4.drewN {b : Nat} {e0 e1 e2 e3 : Int} {W : World} (h : Pq4 b e0 e1 e2 e3 W) (n : Nat) : Pq4 b e0 e1 e2 e3 (W.drewN n) := ⟨h.c0, h.c1, h.c2, h.c3, h.f0, h.f1, h.f2, h.f3⟩
theorem Pq4.set0 {b : Nat} {e0 e1 e2 e3 : Int} {W : World} (h : Pq4 b e0 e1 e2 e3 W) (x y : Int) : Pq4 b x y e2 e3 ((W.setCell ⟨b, 0, none⟩ (.int .i64 x)).setCell ⟨b, 1, none⟩ (.int .i64 y)) := by
  obtain ⟨c0, c1, c2, c3, f0, f1, f2, f3⟩ := h
  constructor <;> simp [go_sem, c0, c1, c2, c3, f0, f1, f2, f3]
theorem Pq4.set2 {b : Nat} {e0 e1 e2 e3 : Int} {W : World} (h : Pq4 b e0 e1 e2 e3 W) (x y : Int) : Pq4 b e0 e1 x y ((W.setCell ⟨b, 2, none⟩ (.int .i64 x)).setCell ⟨b, 3, none⟩ (.int .i64 y)) := by
  obtain ⟨c0, c1, c2, c3, f0, f1, f2, f3⟩ := h
  constructor <;> simp [go_sem, c0, c1, c2, c3, f0, f1, f2, f3]

/-- between at a place -/
theorem rbet_plc {us : List Int} (ok : ListOk us) {x h : Int} (h0 : 1 ≤ h) (h1 : h ≤ 30000) (hx : inB2 us h x x = true) {X Y : Int} (x0 : 0 ≤ X) (x1 : X ≤ 10000000) (y0 : 0 ≤ Y) (y1 : Y ≤ 10000000) (w : World) :
    Calls Try.prog 81 #[.int .i64 X, .int .i64 Y, .int .i64 (nth us (plcAt us x h)), .int .i64 (nth us (plcAt us x h + 1)), .int .i64 x, .int .i64 h] w fun e w' => e = .returned (.tuple #[.int .i64 ((plc us x h).f * X + (plc us x h).s * Y), .int .i64 (plc us x h).al]) ∧ w = w' := by
  obtain ⟨_, k1, k2, k3⟩ := plc_ok ok h0 h1 hx
  have K := rbetween_any X Y (nth us (plcAt us x h)) (nth us (plcAt us x h + 1)) x h w x0 x1 y0 y1 (ok.lo _ (by omega)) (ok.hi _ (by omega)) (ok.lo _ k1) (ok.hi _ k1) h0 h1 k2 k3
  have e1 : (plc us x h).f * X + (plc us x h).s * Y = X * (nth us (plcAt us x h + 1) * h - x) + Y * (x - nth us (plcAt us x h) * h) := by
    show (nth us (plcAt us x h + 1) * h - x) * X + (x - nth us (plcAt us x h) * h) * Y = _
    rw [Int.mul_comm X, Int.mul_comm Y]
  have e2 : (plc us x h).al = (nth us (plcAt us x h + 1) - nth us (plcAt us x h)) * h := by
    show nth us (plcAt us x h + 1) * h - nth us (plcAt us x h) * h = _
    rw [Int.sub_mul]
  rw [e1, e2]
  exact K

set_option maxRecDepth 100000 in
set_option maxHeartbeats 2000000 in
theorem rint_out (t : Tab) (u v h : Int) (w : World) (ok : TabOk t) (hu : IntsIn w.heap.size t.us.a t.us.xs w) (hv : IntsIn w.heap.size t.vs.a t.vs.xs w) (h0 : 1 ≤ h) (h1 : h ≤ 30000) (hi : insB t u v h = false) :
    Calls Try.prog 48 #[.agg #[.string t.name, .slice t.us.a t.us.xs.length t.us.c, .slice t.vs.a t.vs.xs.length t.vs.c, .slice t.ra t.rows.length t.rc, .int .i64 t.side, .int .i64 t.sky], .int .i64 u, .int .i64 v, .int .i64 h] w fun e w' => e = .returned (encl 0 t.side) ∧ Own w.heap.size w w' := by
  have own0 : Own w.heap.size w ((w.alloc (.cells #[.string t.name, .slice t.us.a t.us.xs.length t.us.c, .slice t.vs.a t.vs.xs.length t.vs.c, .slice t.ra t.rows.length t.rc, .int .i64 t.side, .int .i64 t.sky] 61)).alloc (.cells #[.int .i64 0, .int .i64 0] 35)) := ((Own.refl _ _).alloc (Nat.le_refl _) _).alloc (by simp) _
  have IN := Lib.hid (rinside_any t u v h ((w.alloc (.cells #[.string t.name, .slice t.us.a t.us.xs.length t.us.c, .slice t.vs.a t.vs.xs.length t.vs.c, .slice t.ra t.rows.length t.rc, .int .i64 t.side, .int .i64 t.sky] 61)).alloc (.cells #[.int .i64 0, .int .i64 0] 35)) ok ((hu.keep own0.below (Nat.le_refl _)).more own0.size) ((hv.keep own0.below (Nat.le_refl _)).more own0.size) h0 h1)
  rw [hi] at IN
  have z0 : ((w.alloc (.cells #[.string t.name, .slice t.us.a t.us.xs.length t.us.c, .slice t.vs.a t.vs.xs.length t.vs.c, .slice t.ra t.rows.length t.rc, .int .i64 t.side, .int .i64 t.sky] 61)).alloc (.cells #[.int .i64 0, .int .i64 0] 35)).cell? ⟨w.heap.size + 1, 0, none⟩ = some (.int .i64 0) := by simp [go_sem]
  have z1 : ((w.alloc (.cells #[.string t.name, .slice t.us.a t.us.xs.length t.us.c, .slice t.vs.a t.vs.xs.length t.vs.c, .slice t.ra t.rows.length t.rc, .int .i64 t.side, .int .i64 t.sky] 61)).alloc (.cells #[.int .i64 0, .int .i64 0] 35)).cell? ⟨w.heap.size + 1, 1, none⟩ = some (.int .i64 0) := by simp [go_sem]
  have z2 : ((w.alloc (.cells #[.string t.name, .slice t.us.a t.us.xs.length t.us.c, .slice t.vs.a t.vs.xs.length t.vs.c, .slice t.ra t.rows.length t.rc, .int .i64 t.side, .int .i64 t.sky] 61)).alloc (.cells #[.int .i64 0, .int .i64 0] 35)).frozen? ⟨w.heap.size + 1, 0, none⟩ = false := by simp [go_sem]
  have z3 : ((w.alloc (.cells #[.string t.name, .slice t.us.a t.us.xs.length t.us.c, .slice t.vs.a t.vs.xs.length t.vs.c, .slice t.ra t.rows.length t.rc, .int .i64 t.side, .int .i64 t.sky] 61)).alloc (.cells #[.int .i64 0, .int .i64 0] 35)).frozen? ⟨w.heap.size + 1, 1, none⟩ = false := by simp [go_sem]
  have x4 : ((w.alloc (.cells #[.string t.name, .slice t.us.a t.us.xs.length t.us.c, .slice t.vs.a t.vs.xs.length t.vs.c, .slice t.ra t.rows.length t.rc, .int .i64 t.side, .int .i64 t.sky] 61)).alloc (.cells #[.int .i64 0, .int .i64 0] 35)).cell? ⟨w.heap.size, 4, none⟩ = some (.int .i64 t.side) := by simp [go_sem]
  have sz0 : w.heap.size + 1 < ((w.alloc (.cells #[.string t.name, .slice t.us.a t.us.xs.length t.us.c, .slice t.vs.a t.vs.xs.length t.vs.c, .slice t.ra t.rows.length t.rc, .int .i64 t.side, .int .i64 t.sky] 61)).alloc (.cells #[.int .i64 0, .int .i64 0] 35)).heap.size := by simp
  have Z := Lib.hid (And.intro z0 (And.intro z1 (And.intro z2 (And.intro z3 x4))))
  clear z0 z1 z2 z3 x4
  go_enter Try.func48, Try.ntmps48
  go_wp2_with fail
  generalize ((w.alloc (.cells #[.string t.name, .slice t.us.a t.us.xs.length t.us.c, .slice t.vs.a t.vs.xs.length t.vs.c, .slice t.ra t.rows.length t.rc, .int .i64 t.side, .int .i64 t.sky] 61)).alloc (.cells #[.int .i64 0, .int .i64 0] 35)) = W0 at *
  refine IN.out.mono ?_
  rintro e w1 ⟨rfl, o1⟩
  obtain ⟨z0, z1, z2, z3, x4⟩ := Z.out
  have y0 := (o1.cell (p := ⟨w.heap.size + 1, 0, none⟩) sz0).trans z0
  have y1 := (o1.cell (p := ⟨w.heap.size + 1, 1, none⟩) sz0).trans z1
  have y2 := (o1.frozen (p := ⟨w.heap.size + 1, 0, none⟩) sz0).trans z2
  have y3 := (o1.frozen (p := ⟨w.heap.size + 1, 1, none⟩) sz0).trans z3
  have y4 := (o1.cell (p := ⟨w.heap.size, 4, none⟩) (by show w.heap.size < _; omega)).trans x4
  clear z0 z1 z2 z3 x4
  go_wp2_with fail
  refine bodyPost_ret (v := encl 0 t.side) (by simp [results, Try.results48, go_sem, y0, y1]) rfl ⟨rfl, ?_⟩
  exact ((own0.trans (o1.mono own0.size)).setCell (p := ⟨w.heap.size + 1, 0, none⟩) (by show w.heap.size ≤ w.heap.size + 1; omega) _).setCell (p := ⟨w.heap.size + 1, 1, none⟩) (by show w.heap.size ≤ w.heap.size + 1; omega) _

set_option maxRecDepth 100000 in
set_option maxHeartbeats 2000000 in
theorem rint_in (t : Tab) (u v h : Int) (w : World) (ok : TabOk t) (hu : IntsIn w.heap.size t.us.a t.us.xs w) (hv : IntsIn w.heap.size t.vs.a t.vs.xs w) (hr : RowsIn w.heap.size t.ra t.rows w) (h0 : 1 ≤ h) (h1 : h ≤ 30000) (hi : insB t u v h = true) :
    Calls Try.prog 48 #[.agg #[.string t.name, .slice t.us.a t.us.xs.length t.us.c, .slice t.vs.a t.vs.xs.length t.vs.c, .slice t.ra t.rows.length t.rc, .int .i64 t.side, .int .i64 t.sky], .int .i64 u, .int .i64 v, .int .i64 h] w fun e w' => e = .returned (encl (itLo2 t h (u, v)) (itHi2 t h (u, v))) ∧ Own w.heap.size w w' := by
  have own0 : Own w.heap.size w ((w.alloc (.cells #[.string t.name, .slice t.us.a t.us.xs.length t.us.c, .slice t.vs.a t.vs.xs.length t.vs.c, .slice t.ra t.rows.length t.rc, .int .i64 t.side, .int .i64 t.sky] 61)).alloc (.cells #[.int .i64 0, .int .i64 0] 35)) := ((Own.refl _ _).alloc (Nat.le_refl _) _).alloc (by simp) _
  have IN := Lib.hid (rinside_any t u v h ((w.alloc (.cells #[.string t.name, .slice t.us.a t.us.xs.length t.us.c, .slice t.vs.a t.vs.xs.length t.vs.c, .slice t.ra t.rows.length t.rc, .int .i64 t.side, .int .i64 t.sky] 61)).alloc (.cells #[.int .i64 0, .int .i64 0] 35)) ok ((hu.keep own0.below (Nat.le_refl _)).more own0.size) ((hv.keep own0.below (Nat.le_refl _)).more own0.size) h0 h1)
  rw [hi] at IN
  have hi' := hi
  unfold insB at hi'
  rw [Bool.and_eq_true] at hi'
  obtain ⟨hiu, hiv⟩ := hi'
  obtain ⟨pu, ku, _, _⟩ := plc_ok ok.us h0 h1 hiu
  obtain ⟨pv, kv, _, _⟩ := plc_ok ok.vs h0 h1 hiv
  have eu := blwN_eq ok.us h0 h1 hiu
  have ev := blwN_eq ok.vs h0 h1 hiv
  have n0 := ok.us.n0
  have n1 := ok.us.n1
  have n2 := ok.vs.n0
  have n3 := ok.vs.n1
  have hlr := ok.rows
  have BU := Lib.hid (fun (W : World) (g : IntsIn W.heap.size t.us.a t.us.xs W) => rbelow_any t.us.a t.us.c t.us.xs u h W g ok.us h0 h1)
  have BV := Lib.hid (fun (W : World) (g : IntsIn W.heap.size t.vs.a t.vs.xs W) => rbelow_any t.vs.a t.vs.c t.vs.xs v h W g ok.vs h0 h1)
  rw [eu] at BU
  rw [ev] at BV
  clear eu ev
  -- the values at the corners, the rows' enclosures
  obtain ⟨p, hp⟩ : ∃ p, plc t.us.xs u h = p := ⟨_, rfl⟩
  obtain ⟨q, hq⟩ : ∃ q, plc t.vs.xs v h = q := ⟨_, rfl⟩
  have pi : p.i = plcAt t.us.xs u h := by rw [← hp]; rfl
  have qi : q.i = plcAt t.vs.xs v h := by rw [← hq]; rfl
  have B1 := fun (X Y : Int) (a b c d) (W : World) => rbet_plc ok.us h0 h1 hiu (X := X) (Y := Y) a b c d W
  have B2 := fun (X Y : Int) (a b c d) (W : World) => rbet_plc ok.vs h0 h1 hiv (X := X) (Y := Y) a b c d W
  have HRES : Hid ((itLo2 t h (u, v), itHi2 t h (u, v)) = (itLo t p q, itHi t p q)) := by show _ = _; rw [← hp, ← hq]; rfl
  rw [hp, ← pi] at B1
  rw [hq, ← qi] at B2
  rw [hp] at pu
  rw [hq] at pv
  rw [← pi] at ku BU
  rw [← qi] at kv BV
  clear hp hq pi qi hiu hiv hi
  have v00 : 0 ≤ tval t p.i q.i := ok.v0 p.i q.i (by omega) (by omega)
  have v00' : tval t p.i q.i ≤ 10000000 := ok.v1 p.i q.i (by omega) (by omega)
  have v01 : 0 ≤ tval t p.i (q.i + 1) := ok.v0 p.i (q.i + 1) (by omega) (by omega)
  have v01' : tval t p.i (q.i + 1) ≤ 10000000 := ok.v1 p.i (q.i + 1) (by omega) (by omega)
  have v10 : 0 ≤ tval t (p.i + 1) q.i := ok.v0 (p.i + 1) q.i (by omega) (by omega)
  have v10' : tval t (p.i + 1) q.i ≤ 10000000 := ok.v1 (p.i + 1) q.i (by omega) (by omega)
  have v11 : 0 ≤ tval t (p.i + 1) (q.i + 1) := ok.v0 (p.i + 1) (q.i + 1) (by omega) (by omega)
  have v11' : tval t (p.i + 1) (q.i + 1) ≤ 10000000 := ok.v1 (p.i + 1) (q.i + 1) (by omega) (by omega)
  have a0 : 0 ≤ inLo t p.i q := mixLo_ge pv v00 v01
  have a0' : inLo t p.i q ≤ 10000000 := mixLo_le pv v00' v01'
  have a1 : 0 ≤ inHi t p.i q := mixHi_ge pv v00 v01
  have a1' : inHi t p.i q ≤ 10000000 := mixHi_le pv v00' v01'
  have b0 : 0 ≤ inLo t (p.i + 1) q := mixLo_ge pv v10 v11
  have b0' : inLo t (p.i + 1) q ≤ 10000000 := mixLo_le pv v10' v11'
  have b1 : 0 ≤ inHi t (p.i + 1) q := mixHi_ge pv v10 v11
  have b1' : inHi t (p.i + 1) q ≤ 10000000 := mixHi_le pv v10' v11'
  have BT0 := Lib.hid (fun W => B2 _ _ v00 v00' v01 v01' W)
  have BT1 := Lib.hid (fun W => B2 _ _ v10 v10' v11 v11' W)
  have BT2 := Lib.hid (fun W => B1 _ _ a0 a0' b0 b0' W)
  have BT3 := Lib.hid (fun W => B1 _ _ a1 a1' b1 b1' W)
  have mm : ∀ (P : Plc) (X Y : Int), PlcOk P → 0 ≤ X → X ≤ 10000000 → 0 ≤ Y → Y ≤ 10000000 → -9100000000000000000 ≤ P.f * X + P.s * Y ∧ P.f * X + P.s * Y ≤ 9100000000000000000 := fun P X Y hP g1 g2 g3 g4 => by have := mix_bd hP g1 g2 g3 g4; omega
  have M0 := mm q _ _ pv v00 v00' v01 v01'
  have M1 := mm q _ _ pv v10 v10' v11 v11'
  have M2 := mm p _ _ pu a0 a0' b0 b0'
  have M3 := mm p _ _ pu a1 a1' b1 b1'
  have D0 := Lib.hid (fun W => (show Calls Try.prog 60 #[.int .i64 (q.f * tval t p.i q.i + q.s * tval t p.i (q.i + 1)), .int .i64 q.al] W (fun e w' => e = .returned (.int .i64 (inLo t p.i q)) ∧ W = w') from rdown_any _ _ W pv.pos (by have := pv.bd; omega) M0.1 M0.2))
  have U0 := Lib.hid (fun W => (show Calls Try.prog 61 #[.int .i64 (q.f * tval t p.i q.i + q.s * tval t p.i (q.i + 1)), .int .i64 q.al] W (fun e w' => e = .returned (.int .i64 (inHi t p.i q)) ∧ W = w') from rup_any _ _ W pv.pos (by have := pv.bd; omega) M0.1 M0.2))
  have D1 := Lib.hid (fun W => (show Calls Try.prog 60 #[.int .i64 (q.f * tval t (p.i + 1) q.i + q.s * tval t (p.i + 1) (q.i + 1)), .int .i64 q.al] W (fun e w' => e = .returned (.int .i64 (inLo t (p.i + 1) q)) ∧ W = w') from rdown_any _ _ W pv.pos (by have := pv.bd; omega) M1.1 M1.2))
  have U1 := Lib.hid (fun W => (show Calls Try.prog 61 #[.int .i64 (q.f * tval t (p.i + 1) q.i + q.s * tval t (p.i + 1) (q.i + 1)), .int .i64 q.al] W (fun e w' => e = .returned (.int .i64 (inHi t (p.i + 1) q)) ∧ W = w') from rup_any _ _ W pv.pos (by have := pv.bd; omega) M1.1 M1.2))
  have D2 := Lib.hid (fun W => (show Calls Try.prog 60 #[.int .i64 (p.f * inLo t p.i q + p.s * inLo t (p.i + 1) q), .int .i64 p.al] W (fun e w' => e = .returned (.int .i64 (itLo t p q)) ∧ W = w') from rdown_any _ _ W pu.pos (by have := pu.bd; omega) M2.1 M2.2))
  have U2 := Lib.hid (fun W => (show Calls Try.prog 61 #[.int .i64 (p.f * inHi t p.i q + p.s * inHi t (p.i + 1) q), .int .i64 p.al] W (fun e w' => e = .returned (.int .i64 (itHi t p q)) ∧ W = w') from rup_any _ _ W pu.pos (by have := pu.bd; omega) M3.1 M3.2))
  clear B1 B2 mm M0 M1 M2 M3 pu pv a0 a0' a1 a1' b0 b0' b1 b1' v00 v00' v01 v01' v10 v10' v11 v11'
  obtain ⟨ub, uo, hua, hub, huc⟩ := hu.2 (by omega)
  obtain ⟨vb, vo, hva, hvb, hvc⟩ := hv.2 (by omega)
  obtain ⟨rb, ro, hra, hrb, hrc⟩ := hr.2 (by omega)
  obtain ⟨r0c, r0i⟩ := hrc p.i (by omega)
  obtain ⟨r1c, r1i⟩ := hrc (p.i + 1) (by omega)
  have rl0 := ok.row p.i (by omega)
  have rl1 := ok.row (p.i + 1) (by omega)
  obtain ⟨xb, xo, hxa, hxb, hxc⟩ := r0i.2 (by omega)
  obtain ⟨yb, yo, hya, hyb, hyc⟩ := r1i.2 (by omega)
  have fu0 := huc p.i (by omega)
  have fu1 := huc (p.i + 1) ku
  have fv0 := hvc q.i (by omega)
  have fv1 := hvc (q.i + 1) kv
  have fx0 := hxc q.i (by omega)
  have fx1 := hxc (q.i + 1) (by omega)
  have fy0 := hyc q.i (by omega)
  have fy1 := hyc (q.i + 1) (by omega)
  clear huc hvc hrc hxc hyc r0i r1i
  unfold Ints.val at r0c r1c
  rw [hxa] at r0c
  rw [hya] at r1c
  have HUV := Lib.hid (And.intro hu hv)
  clear hu hv hr
  have HEQ := Lib.hid (And.intro hua (And.intro hva (And.intro hra (And.intro rl0 (And.intro rl1 hlr)))))
  clear hua hva hra rl0 rl1 hlr hxa hya
  have k1 : ((w.alloc (.cells #[.string t.name, .slice t.us.a t.us.xs.length t.us.c, .slice t.vs.a t.vs.xs.length t.vs.c, .slice t.ra t.rows.length t.rc, .int .i64 t.side, .int .i64 t.sky] 61)).alloc (.cells #[.int .i64 0, .int .i64 0] 35)).cell? ⟨w.heap.size, 1, none⟩ = some (.slice t.us.a t.us.xs.length t.us.c) := by simp [go_sem]
  have k2 : ((w.alloc (.cells #[.string t.name, .slice t.us.a t.us.xs.length t.us.c, .slice t.vs.a t.vs.xs.length t.vs.c, .slice t.ra t.rows.length t.rc, .int .i64 t.side, .int .i64 t.sky] 61)).alloc (.cells #[.int .i64 0, .int .i64 0] 35)).cell? ⟨w.heap.size, 2, none⟩ = some (.slice t.vs.a t.vs.xs.length t.vs.c) := by simp [go_sem]
  have k3 : ((w.alloc (.cells #[.string t.name, .slice t.us.a t.us.xs.length t.us.c, .slice t.vs.a t.vs.xs.length t.vs.c, .slice t.ra t.rows.length t.rc, .int .i64 t.side, .int .i64 t.sky] 61)).alloc (.cells #[.int .i64 0, .int .i64 0] 35)).cell? ⟨w.heap.size, 3, none⟩ = some (.slice t.ra t.rows.length t.rc) := by simp [go_sem]
  have z0 : Bq (w.heap.size + 1) 0 0 ((w.alloc (.cells #[.string t.name, .slice t.us.a t.us.xs.length t.us.c, .slice t.vs.a t.vs.xs.length t.vs.c, .slice t.ra t.rows.length t.rc, .int .i64 t.side, .int .i64 t.sky] 61)).alloc (.cells #[.int .i64 0, .int .i64 0] 35)) := by constructor <;> simp [go_sem]
  have sz0 : ((w.alloc (.cells #[.string t.name, .slice t.us.a t.us.xs.length t.us.c, .slice t.vs.a t.vs.xs.length t.vs.c, .slice t.ra t.rows.length t.rc, .int .i64 t.side, .int .i64 t.sky] 61)).alloc (.cells #[.int .i64 0, .int .i64 0] 35)).heap.size = w.heap.size + 1 + 1 := by simp
  have Z := Lib.hid (And.intro k1 (And.intro k2 (And.intro k3 z0)))
  have OW0 := Lib.hid own0
  have SZ0 := Lib.hid sz0
  clear k1 k2 k3 z0 own0 sz0
  go_enter Try.func48, Try.ntmps48
  go_wp2_with fail
  generalize ((w.alloc (.cells #[.string t.name, .slice t.us.a t.us.xs.length t.us.c, .slice t.vs.a t.vs.xs.length t.vs.c, .slice t.ra t.rows.length t.rc, .int .i64 t.side, .int .i64 t.sky] 61)).alloc (.cells #[.int .i64 0, .int .i64 0] 35)) = W0 at *
  refine IN.out.mono ?_
  rintro e w1 ⟨rfl, o1⟩
  have OW1 := Lib.hid (OW0.out.trans (o1.mono OW0.out.size))
  have SZ1 : w.heap.size + 1 < w1.heap.size := by have := o1.size; rw [SZ0.out] at this; omega
  -- all that is read, in every later world
  have KF := Lib.hid (show ∀ Wz : World, Own w1.heap.size w1 Wz → (Wz.cell? ⟨w.heap.size, 1, none⟩ = some (.slice (some ⟨ub, uo, none⟩) t.us.xs.length t.us.c) ∧ Wz.cell? ⟨w.heap.size, 2, none⟩ = some (.slice (some ⟨vb, vo, none⟩) t.vs.xs.length t.vs.c) ∧ Wz.cell? ⟨w.heap.size, 3, none⟩ = some (.slice (some ⟨rb, ro, none⟩) t.rows.length t.rc) ∧
      Wz.cell? ⟨rb, ro + p.i, none⟩ = some (.slice (some ⟨xb, xo, none⟩) (rowAt t.rows p.i).xs.length (rowAt t.rows p.i).c) ∧ Wz.cell? ⟨rb, ro + (p.i + 1), none⟩ = some (.slice (some ⟨yb, yo, none⟩) (rowAt t.rows (p.i + 1)).xs.length (rowAt t.rows (p.i + 1)).c) ∧
      Wz.cell? ⟨ub, uo + p.i, none⟩ = some (.int .i64 (nth t.us.xs p.i)) ∧ Wz.cell? ⟨ub, uo + (p.i + 1), none⟩ = some (.int .i64 (nth t.us.xs (p.i + 1))) ∧ Wz.cell? ⟨vb, vo + q.i, none⟩ = some (.int .i64 (nth t.vs.xs q.i)) ∧ Wz.cell? ⟨vb, vo + (q.i + 1), none⟩ = some (.int .i64 (nth t.vs.xs (q.i + 1))) ∧
      Wz.cell? ⟨xb, xo + q.i, none⟩ = some (.int .i64 (tval t p.i q.i)) ∧ Wz.cell? ⟨xb, xo + (q.i + 1), none⟩ = some (.int .i64 (tval t p.i (q.i + 1))) ∧ Wz.cell? ⟨yb, yo + q.i, none⟩ = some (.int .i64 (tval t (p.i + 1) q.i)) ∧ Wz.cell? ⟨yb, yo + (q.i + 1), none⟩ = some (.int .i64 (tval t (p.i + 1) (q.i + 1)))) from fun Wz hk => by
    have oz := OW1.out.trans (hk.mono OW1.out.size)
    have oy := o1.trans (hk.mono o1.size)
    have e : ∀ a : Addr, a.block < w.heap.size → Wz.cell? a = w.cell? a := fun a ha => oz.cell ha
    have e' : ∀ a : Addr, a.block = w.heap.size → Wz.cell? a = W0.cell? a := fun a ha => oy.cell (by rw [SZ0.out, ha]; omega)
    have z := Z.out
    rw [HEQ.out.1, HEQ.out.2.1, HEQ.out.2.2.1] at z
    refine ⟨?_, ?_, ?_, ?_, ?_, ?_, ?_, ?_, ?_, ?_, ?_, ?_, ?_⟩
    · rw [e' _ rfl]; exact z.1
    · rw [e' _ rfl]; exact z.2.1
    · rw [e' _ rfl]; exact z.2.2.1
    · rw [e _ hrb]; exact r0c
    · rw [e _ hrb]; exact r1c
    · rw [e _ hub]; exact fu0
    · rw [e _ hub]; exact fu1
    · rw [e _ hvb]; exact fv0
    · rw [e _ hvb]; exact fv1
    · rw [e _ hxb]; exact fx0
    · rw [e _ hxb]; exact fx1
    · rw [e _ hyb]; exact fy0
    · rw [e _ hyb]; exact fy1)
  have BZ := Lib.hid (Z.out.2.2.2.keep o1.below (by rw [SZ0.out]; omega))
  have BU2 := Lib.hid (fun n : Nat => BU.out (w1.drewN n) ((HUV.out.1.keep (OW1.out.drewN n).below (Nat.le_refl _)).more (OW1.out.drewN n).size))
  have BV2 := Lib.hid (fun n : Nat => BV.out (w1.drewN n) ((HUV.out.2.keep (OW1.out.drewN n).below (Nat.le_refl _)).more (OW1.out.drewN n).size))
  rw [HEQ.out.2.2.2.1, HEQ.out.2.2.2.2.1, HEQ.out.2.2.2.2.2] at KF
  rw [HEQ.out.1] at BU2
  rw [HEQ.out.2.1] at BV2
  clear BU BV Z HUV r0c r1c fu0 fu1 fv0 fv1 fx0 fx1 fy0 fy1 hub hvb hrb hxb hyb o1 IN HEQ
  obtain ⟨g1, g2, g3, g4, g5, g6, g7, g8, g9, g10, g11, g12, g13⟩ := KF.out w1 (Own.refl _ _)
  clear g3 g4 g5 g6 g7 g8 g9 g10 g11 g12 g13
  go_wp2_with fail
  go_quiet (first | (go_at_call 80; with_reducible exact Calls.quiet_of_same ((BU2.out _).mono (fun _ _ hh => ⟨hh.1, hh.2.symm⟩))) | (go_at_call 80; with_reducible exact Calls.quiet_of_same ((BV2.out _).mono (fun _ _ hh => ⟨hh.1, hh.2.symm⟩))))
  clear g1 g2
  have ei0 : IntKind.i64.wrap (p.i : Int) = (p.i : Int) := IntWalk.i64_in _ (by omega)
  have ei1 : IntKind.i64.wrap ((p.i : Int) + 1) = ((p.i + 1 : Nat) : Int) := by rw [IntWalk.i64_in _ (by omega)]; omega
  have ek1 : IntKind.i64.wrap ((q.i : Int) + 1) = ((q.i + 1 : Nat) : Int) := by rw [IntWalk.i64_in _ (by omega)]; omega
  have t0 : (((p.i + 1 : Nat) : Int)).toNat = p.i + 1 := by omega
  have t1 : (((q.i + 1 : Nat) : Int)).toNat = q.i + 1 := by omega
  have s0 : (0 : Int) ≤ ((p.i + 1 : Nat) : Int) := by omega
  have s1 : (0 : Int) ≤ ((q.i + 1 : Nat) : Int) := by omega
  have s2 : ((p.i + 1 : Nat) : Int) < (t.us.xs.length : Int) := by omega
  have s3 : ((q.i + 1 : Nat) : Int) < (t.vs.xs.length : Int) := by omega
  have s4 : (p.i : Int) < (t.us.xs.length : Int) := by omega
  have s5 : (q.i : Int) < (t.vs.xs.length : Int) := by omega
  have s6 : (0 : Int) ≤ (p.i : Int) := by omega
  have s7 : (0 : Int) ≤ (q.i : Int) := by omega
  go_wp2_with fail
  have OWP := Lib.hid (((Own.refl w1.heap.size w1).drewN nq).alloc (Nat.le_refl _) (.cells #[.int .i64 0, .int .i64 0, .int .i64 0, .int .i64 0] 112))
  have P0 : Hid (Pq4 w1.heap.size 0 0 0 0 ((w1.drewN nq).alloc (.cells #[.int .i64 0, .int .i64 0, .int .i64 0, .int .i64 0] 112))) := by
    exact Pq4.fresh (w1.drewN nq)
  generalize (w1.drewN nq).alloc (.cells #[.int .i64 0, .int .i64 0, .int .i64 0, .int .i64 0] 112) = W2 at *
  go_loopg [12] 2 (fun n a' wr => ∃ (a : Nat) (e0 e1 e2 e3 : Int), a ≤ 2 ∧ n = 2 - a ∧ a' = .int .i64 a ∧ Hid (Pq4 w1.heap.size e0 e1 e2 e3 wr) ∧ (1 ≤ a → e0 = inLo t p.i q ∧ e1 = inHi t p.i q) ∧ (2 ≤ a → e2 = inLo t (p.i + 1) q ∧ e3 = inHi t (p.i + 1) q) ∧ Own w1.heap.size w1 wr)
  case atStart => exact ⟨0, 0, 0, 0, 0, by omega, by omega, rfl, P0, fun h => absurd h (by omega), fun h => absurd h (by omega), OWP.out⟩
  case round =>
    obtain ⟨a, e0, e1, e2, e3, ha, hn0, rfl, hp4, F1, F2, ow⟩ := hrel
    have HN := Lib.hid hn0
    have F1 := Lib.hid F1
    have F2 := Lib.hid F2
    clear hn0
    rcases (show a = 0 ∨ a = 1 ∨ a = 2 by omega) with rfl | rfl | rfl
    · obtain ⟨g1, g2, g3, g4, g5, g6, g7, g8, g9, g10, g11, g12, g13⟩ := KF.out wr ow
      obtain ⟨c0, c1, c2, c3, z0, z1, z2, z3⟩ := hp4.out
      clear g1 g6 g7
      go_wp2_with fail
      go_quiet (first | (go_at_call 81; with_reducible exact Calls.quiet_of_same ((BT0.out _).mono (fun _ _ hh => ⟨hh.1, hh.2.symm⟩))))
      go_wp2_with fail
      refine (D0.out _).mono ?_
      rintro e wa ⟨rfl, rfl⟩
      go_wp2_with fail
      refine (U0.out _).mono ?_
      rintro e wa ⟨rfl, rfl⟩
      go_wp2_with fail
      go_roundg 1
      case measure => have := HN.out; omega
      case rel => exact ⟨1, inLo t p.i q, inHi t p.i q, e2, e3, by omega, by omega, rfl, Lib.hid ((hp4.out.drewN _).set0 _ _), fun _ => ⟨rfl, rfl⟩, fun h => absurd h (by omega), ((ow.drewN _).setCell (p := ⟨w1.heap.size, 0, none⟩) (Nat.le_refl _) _).setCell (p := ⟨w1.heap.size, 1, none⟩) (Nat.le_refl _) _⟩
    · obtain ⟨g1, g2, g3, g4, g5, g6, g7, g8, g9, g10, g11, g12, g13⟩ := KF.out wr ow
      obtain ⟨c0, c1, c2, c3, z0, z1, z2, z3⟩ := hp4.out
      clear g1 g6 g7
      go_wp2_with fail
      go_quiet (first | (go_at_call 81; with_reducible exact Calls.quiet_of_same ((BT1.out _).mono (fun _ _ hh => ⟨hh.1, hh.2.symm⟩))))
      go_wp2_with fail
      refine (D1.out _).mono ?_
      rintro e wa ⟨rfl, rfl⟩
      go_wp2_with fail
      refine (U1.out _).mono ?_
      rintro e wa ⟨rfl, rfl⟩
      go_wp2_with fail
      go_roundg 0
      case measure => have := HN.out; omega
      case rel => exact ⟨2, e0, e1, inLo t (p.i + 1) q, inHi t (p.i + 1) q, by omega, by omega, rfl, Lib.hid ((hp4.out.drewN _).set2 _ _), fun _ => F1.out (by omega), fun _ => ⟨rfl, rfl⟩, ((ow.drewN _).setCell (p := ⟨w1.heap.size, 2, none⟩) (Nat.le_refl _) _).setCell (p := ⟨w1.heap.size, 3, none⟩) (Nat.le_refl _) _⟩
    · obtain ⟨h1', h2'⟩ := F1.out (by omega)
      obtain ⟨h3', h4'⟩ := F2.out (by omega)
      subst h1' h2' h3' h4'
      obtain ⟨g1, g2, g3, g4, g5, g6, g7, g8, g9, g10, g11, g12, g13⟩ := KF.out wr ow
      obtain ⟨c0, c1, c2, c3, z0, z1, z2, z3⟩ := hp4.out
      have BZ2 := Lib.hid (BZ.out.keep ow.below (by omega))
      clear g2 g3 g4 g5 g8 g9 g10 g11 g12 g13 z0 z1 z2 z3
      go_wp2_with fail
      go_quiet (first | (go_at_call 81; with_reducible exact Calls.quiet_of_same ((BT2.out _).mono (fun _ _ hh => ⟨hh.1, hh.2.symm⟩))))
      go_wp2_with fail
      go_quiet (first | (go_at_call 81; with_reducible exact Calls.mono (BT3.out _) (fun _ _ hh => ⟨hh.1, _, hh.2.symm⟩)))
      go_wp2_with fail
      refine (D2.out _).mono ?_
      rintro e wa ⟨rfl, rfl⟩
      go_wp2_with fail
      refine (U2.out _).mono ?_
      rintro e wa ⟨rfl, rfl⟩
      obtain ⟨y0, y1, y2, y3, _⟩ := BZ2.out
      go_wp2_with fail
      refine bodyPost_ret (v := encl (itLo t p q) (itHi t p q)) (by simp [results, Try.results48, go_sem, y0, y1]) rfl ⟨by rw [show itLo2 t h (u, v) = itLo t p q from congrArg Prod.fst HRES.out, show itHi2 t h (u, v) = itHi t p q from congrArg Prod.snd HRES.out], ?_⟩
      (repeat' (first | exact OW1.out.trans (ow.mono OW1.out.size) | refine Own.setCell ?_ ?_ _ | refine Own.drewN ?_ _)) <;> (show w.heap.size ≤ w.heap.size + 1; omega)
end Go.Proofs.Ytgmpipciinphiaa
