/- The closure of interpolated: the intensity in a row. -/
import Derived.Test.YtgmpipciinphiaaBtw
import Derived.Test.YtgmpipciinphiaaDat
namespace Go.Proofs.Ytgmpipciinphiaa
set_option linter.unusedSimpArgs false
set_option linter.unusedVariables false
open Go.RowKit

/-- what lies in a cell, as a number -/
def rd (w : World) (b o : Nat) : Int := match w.cell? ⟨b, o, none⟩ with | some (.int _ n) => n | _ => 0
theorem rd_of {w : World} {b o : Nat} {n : Int} (h : w.cell? ⟨b, o, none⟩ = some (.int .i64 n)) : w.cell? ⟨b, o, none⟩ = some (.int .i64 (rd w b o)) := by
  unfold rd; rw [h]

/-- what the closure reads, and its result's box c -/
def Ki (W : World) (p r o o' c : Nat) (p0 p1 p2 p3 x y : Int) (w : World) : Prop :=
  w.cell? ⟨p, 0, none⟩ = some (.int .i64 p0) ∧ w.cell? ⟨p, 1, none⟩ = some (.int .i64 p1) ∧ w.cell? ⟨p, 2, none⟩ = some (.int .i64 p2) ∧ w.cell? ⟨p, 3, none⟩ = some (.int .i64 p3) ∧
  w.cell? ⟨r, o, none⟩ = some (.int .i64 x) ∧ w.cell? ⟨r, o', none⟩ = some (.int .i64 y) ∧
  w.cell? ⟨c, 0, none⟩ = some (.int .i64 (rd w c 0)) ∧ w.cell? ⟨c, 1, none⟩ = some (.int .i64 (rd w c 1)) ∧ w.frozen? ⟨c, 0, none⟩ = false ∧ w.frozen? ⟨c, 1, none⟩ = false ∧ c < w.heap.size ∧ Own W.heap.size W w
theorem Ki.call {W w w1 : World} {p r o o' c : Nat} {p0 p1 p2 p3 x y : Int} (k : Ki W p r o o' c p0 p1 p2 p3 x y w) (hp : p < W.heap.size) (hr : r < W.heap.size) (hb : Own w.heap.size w w1) : Ki W p r o o' c p0 p1 p2 p3 x y w1 := by
  obtain ⟨k0, k1, k2, k3, k4, k5, k6, k7, k8, k9, k10, k11⟩ := k
  have hz := k11.size
  have hz1 := hb.size
  refine ⟨?_, ?_, ?_, ?_, ?_, ?_, rd_of (n := rd w c 0) ?_, rd_of (n := rd w c 1) ?_, ?_, ?_, by omega, k11.trans (hb.mono hz)⟩
  · rw [hb.cell (p := ⟨p, 0, none⟩) (by show p < _; omega)]; exact k0
  · rw [hb.cell (p := ⟨p, 1, none⟩) (by show p < _; omega)]; exact k1
  · rw [hb.cell (p := ⟨p, 2, none⟩) (by show p < _; omega)]; exact k2
  · rw [hb.cell (p := ⟨p, 3, none⟩) (by show p < _; omega)]; exact k3
  · rw [hb.cell (p := ⟨r, o, none⟩) (by show r < _; omega)]; exact k4
  · rw [hb.cell (p := ⟨r, o', none⟩) (by show r < _; omega)]; exact k5
  · rw [hb.cell (p := ⟨c, 0, none⟩) k10]; exact k6
  · rw [hb.cell (p := ⟨c, 1, none⟩) k10]; exact k7
  · rw [hb.frozen (p := ⟨c, 0, none⟩) k10]; exact k8
  · rw [hb.frozen (p := ⟨c, 1, none⟩) k10]; exact k9
theorem Ki.set {W w : World} {p r o o' c : Nat} {p0 p1 p2 p3 x y : Int} (k : Ki W p r o o' c p0 p1 p2 p3 x y w) (hp : p < W.heap.size) (hr : r < W.heap.size) (hc : W.heap.size ≤ c) (u v : Int) : Ki W p r o o' c p0 p1 p2 p3 x y ((w.setCell ⟨c, 0, none⟩ (.int .i64 u)).setCell ⟨c, 1, none⟩ (.int .i64 v)) := by
  obtain ⟨k0, k1, k2, k3, k4, k5, k6, k7, k8, k9, k10, k11⟩ := k
  have n1 : p ≠ c := by omega
  have n2 : r ≠ c := by omega
  refine ⟨?_, ?_, ?_, ?_, ?_, ?_, rd_of (n := u) ?_, rd_of (n := v) ?_, ?_, ?_, by simpa using k10, (k11.setCell hc _).setCell hc _⟩
  all_goals simp [go_sem, k0, k1, k2, k3, k4, k5, k6, k7, k8, k9, n1, n2, Ne.symm n1, Ne.symm n2]

set_option maxRecDepth 100000 in
set_option maxHeartbeats 1000000 in
theorem inRow_any (p t : Nat) (f s al : Int) (A : Option Addr) (c : Nat) (xs : List Int) (w : World) (hp : p < w.heap.size) (hx : IntsIn w.heap.size A xs w) (ht : t + 1 < xs.length)
    (c0 : w.cell? ⟨p, 0, none⟩ = some (.int .i64 t)) (c1 : w.cell? ⟨p, 1, none⟩ = some (.int .i64 f)) (c2 : w.cell? ⟨p, 2, none⟩ = some (.int .i64 s)) (c3 : w.cell? ⟨p, 3, none⟩ = some (.int .i64 al))
    (hd : 0 < al) (hd1 : al ≤ 9000000000000000000)
    (m1 : -4000000000000000000 ≤ f * nth xs t ∧ f * nth xs t ≤ 4000000000000000000) (m2 : -4000000000000000000 ≤ s * nth xs (t+1) ∧ s * nth xs (t+1) ≤ 4000000000000000000) :
    Calls Try.prog 105 #[.slice A xs.length c, .pointer (some ⟨p, 0, none⟩)] w fun e w' => e = .returned (encl ((f * nth xs t + s * nth xs (t+1)) / al) (upD (f * nth xs t + s * nth xs (t+1)) al)) ∧ Own w.heap.size w w' := by
  have hm := hx.1
  unfold maxLen at hm
  obtain ⟨r, o, rfl, hr, hc⟩ := hx.2 (by omega)
  have e1 := hc t (by omega)
  have e2 := hc (t + 1) ht
  clear hc hx
  have bt := fun W => between_any t f s al (nth xs t) (nth xs t) (nth xs (t+1)) (nth xs (t+1)) W hd hd1 m1 m2 m1 m2
  have BT := Lib.hid bt
  clear bt m1 m2
  generalize nth xs t = x at *
  generalize nth xs (t + 1) = y at *
  have own0 : Own w.heap.size w (w.alloc (.cells #[.int .i64 0, .int .i64 0] 35)) := (Own.refl _ _).alloc (Nat.le_refl _) _
  have hS : Ki w p r (o + t) (o + (t + 1)) w.heap.size t f s al x y (w.alloc (.cells #[.int .i64 0, .int .i64 0] 35)) := by
    have n1 : p ≠ w.heap.size := by omega
    have n2 : r ≠ w.heap.size := by omega
    refine ⟨?_, ?_, ?_, ?_, ?_, ?_, rd_of (n := 0) ?_, rd_of (n := 0) ?_, ?_, ?_, by simp, own0⟩
    all_goals simp [go_sem, c0, c1, c2, c3, e1, e2, n1, n2, hp, hr]
    all_goals first | exact e2 | exact e1 | skip
  have ew : IntKind.i64.wrap ((t : Int) + 1) = (t : Int) + 1 := IntWalk.i64_in _ (by omega)
  have ew0 : (0 : Int) ≤ (t : Int) + 1 := by omega
  have ew1 : ((t : Int) + 1).toNat = t + 1 := by omega
  have lt1 : (t : Int) + 1 < (xs.length : Int) := by omega
  have lt0 : (t : Int) < (xs.length : Int) := by omega
  have lt00 : (0 : Int) ≤ (t : Int) := by omega
  clear c0 c1 c2 c3 e1 e2
  go_enter Try.func105, Try.ntmps105
  go_wp2_with fail
  generalize w.alloc (.cells #[.int .i64 0, .int .i64 0] 35) = W0 at *
  go_region_held3 (fun w' => w'.cell? ⟨p, 0, none⟩ = some (.int .i64 t) ∧ w'.cell? ⟨p, 1, none⟩ = some (.int .i64 f) ∧ w'.cell? ⟨p, 2, none⟩ = some (.int .i64 s) ∧ w'.cell? ⟨p, 3, none⟩ = some (.int .i64 al) ∧ w'.cell? ⟨r, o + t, none⟩ = some (.int .i64 x) ∧ w'.cell? ⟨r, o + (t + 1), none⟩ = some (.int .i64 y) ∧ w'.cell? ⟨w.heap.size, 0, none⟩ = some (.int .i64 (rd w' w.heap.size 0)) ∧ w'.cell? ⟨w.heap.size, 1, none⟩ = some (.int .i64 (rd w' w.heap.size 1)) ∧ w'.frozen? ⟨w.heap.size, 0, none⟩ = false ∧ w'.frozen? ⟨w.heap.size, 1, none⟩ = false ∧ w.heap.size < w'.heap.size ∧ Own w.heap.size w w')
    (first | exact Ki.call hS hp hr (Own.refl _ _).drew | exact Ki.call (by assumption) hp hr hbq | exact Ki.set (by assumption) hp hr (Nat.le_refl _) _ _ | fail)
    (first | (go_at_call 89; with_reducible refine (only_any _ _).mono ?_; rintro e wq ⟨rfl, hbq⟩) | (go_at_call 106; with_reducible refine (BT.out _).mono ?_; rintro e wq ⟨rfl, hbq⟩))
  go_wp2_with fail
  obtain ⟨_, _, _, _, _, _, k6, k7, _, _, _, k11⟩ := (((hS.call hp hr (Own.refl _ _).drew).call hp hr (by assumption)).call hp hr (by assumption)).call hp hr hbq
  refine bodyPost_ret (v := encl ((f * x + s * y) / al) (upD (f * x + s * y) al)) (by simp [results, Try.results105, go_sem, k6, k7]) rfl ⟨rfl, ?_⟩
  refine Own.setCell (Own.setCell k11 ?_ _) ?_ _ <;> simp
end Go.Proofs.Ytgmpipciinphiaa
