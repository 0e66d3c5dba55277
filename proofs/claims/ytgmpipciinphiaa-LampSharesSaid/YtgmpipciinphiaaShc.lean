/- Share of the code: the least and the greatest value around a field; what a field adds. -/
import Derived.Test.YtgmpipciinphiaaShb
import Derived.Deep.LoopGhost
namespace Go.Proofs.Ytgmpipciinphiaa
set_option linter.unusedSimpArgs false
set_option linter.unusedVariables false
open Go.RowKit
attribute [local go_sem ↓] Go.wp_at_zero Go.wp_at_succ

/-- what the loops of fieldShare keep: the table's lists, the sum, the values -/
structure FsK (t : Tab) (g : Nat) (mn mx lo hi : Int) (w W : World) : Prop where
  x1 : W.cell? ⟨w.heap.size, 1, none⟩ = some (.slice t.us.a t.us.xs.length t.us.c)
  x2 : W.cell? ⟨w.heap.size, 2, none⟩ = some (.slice t.vs.a t.vs.xs.length t.vs.c)
  x3 : W.cell? ⟨w.heap.size, 3, none⟩ = some (.slice t.ra t.rows.length t.rc)
  r : Bq (w.heap.size + 1) lo hi W
  v : Bq g mn mx W
  b : Below w.heap.size w W
  gl : w.heap.size + 1 < g
theorem FsK.call {t : Tab} {g : Nat} {mn mx lo hi : Int} {w W W1 : World} (k : FsK t g mn mx lo hi w W) (h : Below W.heap.size W W1) : FsK t g mn mx lo hi w W1 := by
  have hl := k.r.lt
  exact ⟨by rw [h.cell (p := ⟨w.heap.size, 1, none⟩) (by show w.heap.size < _; omega)]; exact k.x1, by rw [h.cell (p := ⟨w.heap.size, 2, none⟩) (by show w.heap.size < _; omega)]; exact k.x2, by rw [h.cell (p := ⟨w.heap.size, 3, none⟩) (by show w.heap.size < _; omega)]; exact k.x3, k.r.below h, k.v.below h, k.b.trans (h.mono (by omega)), k.gl⟩
theorem FsK.put {t : Tab} {g : Nat} {mn mx lo hi : Int} {w W : World} (k : FsK t g mn mx lo hi w W) (lo' hi' : Int) : FsK t g mn mx lo' hi' w ((W.setCell ⟨w.heap.size + 1, 0, none⟩ (.int .i64 lo')).setCell ⟨w.heap.size + 1, 1, none⟩ (.int .i64 hi')) := by
  have hl := k.gl
  have ne : w.heap.size ≠ w.heap.size + 1 := by omega
  refine ⟨?_, ?_, ?_, k.r.set _ _, k.v.other (by omega) _ _, (k.b.setCell (p := ⟨w.heap.size + 1, 0, none⟩) (by show w.heap.size ≤ w.heap.size + 1; omega) _).setCell (p := ⟨w.heap.size + 1, 1, none⟩) (by show w.heap.size ≤ w.heap.size + 1; omega) _, hl⟩ <;> simp [go_sem, k.x1, k.x2, k.x3, ne]

theorem add_any (a b c d : Int) (w : World) (h0 : -4000000000000000000 ≤ a + c ∧ a + c ≤ 4000000000000000000) (h1 : -4000000000000000000 ≤ b + d ∧ b + d ≤ 4000000000000000000) :
    Calls Try.prog 55 #[.agg #[.int .i64 a, .int .i64 b], .agg #[.int .i64 c, .int .i64 d]] w fun e w' => e = .returned (.agg #[.int .i64 (a + c), .int .i64 (b + d)]) ∧ Own w.heap.size w w' := by
  obtain ⟨h0, h0'⟩ := h0
  obtain ⟨h1, h1'⟩ := h1
  have e0 : IntKind.i64.wrap (a + c) = a + c := IntWalk.i64_in _ (by omega)
  have e1 : IntKind.i64.wrap (b + d) = b + d := IntWalk.i64_in _ (by omega)
  clear h0 h0' h1 h1'
  go_enter Try.func55, Try.ntmps55
  go_wp2_with fail
  refine bodyPost_ret (v := .agg #[.int .i64 (a + c), .int .i64 (b + d)]) (by simp [results, Try.results55, go_sem, e0, e1]) rfl ⟨rfl, ?_⟩
  exact (((Own.refl _ _).alloc (Nat.le_refl _) _).alloc (by simp) _).alloc (by simp; omega) _

theorem join3r (l h x0 y0 x1 y1 x2 y2 : Int) (g : Nat) (w : World) (hg : g < w.heap.size) (c0 : w.cell? ⟨g, 0, none⟩ = some (.int .i64 x0)) (c1 : w.cell? ⟨g, 1, none⟩ = some (.int .i64 y0))
    (c2 : w.cell? ⟨g, 2, none⟩ = some (.int .i64 x1)) (c3 : w.cell? ⟨g, 3, none⟩ = some (.int .i64 y1)) (c4 : w.cell? ⟨g, 4, none⟩ = some (.int .i64 x2)) (c5 : w.cell? ⟨g, 5, none⟩ = some (.int .i64 y2)) :
    Calls Try.prog 87 #[.agg #[.int .i64 l, .int .i64 h], .slice (some ⟨g, 0, none⟩) 3 3] w fun e w' => e = .returned (.agg #[.int .i64 (min l (min x0 (min x1 x2))), .int .i64 (max h (max y0 (max y1 y2)))]) ∧ Own w.heap.size w w' := by
  have h1 := join3 l h x0 y0 x1 y1 x2 y2 g w hg c0 c1 c2 c3 c4 c5
  rw [show min (min (min l x0) x1) x2 = min l (min x0 (min x1 x2)) by omega, show max (max (max h y0) y1) y2 = max h (max y0 (max y1 y2)) by omega] at h1
  exact h1

set_option maxRecDepth 100000 in
set_option maxHeartbeats 8000000 in
theorem fieldShare_any (t : Tab) (i k s : Nat) (w : World) (ok : TabOk t) (hu : IntsIn w.heap.size t.us.a t.us.xs w) (hv : IntsIn w.heap.size t.vs.a t.vs.xs w) (hr : RowsIn w.heap.size t.ra t.rows w) (hi : i + 1 < t.us.xs.length) (hk : k + 1 < t.vs.xs.length) (hs : 0 < s) (hs4 : s ≤ 4) :
    Calls Try.prog 56 #[.agg #[.string t.name, .slice t.us.a t.us.xs.length t.us.c, .slice t.vs.a t.vs.xs.length t.vs.c, .slice t.ra t.rows.length t.rc, .int .i64 t.side, .int .i64 t.sky], .int .i64 i, .int .i64 k, .int .i64 s] w fun e w' => e = .returned (.agg #[.int .i64 (feLo t s i k), .int .i64 (feHi t s i k)]) ∧ Below w.heap.size w w' := by
  have OK := Lib.hid ok
  have HU := Lib.hid hu
  have HV := Lib.hid hv
  have HI := Lib.hid hi
  have HK := Lib.hid hk
  obtain ⟨mm0, mm1, mm2⟩ := m4_bd ok hi hk
  have HMN : Hid (mn4 t i k = min (tval t i k) (min (tval t i (k + 1)) (min (tval t (i + 1) k) (tval t (i + 1) (k + 1))))) := by show mn4 t i k = _; unfold mn4; omega
  have HMX : Hid (mx4 t i k = max (tval t i k) (max (tval t i (k + 1)) (max (tval t (i + 1) k) (tval t (i + 1) (k + 1))))) := by show mx4 t i k = _; unfold mx4; omega
  have n1 := ok.us.n1
  have n2 := ok.vs.n1
  have hlr := ok.rows
  obtain ⟨rb, ro, hra, hrb, hrc⟩ := hr.2 (by omega)
  obtain ⟨r0, r0i⟩ := hrc i (by omega)
  obtain ⟨r1, r1i⟩ := hrc (i + 1) (by omega)
  have rl0 := ok.row i (by omega)
  have rl1 := ok.row (i + 1) (by omega)
  obtain ⟨xb, xo, hxa, hxb, hxc⟩ := r0i.2 (by omega)
  obtain ⟨yb, yo, hya, hyb, hyc⟩ := r1i.2 (by omega)
  have c0 : w.cell? ⟨xb, xo + k, none⟩ = some (.int .i64 (tval t i k)) := hxc k (by omega)
  have c1 : w.cell? ⟨xb, xo + (k + 1), none⟩ = some (.int .i64 (tval t i (k + 1))) := hxc (k + 1) (by omega)
  have c2 : w.cell? ⟨yb, yo + k, none⟩ = some (.int .i64 (tval t (i + 1) k)) := hyc k (by omega)
  have c3 : w.cell? ⟨yb, yo + (k + 1), none⟩ = some (.int .i64 (tval t (i + 1) (k + 1))) := hyc (k + 1) (by omega)
  generalize tval t i k = p0 at *
  generalize tval t i (k + 1) = p1 at *
  generalize tval t (i + 1) k = p2 at *
  generalize tval t (i + 1) (k + 1) = p3 at *
  unfold Ints.val at r0 r1
  rw [hxa, rl0] at r0
  rw [hya, rl1] at r1
  have HEQ := Lib.hid (And.intro hra hlr)
  have N0 := Lib.hid (fun W => only_any p0 W)
  have N1 := Lib.hid (fun W => only_any p1 W)
  have N2 := Lib.hid (fun W => only_any p2 W)
  have N3 := Lib.hid (fun W => only_any p3 W)
  have HJ := Lib.hid (fun (g : Nat) (W : World) (hg : g < W.heap.size) (d0 : W.cell? ⟨g, 0, none⟩ = some (.int .i64 p1)) (d1 : W.cell? ⟨g, 1, none⟩ = some (.int .i64 p1)) (d2 : W.cell? ⟨g, 2, none⟩ = some (.int .i64 p2)) (d3 : W.cell? ⟨g, 3, none⟩ = some (.int .i64 p2)) (d4 : W.cell? ⟨g, 4, none⟩ = some (.int .i64 p3)) (d5 : W.cell? ⟨g, 5, none⟩ = some (.int .i64 p3)) => join3r p0 p0 p1 p1 p2 p2 p3 p3 g W hg d0 d1 d2 d3 d4 d5)
  have e1 : IntKind.i64.wrap ((i : Int) + 1) = (i : Int) + 1 := IntWalk.i64_in _ (by omega)
  have e2 : ((i : Int) + 1).toNat = i + 1 := by omega
  have e3 : (0 : Int) ≤ (i : Int) + 1 := by omega
  have e4 : (i : Int) + 1 < (t.us.xs.length : Int) := by omega
  have e5 : (i : Int) < (t.us.xs.length : Int) := by omega
  have e6 : (0 : Int) ≤ (i : Int) := by omega
  have f1 : IntKind.i64.wrap ((k : Int) + 1) = (k : Int) + 1 := IntWalk.i64_in _ (by omega)
  have f2 : ((k : Int) + 1).toNat = k + 1 := by omega
  have f3 : (0 : Int) ≤ (k : Int) + 1 := by omega
  have f4 : (k : Int) + 1 < (t.vs.xs.length : Int) := by omega
  have f5 : (k : Int) < (t.vs.xs.length : Int) := by omega
  have f6 : (0 : Int) ≤ (k : Int) := by omega
  have bw0 : Below w.heap.size w ((w.alloc (.cells #[.string t.name, .slice t.us.a t.us.xs.length t.us.c, .slice t.vs.a t.vs.xs.length t.vs.c, .slice t.ra t.rows.length t.rc, .int .i64 t.side, .int .i64 t.sky] 61)).alloc (.cells #[.int .i64 0, .int .i64 0] 35)) := ((Below.refl _ _).alloc (Nat.le_refl _) _).alloc (by simp) _
  have k1 : ((w.alloc (.cells #[.string t.name, .slice t.us.a t.us.xs.length t.us.c, .slice t.vs.a t.vs.xs.length t.vs.c, .slice t.ra t.rows.length t.rc, .int .i64 t.side, .int .i64 t.sky] 61)).alloc (.cells #[.int .i64 0, .int .i64 0] 35)).cell? ⟨w.heap.size, 1, none⟩ = some (.slice t.us.a t.us.xs.length t.us.c) := by simp [go_sem]
  have k2 : ((w.alloc (.cells #[.string t.name, .slice t.us.a t.us.xs.length t.us.c, .slice t.vs.a t.vs.xs.length t.vs.c, .slice t.ra t.rows.length t.rc, .int .i64 t.side, .int .i64 t.sky] 61)).alloc (.cells #[.int .i64 0, .int .i64 0] 35)).cell? ⟨w.heap.size, 2, none⟩ = some (.slice t.vs.a t.vs.xs.length t.vs.c) := by simp [go_sem]
  have k3' : ((w.alloc (.cells #[.string t.name, .slice t.us.a t.us.xs.length t.us.c, .slice t.vs.a t.vs.xs.length t.vs.c, .slice t.ra t.rows.length t.rc, .int .i64 t.side, .int .i64 t.sky] 61)).alloc (.cells #[.int .i64 0, .int .i64 0] 35)).cell? ⟨w.heap.size, 3, none⟩ = some (.slice t.ra t.rows.length t.rc) := by simp [go_sem]
  have K3 := Lib.hid k3'
  have k3 : ((w.alloc (.cells #[.string t.name, .slice t.us.a t.us.xs.length t.us.c, .slice t.vs.a t.vs.xs.length t.vs.c, .slice t.ra t.rows.length t.rc, .int .i64 t.side, .int .i64 t.sky] 61)).alloc (.cells #[.int .i64 0, .int .i64 0] 35)).cell? ⟨w.heap.size, 3, none⟩ = some (.slice (some ⟨rb, ro, none⟩) t.us.xs.length t.rc) := by rw [k3', hra, hlr]
  have bz : Bq (w.heap.size + 1) 0 0 ((w.alloc (.cells #[.string t.name, .slice t.us.a t.us.xs.length t.us.c, .slice t.vs.a t.vs.xs.length t.vs.c, .slice t.ra t.rows.length t.rc, .int .i64 t.side, .int .i64 t.sky] 61)).alloc (.cells #[.int .i64 0, .int .i64 0] 35)) := Bq.freshAt (by simp) 0 0 _
  have g0 : ((w.alloc (.cells #[.string t.name, .slice t.us.a t.us.xs.length t.us.c, .slice t.vs.a t.vs.xs.length t.vs.c, .slice t.ra t.rows.length t.rc, .int .i64 t.side, .int .i64 t.sky] 61)).alloc (.cells #[.int .i64 0, .int .i64 0] 35)).cell? ⟨rb, ro + i, none⟩ = some (.slice (some ⟨xb, xo, none⟩) t.vs.xs.length (rowAt t.rows i).c) := by rw [bw0.cell (p := ⟨rb, ro + i, none⟩) hrb]; exact r0
  have g1 : ((w.alloc (.cells #[.string t.name, .slice t.us.a t.us.xs.length t.us.c, .slice t.vs.a t.vs.xs.length t.vs.c, .slice t.ra t.rows.length t.rc, .int .i64 t.side, .int .i64 t.sky] 61)).alloc (.cells #[.int .i64 0, .int .i64 0] 35)).cell? ⟨rb, ro + (i + 1), none⟩ = some (.slice (some ⟨yb, yo, none⟩) t.vs.xs.length (rowAt t.rows (i + 1)).c) := by rw [bw0.cell (p := ⟨rb, ro + (i + 1), none⟩) hrb]; exact r1
  have PV := Lib.hid (show ∀ Wz : World, Below w.heap.size w Wz → (Wz.cell? ⟨xb, xo + k, none⟩ = some (.int .i64 p0) ∧ Wz.cell? ⟨xb, xo + (k + 1), none⟩ = some (.int .i64 p1) ∧ Wz.cell? ⟨yb, yo + k, none⟩ = some (.int .i64 p2) ∧ Wz.cell? ⟨yb, yo + (k + 1), none⟩ = some (.int .i64 p3)) from fun Wz hz =>
    ⟨by rw [hz.cell (p := ⟨xb, xo + k, none⟩) hxb]; exact c0, by rw [hz.cell (p := ⟨xb, xo + (k + 1), none⟩) hxb]; exact c1, by rw [hz.cell (p := ⟨yb, yo + k, none⟩) hyb]; exact c2, by rw [hz.cell (p := ⟨yb, yo + (k + 1), none⟩) hyb]; exact c3⟩)
  have sz0 : ((w.alloc (.cells #[.string t.name, .slice t.us.a t.us.xs.length t.us.c, .slice t.vs.a t.vs.xs.length t.vs.c, .slice t.ra t.rows.length t.rc, .int .i64 t.side, .int .i64 t.sky] 61)).alloc (.cells #[.int .i64 0, .int .i64 0] 35)).heap.size = w.heap.size + 1 + 1 := by simp
  have SZ := Lib.hid sz0
  have BW0 := Lib.hid bw0
  have BZ := Lib.hid bz
  clear sz0 bw0 bz k3' hra hlr r0 r1 hrc r0i r1i rl0 rl1 hxa hya hxc hyc hu hv hr c0 c1 c2 c3 ok hi hk hrb hxb hyb
  go_enter Try.func56, Try.ntmps56
  go_wp2_with fail
  generalize ((w.alloc (.cells #[.string t.name, .slice t.us.a t.us.xs.length t.us.c, .slice t.vs.a t.vs.xs.length t.vs.c, .slice t.ra t.rows.length t.rc, .int .i64 t.side, .int .i64 t.sky] 61)).alloc (.cells #[.int .i64 0, .int .i64 0] 35)) = W0 at *
  go_quiet (fail)
  have OD := ((Own.refl W0.heap.size W0).drewN nq).below
  have KW : Hid (Below w.heap.size w (W0.drewN nq) ∧ (W0.drewN nq).heap.size = w.heap.size + 1 + 1 ∧ (W0.drewN nq).cell? ⟨w.heap.size, 1, none⟩ = some (.slice t.us.a t.us.xs.length t.us.c) ∧ (W0.drewN nq).cell? ⟨w.heap.size, 2, none⟩ = some (.slice t.vs.a t.vs.xs.length t.vs.c) ∧ (W0.drewN nq).cell? ⟨w.heap.size, 3, none⟩ = some (.slice t.ra t.rows.length t.rc) ∧ Bq (w.heap.size + 1) 0 0 (W0.drewN nq)) :=
    Lib.hid ⟨BW0.out.trans (OD.mono BW0.out.size), SZ.out, k1, k2, K3.out, BZ.out.below OD⟩
  clear OD k1 k2 k3 g0 g1 K3
  generalize W0.drewN nq = W1 at *
  have KF := Lib.hid (show ∀ Wz : World, Below W1.heap.size W1 Wz → (Wz.cell? ⟨xb, xo + k, none⟩ = some (.int .i64 p0) ∧ Wz.cell? ⟨xb, xo + (k + 1), none⟩ = some (.int .i64 p1) ∧ Wz.cell? ⟨yb, yo + k, none⟩ = some (.int .i64 p2) ∧ Wz.cell? ⟨yb, yo + (k + 1), none⟩ = some (.int .i64 p3)) from fun Wz hz => PV.out Wz (KW.out.1.trans (hz.mono KW.out.1.size)))
  obtain ⟨h0, h1, h2, h3⟩ := KF.out W1 (Below.refl _ _)
  go_upto_region 2 with fail
  go_cut [11] (fun s11 wx => ∃ g : Nat, s11 = .pointer (some ⟨g, 0, none⟩) ∧ W1.heap.size ≤ g ∧ Bq g (min p0 (min p1 (min p2 p3))) (max p0 (max p1 (max p2 p3))) wx ∧ Below W1.heap.size W1 wx)
  case first =>
    go_region_held3 (fun w' => w'.cell? ⟨xb, xo + k, none⟩ = some (.int .i64 p0) ∧ w'.cell? ⟨xb, xo + (k + 1), none⟩ = some (.int .i64 p1) ∧ w'.cell? ⟨yb, yo + k, none⟩ = some (.int .i64 p2) ∧ w'.cell? ⟨yb, yo + (k + 1), none⟩ = some (.int .i64 p3))
      ((refine KF.out _ ?_; ((repeat' (first | (with_reducible exact Below.refl _ _) | (with_reducible refine Below.drew ?_) | (with_reducible refine Below.alloc ?_ ?_ _) | (with_reducible refine Below.setCell ?_ ?_ _) | (with_reducible refine Below.trans ?_ (hba.mono ?_)) | (with_reducible refine Below.trans ?_ (hbb.mono ?_)) | (with_reducible refine Below.trans ?_ (hbc.mono ?_)) | (with_reducible refine Below.trans ?_ (hbd.mono ?_)) | (with_reducible refine Below.trans ?_ (hbj.mono ?_)))); all_goals (first | (simp; done) | (simp; omega) | omega))))
      (first | (go_at_call 89; with_reducible refine Calls.mono (N0.out _) ?_; rintro e wa ⟨rfl, oba⟩; have hba := oba.below; have hca := (bcb hba).1; have hfa := (bcb hba).2; have hza := hba.size; (try simp only [World.size_drew] at hca hfa); (try simp at hza); (try have ga0a : W1.heap.size < wa.heap.size := by omega); (try have ga0b : W1.heap.size ≠ wa.heap.size := by omega); (try have ga0c : W1.heap.size ≤ wa.heap.size := by omega)) | (go_at_call 89; with_reducible refine Calls.mono (N1.out _) ?_; rintro e wb ⟨rfl, obb⟩; have hbb := obb.below; have hcb := (bcb hbb).1; have hfb := (bcb hbb).2; have hzb := hbb.size; (try simp only [World.size_drew] at hcb hfb); (try simp at hzb); (try have gb0a : W1.heap.size < wb.heap.size := by omega); (try have gb0b : W1.heap.size ≠ wb.heap.size := by omega); (try have gb0c : W1.heap.size ≤ wb.heap.size := by omega); (try have gb1a : wa.heap.size < wb.heap.size := by omega); (try have gb1b : wa.heap.size ≠ wb.heap.size := by omega); (try have gb1c : wa.heap.size ≤ wb.heap.size := by omega)) | (go_at_call 89; with_reducible refine Calls.mono (N2.out _) ?_; rintro e wc ⟨rfl, obc⟩; have hbc := obc.below; have hcc := (bcb hbc).1; have hfc := (bcb hbc).2; have hzc := hbc.size; (try simp only [World.size_drew] at hcc hfc); (try simp at hzc); (try have gc0a : W1.heap.size < wc.heap.size := by omega); (try have gc0b : W1.heap.size ≠ wc.heap.size := by omega); (try have gc0c : W1.heap.size ≤ wc.heap.size := by omega); (try have gc1a : wa.heap.size < wc.heap.size := by omega); (try have gc1b : wa.heap.size ≠ wc.heap.size := by omega); (try have gc1c : wa.heap.size ≤ wc.heap.size := by omega); (try have gc2a : wb.heap.size < wc.heap.size := by omega); (try have gc2b : wb.heap.size ≠ wc.heap.size := by omega); (try have gc2c : wb.heap.size ≤ wc.heap.size := by omega)) | (go_at_call 89; with_reducible refine Calls.mono (N3.out _) ?_; rintro e wd ⟨rfl, obd⟩; have hbd := obd.below; have hcd := (bcb hbd).1; have hfd := (bcb hbd).2; have hzd := hbd.size; (try simp only [World.size_drew] at hcd hfd); (try simp at hzd); (try have gd0a : W1.heap.size < wd.heap.size := by omega); (try have gd0b : W1.heap.size ≠ wd.heap.size := by omega); (try have gd0c : W1.heap.size ≤ wd.heap.size := by omega); (try have gd1a : wa.heap.size < wd.heap.size := by omega); (try have gd1b : wa.heap.size ≠ wd.heap.size := by omega); (try have gd1c : wa.heap.size ≤ wd.heap.size := by omega); (try have gd2a : wb.heap.size < wd.heap.size := by omega); (try have gd2b : wb.heap.size ≠ wd.heap.size := by omega); (try have gd2c : wb.heap.size ≤ wd.heap.size := by omega); (try have gd3a : wc.heap.size < wd.heap.size := by omega); (try have gd3b : wc.heap.size ≠ wd.heap.size := by omega); (try have gd3c : wc.heap.size ≤ wd.heap.size := by omega)) | (go_at_call 87; (refine Calls.mono (HJ.out _ _ ?_ ?_ ?_ ?_ ?_ ?_ ?_) ?_); (focus (first | (simp; done) | (simp at hzd ⊢; omega))); (focus (simp [go_sem, hcd])); (focus (simp [go_sem, hcd])); (focus (simp [go_sem, hcd])); (focus (simp [go_sem, hcd])); (focus (simp [go_sem, hcd])); (focus (simp [go_sem, hcd])); rintro e wj ⟨rfl, obj⟩; have hbj := obj.below; have hcj := (bcb hbj).1; have hfj := (bcb hbj).2; have hzj := hbj.size; (try simp only [World.size_drew] at hcj hfj); (try simp at hzj); (try have gj0a : W1.heap.size < wj.heap.size := by omega); (try have gj0b : W1.heap.size ≠ wj.heap.size := by omega); (try have gj0c : W1.heap.size ≤ wj.heap.size := by omega); (try have gj1a : wa.heap.size < wj.heap.size := by omega); (try have gj1b : wa.heap.size ≠ wj.heap.size := by omega); (try have gj1c : wa.heap.size ≤ wj.heap.size := by omega); (try have gj2a : wb.heap.size < wj.heap.size := by omega); (try have gj2b : wb.heap.size ≠ wj.heap.size := by omega); (try have gj2c : wb.heap.size ≤ wj.heap.size := by omega); (try have gj3a : wc.heap.size < wj.heap.size := by omega); (try have gj3b : wc.heap.size ≠ wj.heap.size := by omega); (try have gj3c : wc.heap.size ≤ wj.heap.size := by omega); (try have gj4a : wd.heap.size < wj.heap.size := by omega); (try have gj4b : wd.heap.size ≠ wj.heap.size := by omega); (try have gj4c : wd.heap.size ≤ wj.heap.size := by omega)))
    all_goals go_wp2_with fail
    all_goals go_meet
    all_goals
      case rel =>
        refine ⟨_, rfl, ?_, ?_, ?_⟩
        · first | (simp; done) | omega | (simp; omega)
        · (repeat' (first | ((with_reducible refine Bq.freshAt ?_ _ _ _); focus (simp; done)) | (with_reducible refine Bq.alloc ?_ _) | (with_reducible refine Bq.drew ?_) | (with_reducible refine Bq.below ?_ hba) | (with_reducible refine Bq.below ?_ hbb) | (with_reducible refine Bq.below ?_ hbc) | (with_reducible refine Bq.below ?_ hbd) | (with_reducible refine Bq.below ?_ hbj) | (with_reducible refine Bq.set (x := 0) (y := 0) ?_ _ _) | ((with_reducible refine Bq.other ?_ ?_ _ _); rotate_left; focus (first | omega | (simp; omega)))))
        · ((repeat' (first | (with_reducible exact Below.refl _ _) | (with_reducible refine Below.drew ?_) | (with_reducible refine Below.alloc ?_ ?_ _) | (with_reducible refine Below.setCell ?_ ?_ _) | (with_reducible refine Below.trans ?_ (hba.mono ?_)) | (with_reducible refine Below.trans ?_ (hbb.mono ?_)) | (with_reducible refine Below.trans ?_ (hbc.mono ?_)) | (with_reducible refine Below.trans ?_ (hbd.mono ?_)) | (with_reducible refine Below.trans ?_ (hbj.mono ?_)))); all_goals (first | (simp; done) | (simp; omega) | omega))
  case rest =>
    obtain ⟨g, rfl, hg, bv, bx⟩ := hcut
    rw [← HMN.out, ← HMX.out] at bv
    have FS0 : Hid (FsK t g (mn4 t i k) (mx4 t i k) 0 0 w wc) := Lib.hid (by
      obtain ⟨q1, q2, q3, q4, q5, q6⟩ := KW.out
      have hb := Below.trans (B := w.heap.size) q1 (bx.mono q1.size)
      have lt1 : w.heap.size < W1.heap.size := by omega
      exact ⟨by rw [bx.cell (p := ⟨w.heap.size, 1, none⟩) lt1]; exact q3, by rw [bx.cell (p := ⟨w.heap.size, 2, none⟩) lt1]; exact q4, by rw [bx.cell (p := ⟨w.heap.size, 3, none⟩) lt1]; exact q5, q6.below bx, bv, hb, by omega⟩)
    clear bv bx hg h0 h1 h2 h3 KF KW PV BW0 BZ SZ N0 N1 N2 N3 HJ HMN HMX HEQ e1 e2 e3 e4 f1 f2 f3 f4
    obtain ⟨mn, hmn⟩ : ∃ mn, mn4 t i k = mn := ⟨_, rfl⟩
    obtain ⟨mx, hmx⟩ : ∃ mx, mx4 t i k = mx := ⟨_, rfl⟩
    rw [hmn, hmx] at FS0 mm1
    rw [hmn] at mm0
    rw [hmx] at mm2
    have HMM := Lib.hid (And.intro hmn hmx)
    clear hmn hmx
    go_wp2_with fail
    go_loopg [51] s (fun n i' wr => ∃ a : Nat, a ≤ s ∧ n = s - a ∧ i' = .int .i64 a ∧ Hid (FsK t g mn mx (sm (fun a => sm (ptLo t s i k a) s) a) (sm (fun a => sm (ptHi t s i k a) s) a) w wr))
    case atStart => exact ⟨0, by omega, by omega, rfl, FS0⟩
    case round =>
      clear FS0
      obtain ⟨a, ha, hn0, rfl, FS⟩ := hrel
      have HN := Lib.hid hn0
      clear hn0
      by_cases hlt : a < s
      · obtain ⟨y1, y2, _, _, _, _, _⟩ := FS.out
        have PU := Lib.hid (partOf_any t.us.a t.us.c t.us.xs i a s wr ((HU.out.keep FS.out.b (Nat.le_refl _)).more FS.out.b.size) OK.out.us HI.out hs hs4 hlt)
        have hlt' : (a : Int) < (s : Int) := by omega
        have pu := cut_part OK.out.us HI.out hs (Nat.le_succ a) hlt
        obtain ⟨u0, hu0⟩ : ∃ u0, cutU t.us.xs i s a = u0 := ⟨_, rfl⟩
        obtain ⟨u1, hu1⟩ : ∃ u1, cutU t.us.xs i s (a + 1) = u1 := ⟨_, rfl⟩
        rw [hu0, hu1] at PU
        have HUU := Lib.hid (And.intro hu0 hu1)
        have PU2 : Hid (Part u0 u1) := Lib.hid (by rw [← hu0, ← hu1]; exact pu)
        clear pu hu0 hu1
        go_wp2_with fail
        with_reducible refine Calls.mono PU.out ?_
        rintro e w1 ⟨rfl, o1⟩
        have FS1 := Lib.hid ((FS.out.call o1.below).call (below_new w1 (.cells #[.int .i64 u0, .int .i64 u1] 115)))
        have BG1 := Lib.hid (Bq.fresh w1 u0 u1 115)
        have gG : Hid (w.heap.size + 1 < w1.heap.size ∧ g < w1.heap.size) := Lib.hid ⟨(FS.out.call o1.below).r.lt, (FS.out.call o1.below).v.lt⟩
        clear o1 PU y1 y2
        go_wp2_with fail
        generalize w1.alloc (.cells #[.int .i64 u0, .int .i64 u1] 115) = W2 at *
        generalize w1.heap.size = G at *
        go_loopg [61] s (fun n j' W' => ∃ b : Nat, b ≤ s ∧ n = s - b ∧ j' = .int .i64 b ∧ Hid (FsK t g mn mx (sm (fun a => sm (ptLo t s i k a) s) a + sm (ptLo t s i k a) b) (sm (fun a => sm (ptHi t s i k a) s) a + sm (ptHi t s i k a) b) w W') ∧ Hid (Bq G u0 u1 W'))
        case atStart => exact ⟨0, by omega, by omega, rfl, by simpa [sm] using FS1, BG1⟩
        case round =>
          clear FS1 BG1
          obtain ⟨b, hb, hn0, rfl, FZ, BG⟩ := hrel
          have HN2 := Lib.hid hn0
          clear hn0
          by_cases hlt2 : b < s
          · have hltb : (b : Int) < (s : Int) := by omega
            have KF := Lib.hid (show ∀ Wz : World, Below wr.heap.size wr Wz → (Wz.cell? ⟨g, 0, none⟩ = some (.int .i64 mn) ∧ Wz.cell? ⟨g, 1, none⟩ = some (.int .i64 mx) ∧ Wz.cell? ⟨G, 0, none⟩ = some (.int .i64 u0) ∧ Wz.cell? ⟨G, 1, none⟩ = some (.int .i64 u1) ∧ Wz.cell? ⟨w.heap.size, 2, none⟩ = some (.slice t.vs.a t.vs.xs.length t.vs.c)) from fun Wz hz => by
              have k1 := FZ.out.call hz
              have k2 := BG.out.below hz
              exact ⟨k1.v.c0, k1.v.c1, k2.c0, k2.c1, k1.x2⟩)
            have PV := Lib.hid (fun (Wz : World) (hz : Below wr.heap.size wr Wz) => partOf_any t.vs.a t.vs.c t.vs.xs k b s Wz ((HV.out.keep (FZ.out.call hz).b (Nat.le_refl _)).more (FZ.out.call hz).b.size) OK.out.vs HK.out hs hs4 hlt2)
            have pv := cut_part OK.out.vs HK.out hs (Nat.le_succ b) hlt2
            obtain ⟨v0, hv0⟩ : ∃ v0, cutU t.vs.xs k s b = v0 := ⟨_, rfl⟩
            obtain ⟨v1, hv1⟩ : ∃ v1, cutU t.vs.xs k s (b + 1) = v1 := ⟨_, rfl⟩
            rw [hv0, hv1] at PV pv
            have PS := Lib.hid (fun W => partShare_any mn mx u0 u1 v0 v1 W PU2.out pv mm0 mm1 mm2)
            have HPL : Hid (shLo mn u0 u1 v0 v1 = ptLo t s i k a b) := Lib.hid (by unfold ptLo; rw [HMM.out.1, HUU.out.1, HUU.out.2, hv0, hv1])
            have HPH : Hid (shHi mx u0 u1 v0 v1 = ptHi t s i k a b) := Lib.hid (by unfold ptHi; rw [HMM.out.2, HUU.out.1, HUU.out.2, hv0, hv1])
            rw [HPL.out, HPH.out] at PS
            obtain ⟨pt0, pt1, pt2⟩ := pt_bd OK.out HI.out HK.out hlt hlt2
            obtain ⟨pr0, pr1⟩ := pr_bd OK.out HI.out HK.out hlt hb hs4
            obtain ⟨pf0, pf1⟩ := pf_bd OK.out HI.out HK.out ha hs4
            have hsl : sm (ptLo t s i k a) (b + 1) = sm (ptLo t s i k a) b + ptLo t s i k a b := rfl
            have hsh : sm (ptHi t s i k a) (b + 1) = sm (ptHi t s i k a) b + ptHi t s i k a b := rfl
            obtain ⟨L, hL⟩ : ∃ L, sm (fun a => sm (ptLo t s i k a) s) a + sm (ptLo t s i k a) b = L := ⟨_, rfl⟩
            obtain ⟨H, hH⟩ : ∃ H, sm (fun a => sm (ptHi t s i k a) s) a + sm (ptHi t s i k a) b = H := ⟨_, rfl⟩
            have HSL : Hid (sm (fun a => sm (ptLo t s i k a) s) a + sm (ptLo t s i k a) (b + 1) = L + ptLo t s i k a b) := Lib.hid (by rw [hsl, ← hL]; omega)
            have HSH : Hid (sm (fun a => sm (ptHi t s i k a) s) a + sm (ptHi t s i k a) (b + 1) = H + ptHi t s i k a b) := Lib.hid (by rw [hsh, ← hH]; omega)
            rw [hL, hH] at FZ
            have xl : IntKind.i64.wrap (L + ptLo t s i k a b) = L + ptLo t s i k a b := IntWalk.i64_in _ (by omega)
            have xh : IntKind.i64.wrap (H + ptHi t s i k a b) = H + ptHi t s i k a b := IntWalk.i64_in _ (by omega)
            have ad0 : -4000000000000000000 ≤ L + ptLo t s i k a b ∧ L + ptLo t s i k a b ≤ 4000000000000000000 := by omega
            have ad1 : -4000000000000000000 ≤ H + ptHi t s i k a b ∧ H + ptHi t s i k a b ≤ 4000000000000000000 := by omega
            generalize ptLo t s i k a b = pl at *
            generalize ptHi t s i k a b = ph at *
            clear hL hH hsl hsh pt0 pt1 pt2 pr0 pr1 pf0 pf1 pv hv0 hv1
            have AD := Lib.hid (fun W => add_any L H pl ph W ad0 ad1)
            have KT := Lib.hid (show ∀ (Wz : World) (x y : Value), Below wr.heap.size wr Wz → (((Wz.setCell ⟨w.heap.size + 1, 0, none⟩ x).setCell ⟨w.heap.size + 1, 1, none⟩ y).cell? ⟨g, 0, none⟩ = some (.int .i64 mn) ∧ ((Wz.setCell ⟨w.heap.size + 1, 0, none⟩ x).setCell ⟨w.heap.size + 1, 1, none⟩ y).cell? ⟨g, 1, none⟩ = some (.int .i64 mx) ∧ ((Wz.setCell ⟨w.heap.size + 1, 0, none⟩ x).setCell ⟨w.heap.size + 1, 1, none⟩ y).cell? ⟨G, 0, none⟩ = some (.int .i64 u0) ∧ ((Wz.setCell ⟨w.heap.size + 1, 0, none⟩ x).setCell ⟨w.heap.size + 1, 1, none⟩ y).cell? ⟨G, 1, none⟩ = some (.int .i64 u1) ∧ ((Wz.setCell ⟨w.heap.size + 1, 0, none⟩ x).setCell ⟨w.heap.size + 1, 1, none⟩ y).cell? ⟨w.heap.size, 2, none⟩ = some (.slice t.vs.a t.vs.xs.length t.vs.c)) from fun Wz x y hz => by
              obtain ⟨k0, k1, k2, k3, k4⟩ := KF.out Wz hz
              have n1 : g ≠ w.heap.size + 1 := by have := FZ.out.gl; omega
              have n2 : G ≠ w.heap.size + 1 := by have := gG.out; omega
              have n3 : w.heap.size ≠ w.heap.size + 1 := by omega
              refine ⟨?_, ?_, ?_, ?_, ?_⟩ <;> simp [go_sem, k0, k1, k2, k3, k4, n1, n2, n3])
            obtain ⟨d0, d1, d2, d3, d4⟩ := KF.out wr (Below.refl _ _)
            obtain ⟨_, _, _, ⟨r0, r1, r2, r3, r4⟩, ⟨_, _, _, _, lg⟩, _, _⟩ := FZ.out
            have lG := BG.out.lt
            have HSZ := Lib.hid (And.intro r4 (And.intro lg lG))
            clear ad0 ad1
            go_wp2_with fail
            refine wp_region_held_drew (S := (fun w' => w'.cell? ⟨g, 0, none⟩ = some (.int .i64 mn) ∧ w'.cell? ⟨g, 1, none⟩ = some (.int .i64 mx) ∧ w'.cell? ⟨G, 0, none⟩ = some (.int .i64 u0) ∧ w'.cell? ⟨G, 1, none⟩ = some (.int .i64 u1) ∧ w'.cell? ⟨w.heap.size, 2, none⟩ = some (.slice t.vs.a t.vs.xs.length t.vs.c))) (by kernel_rfl) ?_ (fun hHeld => ?_)
            · (first | ((refine KF.out _ ?_; ((repeat' (first | (with_reducible exact Below.refl _ _) | (with_reducible refine Below.drew ?_) | (with_reducible refine Below.alloc ?_ ?_ _) | (with_reducible refine Below.trans ?_ (hbp.mono ?_)) | (with_reducible refine Below.trans ?_ (hbr.mono ?_)) | (with_reducible refine Below.trans ?_ (hba.mono ?_)))); all_goals (first | (simp; done) | (simp; omega) | omega)))) | ((refine KT.out _ _ _ ?_; ((repeat' (first | (with_reducible exact Below.refl _ _) | (with_reducible refine Below.drew ?_) | (with_reducible refine Below.alloc ?_ ?_ _) | (with_reducible refine Below.trans ?_ (hbp.mono ?_)) | (with_reducible refine Below.trans ?_ (hbr.mono ?_)) | (with_reducible refine Below.trans ?_ (hba.mono ?_)))); all_goals (first | (simp; done) | (simp; omega) | omega)))))
            refine wpAnyH_take (i := 1) (v := ?_) rfl (by kernel_rfl) (by kernel_rfl) (by kernel_rfl) (fun _ _ _ h => h) (Or.inl ⟨by rfl, ?_⟩) (by assumption) ?_
            rotate_left
            (focus (intro ww hSw; (try dsimp only at hSw); go_simp; (try with_reducible rfl)))
            (try simp only [Act.put, List.setIfInBounds_toArray, List.set_cons_zero, List.set_cons_succ, List.getElem_toArray, List.getElem_cons_zero, List.getElem_cons_succ])
            refine wpAnyH_take (i := 2) (v := ?_) rfl (by kernel_rfl) (by kernel_rfl) (by kernel_rfl) (fun _ _ _ h => h) (Or.inl ⟨by rfl, ?_⟩) (by assumption) ?_
            rotate_left
            (focus (intro ww hSw; (try dsimp only at hSw); go_simp; (try with_reducible rfl)))
            (try simp only [Act.put, List.setIfInBounds_toArray, List.set_cons_zero, List.set_cons_succ, List.getElem_toArray, List.getElem_cons_zero, List.getElem_cons_succ])
            refine wpAnyH_take (i := 3) (v := ?_) rfl (by kernel_rfl) (by kernel_rfl) (by kernel_rfl) (fun _ _ _ h => h) (Or.inl ⟨by rfl, ?_⟩) (by assumption) ?_
            rotate_left
            (focus (intro ww hSw; (try dsimp only at hSw); go_simp; (try with_reducible rfl)))
            (try simp only [Act.put, List.setIfInBounds_toArray, List.set_cons_zero, List.set_cons_succ, List.getElem_toArray, List.getElem_cons_zero, List.getElem_cons_succ])
            refine wpAnyH_take (i := 4) (v := ?_) rfl (by kernel_rfl) (by kernel_rfl) (by kernel_rfl) (fun _ _ _ h => h) (Or.inl ⟨by rfl, ?_⟩) (by assumption) ?_
            rotate_left
            (focus (intro ww hSw; (try dsimp only at hSw); go_simp; (try with_reducible rfl)))
            (try simp only [Act.put, List.setIfInBounds_toArray, List.set_cons_zero, List.set_cons_succ, List.getElem_toArray, List.getElem_cons_zero, List.getElem_cons_succ])
            refine wpAnyH_take (i := 5) (v := ?_) rfl (by kernel_rfl) (by kernel_rfl) (by kernel_rfl) (fun _ _ _ h => h) (Or.inl ⟨by rfl, ?_⟩) (by assumption) ?_
            rotate_left
            (focus (intro ww hSw; (try dsimp only at hSw); go_simp; (try with_reducible rfl)))
            (try simp only [Act.put, List.setIfInBounds_toArray, List.set_cons_zero, List.set_cons_succ, List.getElem_toArray, List.getElem_cons_zero, List.getElem_cons_succ])
            refine wpAnyH_take (i := 6) (v := ?_) rfl (by kernel_rfl) (by kernel_rfl) (by kernel_rfl) (fun _ _ _ h => h) (Or.inl ⟨by rfl, ?_⟩) (by assumption) ?_
            rotate_left
            (focus (intro ww hSw; (try dsimp only at hSw); go_simp; (try with_reducible rfl)))
            (try simp only [Act.put, List.setIfInBounds_toArray, List.set_cons_zero, List.set_cons_succ, List.getElem_toArray, List.getElem_cons_zero, List.getElem_cons_succ])
            refine wpAnyH_take (i := 7) (v := ?_) rfl (by kernel_rfl) (by kernel_rfl) (by kernel_rfl) (fun _ _ _ h => h) (Or.inl ⟨by rfl, ?_⟩) (by assumption) ?_
            rotate_left
            (focus (intro ww hSw; (try dsimp only at hSw); go_simp; (try with_reducible rfl)))
            (try simp only [Act.put, List.setIfInBounds_toArray, List.set_cons_zero, List.set_cons_succ, List.getElem_toArray, List.getElem_cons_zero, List.getElem_cons_succ])
            refine wpAnyH_ready (rs := [0, 8]) (by kernel_rfl) (by simp) ?_
            refine AllReadyH.cons rfl (fun K hK => ?_) ?_
            · skip
              go_simp
              refine hK.out _ _ ?_ (fun hHeld => ?_)
              · (first | ((refine KF.out _ ?_; ((repeat' (first | (with_reducible exact Below.refl _ _) | (with_reducible refine Below.drew ?_) | (with_reducible refine Below.alloc ?_ ?_ _) | (with_reducible refine Below.trans ?_ (hbp.mono ?_)) | (with_reducible refine Below.trans ?_ (hbr.mono ?_)) | (with_reducible refine Below.trans ?_ (hba.mono ?_)))); all_goals (first | (simp; done) | (simp; omega) | omega)))) | ((refine KT.out _ _ _ ?_; ((repeat' (first | (with_reducible exact Below.refl _ _) | (with_reducible refine Below.drew ?_) | (with_reducible refine Below.alloc ?_ ?_ _) | (with_reducible refine Below.trans ?_ (hbp.mono ?_)) | (with_reducible refine Below.trans ?_ (hbr.mono ?_)) | (with_reducible refine Below.trans ?_ (hba.mono ?_)))); all_goals (first | (simp; done) | (simp; omega) | omega)))))
              clear hK K
              (try simp only [Act.put, List.setIfInBounds_toArray, List.set_cons_zero, List.set_cons_succ, List.getElem_toArray, List.getElem_cons_zero, List.getElem_cons_succ])
              refine wpAnyH_ready (rs := [8]) (by kernel_rfl) (by simp) ?_
              refine AllReadyH.cons rfl (fun K hK => ?_) AllReadyH.nil
              go_simp
              (go_at_call 90; (with_reducible refine Calls.mono (PV.out _ ?_) ?_); (focus ((repeat' (first | (with_reducible exact Below.refl _ _) | (with_reducible refine Below.drew ?_) | (with_reducible refine Below.alloc ?_ ?_ _) | (with_reducible refine Below.trans ?_ (hbp.mono ?_)) | (with_reducible refine Below.trans ?_ (hbr.mono ?_)) | (with_reducible refine Below.trans ?_ (hba.mono ?_)))); all_goals (first | (simp; done) | (simp; omega) | omega))); rintro e wp ⟨rfl, op⟩; have obp := op.below; have hbp := obp; have hcp := (bcb hbp).1; have hfp := (bcb hbp).2; have hzp := hbp.size; (try simp only [World.size_drew] at hcp hfp); (try have hzp' := Nat.lt_of_succ_le hzp); (try simp at hzp); (try have gp0a : w.heap.size + 1 < wp.heap.size := by omega); (try have gp0b : w.heap.size + 1 ≠ wp.heap.size := by omega);  (try have gp1a : g < wp.heap.size := by omega); (try have gp1b : g ≠ wp.heap.size := by omega);  (try have gp2a : G < wp.heap.size := by omega); (try have gp2b : G ≠ wp.heap.size := by omega); skip)
              (try go_wp2_with fail)
              refine hK.out _ _ ?_ (fun hHeld => ?_)
              · (first | ((refine KF.out _ ?_; ((repeat' (first | (with_reducible exact Below.refl _ _) | (with_reducible refine Below.drew ?_) | (with_reducible refine Below.alloc ?_ ?_ _) | (with_reducible refine Below.trans ?_ (hbp.mono ?_)) | (with_reducible refine Below.trans ?_ (hbr.mono ?_)) | (with_reducible refine Below.trans ?_ (hba.mono ?_)))); all_goals (first | (simp; done) | (simp; omega) | omega)))) | ((refine KT.out _ _ _ ?_; ((repeat' (first | (with_reducible exact Below.refl _ _) | (with_reducible refine Below.drew ?_) | (with_reducible refine Below.alloc ?_ ?_ _) | (with_reducible refine Below.trans ?_ (hbp.mono ?_)) | (with_reducible refine Below.trans ?_ (hbr.mono ?_)) | (with_reducible refine Below.trans ?_ (hba.mono ?_)))); all_goals (first | (simp; done) | (simp; omega) | omega)))))
              clear hK K
              (try simp only [Act.put, List.setIfInBounds_toArray, List.set_cons_zero, List.set_cons_succ, List.getElem_toArray, List.getElem_cons_zero, List.getElem_cons_succ])
              refine wpAnyH_ready (rs := [9]) (by kernel_rfl) (by simp) ?_
              refine AllReadyH.cons rfl (fun K hK => ?_) AllReadyH.nil
              go_simp
              (go_at_call 91; (with_reducible refine Calls.mono (PS.out _) ?_); rintro e wq ⟨rfl, obr⟩; have hbr := obr; have hcr := (bcb hbr).1; have hfr := (bcb hbr).2; have hzr := hbr.size; (try simp only [World.size_drew] at hcr hfr); (try have hzr' := Nat.lt_of_succ_le hzr); (try simp at hzr); (try have gr0a : w.heap.size + 1 < wq.heap.size := by omega); (try have gr0b : w.heap.size + 1 ≠ wq.heap.size := by omega);  (try have gr1a : g < wq.heap.size := by omega); (try have gr1b : g ≠ wq.heap.size := by omega);  (try have gr2a : G < wq.heap.size := by omega); (try have gr2b : G ≠ wq.heap.size := by omega); skip)
              (try go_wp2_with fail)
              refine hK.out _ _ ?_ (fun hHeld => ?_)
              · (first | ((refine KF.out _ ?_; ((repeat' (first | (with_reducible exact Below.refl _ _) | (with_reducible refine Below.drew ?_) | (with_reducible refine Below.alloc ?_ ?_ _) | (with_reducible refine Below.trans ?_ (hbp.mono ?_)) | (with_reducible refine Below.trans ?_ (hbr.mono ?_)) | (with_reducible refine Below.trans ?_ (hba.mono ?_)))); all_goals (first | (simp; done) | (simp; omega) | omega)))) | ((refine KT.out _ _ _ ?_; ((repeat' (first | (with_reducible exact Below.refl _ _) | (with_reducible refine Below.drew ?_) | (with_reducible refine Below.alloc ?_ ?_ _) | (with_reducible refine Below.trans ?_ (hbp.mono ?_)) | (with_reducible refine Below.trans ?_ (hbr.mono ?_)) | (with_reducible refine Below.trans ?_ (hba.mono ?_)))); all_goals (first | (simp; done) | (simp; omega) | omega)))))
              clear hK K
              (try simp only [Act.put, List.setIfInBounds_toArray, List.set_cons_zero, List.set_cons_succ, List.getElem_toArray, List.getElem_cons_zero, List.getElem_cons_succ])
              refine wpAnyH_ready (rs := [10]) (by kernel_rfl) (by simp) ?_
              refine AllReadyH.cons rfl (fun K hK => ?_) AllReadyH.nil
              go_simp
              (go_at_call 55; (with_reducible refine Calls.mono (AD.out _) ?_); rintro e wa ⟨rfl, oa⟩; have oba := oa.below; have hba := oba; have hca := (bcb hba).1; have hfa := (bcb hba).2; have hza := hba.size; (try simp only [World.size_drew] at hca hfa); (try have hza' := Nat.lt_of_succ_le hza); (try simp at hza); (try have ga0a : w.heap.size + 1 < wa.heap.size := by omega); (try have ga0b : w.heap.size + 1 ≠ wa.heap.size := by omega);  (try have ga1a : g < wa.heap.size := by omega); (try have ga1b : g ≠ wa.heap.size := by omega);  (try have ga2a : G < wa.heap.size := by omega); (try have ga2b : G ≠ wa.heap.size := by omega); skip)
              (try go_wp2_with fail)
              refine hK.out _ _ ?_ (fun hHeld => ?_)
              · (first | ((refine KF.out _ ?_; ((repeat' (first | (with_reducible exact Below.refl _ _) | (with_reducible refine Below.drew ?_) | (with_reducible refine Below.alloc ?_ ?_ _) | (with_reducible refine Below.trans ?_ (hbp.mono ?_)) | (with_reducible refine Below.trans ?_ (hbr.mono ?_)) | (with_reducible refine Below.trans ?_ (hba.mono ?_)))); all_goals (first | (simp; done) | (simp; omega) | omega)))) | ((refine KT.out _ _ _ ?_; ((repeat' (first | (with_reducible exact Below.refl _ _) | (with_reducible refine Below.drew ?_) | (with_reducible refine Below.alloc ?_ ?_ _) | (with_reducible refine Below.trans ?_ (hbp.mono ?_)) | (with_reducible refine Below.trans ?_ (hbr.mono ?_)) | (with_reducible refine Below.trans ?_ (hba.mono ?_)))); all_goals (first | (simp; done) | (simp; omega) | omega)))))
              clear hK K
              (try simp only [Act.put, List.setIfInBounds_toArray, List.set_cons_zero, List.set_cons_succ, List.getElem_toArray, List.getElem_cons_zero, List.getElem_cons_succ])
              refine wpAnyH_ready (rs := [11]) (by kernel_rfl) (by simp) ?_
              refine AllReadyH.cons rfl (fun K hK => ?_) AllReadyH.nil
              go_simp
              refine hK.out _ _ ?_ (fun hHeld => ?_)
              · (first | ((refine KF.out _ ?_; ((repeat' (first | (with_reducible exact Below.refl _ _) | (with_reducible refine Below.drew ?_) | (with_reducible refine Below.alloc ?_ ?_ _) | (with_reducible refine Below.trans ?_ (hbp.mono ?_)) | (with_reducible refine Below.trans ?_ (hbr.mono ?_)) | (with_reducible refine Below.trans ?_ (hba.mono ?_)))); all_goals (first | (simp; done) | (simp; omega) | omega)))) | ((refine KT.out _ _ _ ?_; ((repeat' (first | (with_reducible exact Below.refl _ _) | (with_reducible refine Below.drew ?_) | (with_reducible refine Below.alloc ?_ ?_ _) | (with_reducible refine Below.trans ?_ (hbp.mono ?_)) | (with_reducible refine Below.trans ?_ (hbr.mono ?_)) | (with_reducible refine Below.trans ?_ (hba.mono ?_)))); all_goals (first | (simp; done) | (simp; omega) | omega)))))
              clear hK K
              (try simp only [Act.put, List.setIfInBounds_toArray, List.set_cons_zero, List.set_cons_succ, List.getElem_toArray, List.getElem_cons_zero, List.getElem_cons_succ])
              refine wpAnyH_done (by kernel_rfl) ?_ _
              have HB : Below wr.heap.size wr wa := by ((repeat' (first | (with_reducible exact Below.refl _ _) | (with_reducible refine Below.drew ?_) | (with_reducible refine Below.alloc ?_ ?_ _) | (with_reducible refine Below.trans ?_ (hbp.mono ?_)) | (with_reducible refine Below.trans ?_ (hbr.mono ?_)) | (with_reducible refine Below.trans ?_ (hba.mono ?_)))); all_goals (first | (simp; done) | (simp; omega) | omega))
              have FW := Lib.hid ((FZ.out.call HB).put (L + pl) (H + ph))
              have BGW := Lib.hid ((BG.out.below HB).other (show G ≠ w.heap.size + 1 by have := gG.out; omega) (.int .i64 (L + pl)) (.int .i64 (H + ph)))
              go_wp2_with fail
              go_roundg (s - (b + 1))
              case measure => have := HN2.out; omega
              case rel => exact ⟨b + 1, by omega, rfl, by first | rfl | go_num, by rw [HSL.out, HSH.out]; exact FW, BGW⟩
            refine AllReadyH.cons rfl (fun K hK => ?_) AllReadyH.nil
            go_simp
            (go_at_call 90; (with_reducible refine Calls.mono (PV.out _ ?_) ?_); (focus ((repeat' (first | (with_reducible exact Below.refl _ _) | (with_reducible refine Below.drew ?_) | (with_reducible refine Below.alloc ?_ ?_ _) | (with_reducible refine Below.trans ?_ (hbp.mono ?_)) | (with_reducible refine Below.trans ?_ (hbr.mono ?_)) | (with_reducible refine Below.trans ?_ (hba.mono ?_)))); all_goals (first | (simp; done) | (simp; omega) | omega))); rintro e wp ⟨rfl, op⟩; have obp := op.below; have hbp := obp; have hcp := (bcb hbp).1; have hfp := (bcb hbp).2; have hzp := hbp.size; (try simp only [World.size_drew] at hcp hfp); (try have hzp' := Nat.lt_of_succ_le hzp); (try simp at hzp); (try have gp0a : w.heap.size + 1 < wp.heap.size := by omega); (try have gp0b : w.heap.size + 1 ≠ wp.heap.size := by omega);  (try have gp1a : g < wp.heap.size := by omega); (try have gp1b : g ≠ wp.heap.size := by omega);  (try have gp2a : G < wp.heap.size := by omega); (try have gp2b : G ≠ wp.heap.size := by omega); skip)
            (try go_wp2_with fail)
            refine hK.out _ _ ?_ (fun hHeld => ?_)
            · (first | ((refine KF.out _ ?_; ((repeat' (first | (with_reducible exact Below.refl _ _) | (with_reducible refine Below.drew ?_) | (with_reducible refine Below.alloc ?_ ?_ _) | (with_reducible refine Below.trans ?_ (hbp.mono ?_)) | (with_reducible refine Below.trans ?_ (hbr.mono ?_)) | (with_reducible refine Below.trans ?_ (hba.mono ?_)))); all_goals (first | (simp; done) | (simp; omega) | omega)))) | ((refine KT.out _ _ _ ?_; ((repeat' (first | (with_reducible exact Below.refl _ _) | (with_reducible refine Below.drew ?_) | (with_reducible refine Below.alloc ?_ ?_ _) | (with_reducible refine Below.trans ?_ (hbp.mono ?_)) | (with_reducible refine Below.trans ?_ (hbr.mono ?_)) | (with_reducible refine Below.trans ?_ (hba.mono ?_)))); all_goals (first | (simp; done) | (simp; omega) | omega)))))
            clear hK K
            (try simp only [Act.put, List.setIfInBounds_toArray, List.set_cons_zero, List.set_cons_succ, List.getElem_toArray, List.getElem_cons_zero, List.getElem_cons_succ])
            refine wpAnyH_ready (rs := [0, 9]) (by kernel_rfl) (by simp) ?_
            refine AllReadyH.cons rfl (fun K hK => ?_) ?_
            · skip
              go_simp
              refine hK.out _ _ ?_ (fun hHeld => ?_)
              · (first | ((refine KF.out _ ?_; ((repeat' (first | (with_reducible exact Below.refl _ _) | (with_reducible refine Below.drew ?_) | (with_reducible refine Below.alloc ?_ ?_ _) | (with_reducible refine Below.trans ?_ (hbp.mono ?_)) | (with_reducible refine Below.trans ?_ (hbr.mono ?_)) | (with_reducible refine Below.trans ?_ (hba.mono ?_)))); all_goals (first | (simp; done) | (simp; omega) | omega)))) | ((refine KT.out _ _ _ ?_; ((repeat' (first | (with_reducible exact Below.refl _ _) | (with_reducible refine Below.drew ?_) | (with_reducible refine Below.alloc ?_ ?_ _) | (with_reducible refine Below.trans ?_ (hbp.mono ?_)) | (with_reducible refine Below.trans ?_ (hbr.mono ?_)) | (with_reducible refine Below.trans ?_ (hba.mono ?_)))); all_goals (first | (simp; done) | (simp; omega) | omega)))))
              clear hK K
              (try simp only [Act.put, List.setIfInBounds_toArray, List.set_cons_zero, List.set_cons_succ, List.getElem_toArray, List.getElem_cons_zero, List.getElem_cons_succ])
              refine wpAnyH_ready (rs := [9]) (by kernel_rfl) (by simp) ?_
              refine AllReadyH.cons rfl (fun K hK => ?_) AllReadyH.nil
              go_simp
              (go_at_call 91; (with_reducible refine Calls.mono (PS.out _) ?_); rintro e wq ⟨rfl, obr⟩; have hbr := obr; have hcr := (bcb hbr).1; have hfr := (bcb hbr).2; have hzr := hbr.size; (try simp only [World.size_drew] at hcr hfr); (try have hzr' := Nat.lt_of_succ_le hzr); (try simp at hzr); (try have gr0a : w.heap.size + 1 < wq.heap.size := by omega); (try have gr0b : w.heap.size + 1 ≠ wq.heap.size := by omega);  (try have gr1a : g < wq.heap.size := by omega); (try have gr1b : g ≠ wq.heap.size := by omega);  (try have gr2a : G < wq.heap.size := by omega); (try have gr2b : G ≠ wq.heap.size := by omega); skip)
              (try go_wp2_with fail)
              refine hK.out _ _ ?_ (fun hHeld => ?_)
              · (first | ((refine KF.out _ ?_; ((repeat' (first | (with_reducible exact Below.refl _ _) | (with_reducible refine Below.drew ?_) | (with_reducible refine Below.alloc ?_ ?_ _) | (with_reducible refine Below.trans ?_ (hbp.mono ?_)) | (with_reducible refine Below.trans ?_ (hbr.mono ?_)) | (with_reducible refine Below.trans ?_ (hba.mono ?_)))); all_goals (first | (simp; done) | (simp; omega) | omega)))) | ((refine KT.out _ _ _ ?_; ((repeat' (first | (with_reducible exact Below.refl _ _) | (with_reducible refine Below.drew ?_) | (with_reducible refine Below.alloc ?_ ?_ _) | (with_reducible refine Below.trans ?_ (hbp.mono ?_)) | (with_reducible refine Below.trans ?_ (hbr.mono ?_)) | (with_reducible refine Below.trans ?_ (hba.mono ?_)))); all_goals (first | (simp; done) | (simp; omega) | omega)))))
              clear hK K
              (try simp only [Act.put, List.setIfInBounds_toArray, List.set_cons_zero, List.set_cons_succ, List.getElem_toArray, List.getElem_cons_zero, List.getElem_cons_succ])
              refine wpAnyH_ready (rs := [10]) (by kernel_rfl) (by simp) ?_
              refine AllReadyH.cons rfl (fun K hK => ?_) AllReadyH.nil
              go_simp
              (go_at_call 55; (with_reducible refine Calls.mono (AD.out _) ?_); rintro e wa ⟨rfl, oa⟩; have oba := oa.below; have hba := oba; have hca := (bcb hba).1; have hfa := (bcb hba).2; have hza := hba.size; (try simp only [World.size_drew] at hca hfa); (try have hza' := Nat.lt_of_succ_le hza); (try simp at hza); (try have ga0a : w.heap.size + 1 < wa.heap.size := by omega); (try have ga0b : w.heap.size + 1 ≠ wa.heap.size := by omega);  (try have ga1a : g < wa.heap.size := by omega); (try have ga1b : g ≠ wa.heap.size := by omega);  (try have ga2a : G < wa.heap.size := by omega); (try have ga2b : G ≠ wa.heap.size := by omega); skip)
              (try go_wp2_with fail)
              refine hK.out _ _ ?_ (fun hHeld => ?_)
              · (first | ((refine KF.out _ ?_; ((repeat' (first | (with_reducible exact Below.refl _ _) | (with_reducible refine Below.drew ?_) | (with_reducible refine Below.alloc ?_ ?_ _) | (with_reducible refine Below.trans ?_ (hbp.mono ?_)) | (with_reducible refine Below.trans ?_ (hbr.mono ?_)) | (with_reducible refine Below.trans ?_ (hba.mono ?_)))); all_goals (first | (simp; done) | (simp; omega) | omega)))) | ((refine KT.out _ _ _ ?_; ((repeat' (first | (with_reducible exact Below.refl _ _) | (with_reducible refine Below.drew ?_) | (with_reducible refine Below.alloc ?_ ?_ _) | (with_reducible refine Below.trans ?_ (hbp.mono ?_)) | (with_reducible refine Below.trans ?_ (hbr.mono ?_)) | (with_reducible refine Below.trans ?_ (hba.mono ?_)))); all_goals (first | (simp; done) | (simp; omega) | omega)))))
              clear hK K
              (try simp only [Act.put, List.setIfInBounds_toArray, List.set_cons_zero, List.set_cons_succ, List.getElem_toArray, List.getElem_cons_zero, List.getElem_cons_succ])
              refine wpAnyH_ready (rs := [11]) (by kernel_rfl) (by simp) ?_
              refine AllReadyH.cons rfl (fun K hK => ?_) AllReadyH.nil
              go_simp
              refine hK.out _ _ ?_ (fun hHeld => ?_)
              · (first | ((refine KF.out _ ?_; ((repeat' (first | (with_reducible exact Below.refl _ _) | (with_reducible refine Below.drew ?_) | (with_reducible refine Below.alloc ?_ ?_ _) | (with_reducible refine Below.trans ?_ (hbp.mono ?_)) | (with_reducible refine Below.trans ?_ (hbr.mono ?_)) | (with_reducible refine Below.trans ?_ (hba.mono ?_)))); all_goals (first | (simp; done) | (simp; omega) | omega)))) | ((refine KT.out _ _ _ ?_; ((repeat' (first | (with_reducible exact Below.refl _ _) | (with_reducible refine Below.drew ?_) | (with_reducible refine Below.alloc ?_ ?_ _) | (with_reducible refine Below.trans ?_ (hbp.mono ?_)) | (with_reducible refine Below.trans ?_ (hbr.mono ?_)) | (with_reducible refine Below.trans ?_ (hba.mono ?_)))); all_goals (first | (simp; done) | (simp; omega) | omega)))))
              clear hK K
              (try simp only [Act.put, List.setIfInBounds_toArray, List.set_cons_zero, List.set_cons_succ, List.getElem_toArray, List.getElem_cons_zero, List.getElem_cons_succ])
              refine wpAnyH_done (by kernel_rfl) ?_ _
              have HB : Below wr.heap.size wr wa := by ((repeat' (first | (with_reducible exact Below.refl _ _) | (with_reducible refine Below.drew ?_) | (with_reducible refine Below.alloc ?_ ?_ _) | (with_reducible refine Below.trans ?_ (hbp.mono ?_)) | (with_reducible refine Below.trans ?_ (hbr.mono ?_)) | (with_reducible refine Below.trans ?_ (hba.mono ?_)))); all_goals (first | (simp; done) | (simp; omega) | omega))
              have FW := Lib.hid ((FZ.out.call HB).put (L + pl) (H + ph))
              have BGW := Lib.hid ((BG.out.below HB).other (show G ≠ w.heap.size + 1 by have := gG.out; omega) (.int .i64 (L + pl)) (.int .i64 (H + ph)))
              go_wp2_with fail
              go_roundg (s - (b + 1))
              case measure => have := HN2.out; omega
              case rel => exact ⟨b + 1, by omega, rfl, by first | rfl | go_num, by rw [HSL.out, HSH.out]; exact FW, BGW⟩
            refine AllReadyH.cons rfl (fun K hK => ?_) AllReadyH.nil
            go_simp
            (go_at_call 91; (with_reducible refine Calls.mono (PS.out _) ?_); rintro e wq ⟨rfl, obr⟩; have hbr := obr; have hcr := (bcb hbr).1; have hfr := (bcb hbr).2; have hzr := hbr.size; (try simp only [World.size_drew] at hcr hfr); (try have hzr' := Nat.lt_of_succ_le hzr); (try simp at hzr); (try have gr0a : w.heap.size + 1 < wq.heap.size := by omega); (try have gr0b : w.heap.size + 1 ≠ wq.heap.size := by omega);  (try have gr1a : g < wq.heap.size := by omega); (try have gr1b : g ≠ wq.heap.size := by omega);  (try have gr2a : G < wq.heap.size := by omega); (try have gr2b : G ≠ wq.heap.size := by omega); skip)
            (try go_wp2_with fail)
            refine hK.out _ _ ?_ (fun hHeld => ?_)
            · (first | ((refine KF.out _ ?_; ((repeat' (first | (with_reducible exact Below.refl _ _) | (with_reducible refine Below.drew ?_) | (with_reducible refine Below.alloc ?_ ?_ _) | (with_reducible refine Below.trans ?_ (hbp.mono ?_)) | (with_reducible refine Below.trans ?_ (hbr.mono ?_)) | (with_reducible refine Below.trans ?_ (hba.mono ?_)))); all_goals (first | (simp; done) | (simp; omega) | omega)))) | ((refine KT.out _ _ _ ?_; ((repeat' (first | (with_reducible exact Below.refl _ _) | (with_reducible refine Below.drew ?_) | (with_reducible refine Below.alloc ?_ ?_ _) | (with_reducible refine Below.trans ?_ (hbp.mono ?_)) | (with_reducible refine Below.trans ?_ (hbr.mono ?_)) | (with_reducible refine Below.trans ?_ (hba.mono ?_)))); all_goals (first | (simp; done) | (simp; omega) | omega)))))
            clear hK K
            (try simp only [Act.put, List.setIfInBounds_toArray, List.set_cons_zero, List.set_cons_succ, List.getElem_toArray, List.getElem_cons_zero, List.getElem_cons_succ])
            refine wpAnyH_ready (rs := [0]) (by kernel_rfl) (by simp) ?_
            refine AllReadyH.cons rfl (fun K hK => ?_) AllReadyH.nil
            go_simp
            refine hK.out _ _ ?_ (fun hHeld => ?_)
            · (first | ((refine KF.out _ ?_; ((repeat' (first | (with_reducible exact Below.refl _ _) | (with_reducible refine Below.drew ?_) | (with_reducible refine Below.alloc ?_ ?_ _) | (with_reducible refine Below.trans ?_ (hbp.mono ?_)) | (with_reducible refine Below.trans ?_ (hbr.mono ?_)) | (with_reducible refine Below.trans ?_ (hba.mono ?_)))); all_goals (first | (simp; done) | (simp; omega) | omega)))) | ((refine KT.out _ _ _ ?_; ((repeat' (first | (with_reducible exact Below.refl _ _) | (with_reducible refine Below.drew ?_) | (with_reducible refine Below.alloc ?_ ?_ _) | (with_reducible refine Below.trans ?_ (hbp.mono ?_)) | (with_reducible refine Below.trans ?_ (hbr.mono ?_)) | (with_reducible refine Below.trans ?_ (hba.mono ?_)))); all_goals (first | (simp; done) | (simp; omega) | omega)))))
            clear hK K
            (try simp only [Act.put, List.setIfInBounds_toArray, List.set_cons_zero, List.set_cons_succ, List.getElem_toArray, List.getElem_cons_zero, List.getElem_cons_succ])
            refine wpAnyH_ready (rs := [10]) (by kernel_rfl) (by simp) ?_
            refine AllReadyH.cons rfl (fun K hK => ?_) AllReadyH.nil
            go_simp
            (go_at_call 55; (with_reducible refine Calls.mono (AD.out _) ?_); rintro e wa ⟨rfl, oa⟩; have oba := oa.below; have hba := oba; have hca := (bcb hba).1; have hfa := (bcb hba).2; have hza := hba.size; (try simp only [World.size_drew] at hca hfa); (try have hza' := Nat.lt_of_succ_le hza); (try simp at hza); (try have ga0a : w.heap.size + 1 < wa.heap.size := by omega); (try have ga0b : w.heap.size + 1 ≠ wa.heap.size := by omega);  (try have ga1a : g < wa.heap.size := by omega); (try have ga1b : g ≠ wa.heap.size := by omega);  (try have ga2a : G < wa.heap.size := by omega); (try have ga2b : G ≠ wa.heap.size := by omega); skip)
            (try go_wp2_with fail)
            refine hK.out _ _ ?_ (fun hHeld => ?_)
            · (first | ((refine KF.out _ ?_; ((repeat' (first | (with_reducible exact Below.refl _ _) | (with_reducible refine Below.drew ?_) | (with_reducible refine Below.alloc ?_ ?_ _) | (with_reducible refine Below.trans ?_ (hbp.mono ?_)) | (with_reducible refine Below.trans ?_ (hbr.mono ?_)) | (with_reducible refine Below.trans ?_ (hba.mono ?_)))); all_goals (first | (simp; done) | (simp; omega) | omega)))) | ((refine KT.out _ _ _ ?_; ((repeat' (first | (with_reducible exact Below.refl _ _) | (with_reducible refine Below.drew ?_) | (with_reducible refine Below.alloc ?_ ?_ _) | (with_reducible refine Below.trans ?_ (hbp.mono ?_)) | (with_reducible refine Below.trans ?_ (hbr.mono ?_)) | (with_reducible refine Below.trans ?_ (hba.mono ?_)))); all_goals (first | (simp; done) | (simp; omega) | omega)))))
            clear hK K
            (try simp only [Act.put, List.setIfInBounds_toArray, List.set_cons_zero, List.set_cons_succ, List.getElem_toArray, List.getElem_cons_zero, List.getElem_cons_succ])
            refine wpAnyH_ready (rs := [11]) (by kernel_rfl) (by simp) ?_
            refine AllReadyH.cons rfl (fun K hK => ?_) AllReadyH.nil
            go_simp
            refine hK.out _ _ ?_ (fun hHeld => ?_)
            · (first | ((refine KF.out _ ?_; ((repeat' (first | (with_reducible exact Below.refl _ _) | (with_reducible refine Below.drew ?_) | (with_reducible refine Below.alloc ?_ ?_ _) | (with_reducible refine Below.trans ?_ (hbp.mono ?_)) | (with_reducible refine Below.trans ?_ (hbr.mono ?_)) | (with_reducible refine Below.trans ?_ (hba.mono ?_)))); all_goals (first | (simp; done) | (simp; omega) | omega)))) | ((refine KT.out _ _ _ ?_; ((repeat' (first | (with_reducible exact Below.refl _ _) | (with_reducible refine Below.drew ?_) | (with_reducible refine Below.alloc ?_ ?_ _) | (with_reducible refine Below.trans ?_ (hbp.mono ?_)) | (with_reducible refine Below.trans ?_ (hbr.mono ?_)) | (with_reducible refine Below.trans ?_ (hba.mono ?_)))); all_goals (first | (simp; done) | (simp; omega) | omega)))))
            clear hK K
            (try simp only [Act.put, List.setIfInBounds_toArray, List.set_cons_zero, List.set_cons_succ, List.getElem_toArray, List.getElem_cons_zero, List.getElem_cons_succ])
            refine wpAnyH_done (by kernel_rfl) ?_ _
            have HB : Below wr.heap.size wr wa := by ((repeat' (first | (with_reducible exact Below.refl _ _) | (with_reducible refine Below.drew ?_) | (with_reducible refine Below.alloc ?_ ?_ _) | (with_reducible refine Below.trans ?_ (hbp.mono ?_)) | (with_reducible refine Below.trans ?_ (hbr.mono ?_)) | (with_reducible refine Below.trans ?_ (hba.mono ?_)))); all_goals (first | (simp; done) | (simp; omega) | omega))
            have FW := Lib.hid ((FZ.out.call HB).put (L + pl) (H + ph))
            have BGW := Lib.hid ((BG.out.below HB).other (show G ≠ w.heap.size + 1 by have := gG.out; omega) (.int .i64 (L + pl)) (.int .i64 (H + ph)))
            go_wp2_with fail
            go_roundg (s - (b + 1))
            case measure => have := HN2.out; omega
            case rel => exact ⟨b + 1, by omega, rfl, by first | rfl | go_num, by rw [HSL.out, HSH.out]; exact FW, BGW⟩
          · obtain rfl : b = s := by omega
            have hno : ¬ (b : Int) < (b : Int) := by omega
            go_wp2_with fail
            go_roundg (b - (a + 1))
            case measure => have := HN.out; omega
            case rel => exact ⟨a + 1, by omega, rfl, by first | rfl | go_num, FZ⟩
      · obtain rfl : a = s := by omega
        have hno : ¬ (a : Int) < (a : Int) := by omega
        obtain ⟨_, _, _, ⟨r0, r1, r2, r3, r4⟩, _, bb, _⟩ := FS.out
        go_wp2_with fail
        refine bodyPost_ret (v := .agg #[.int .i64 (sm (fun x => sm (ptLo t a i k x) a) a), .int .i64 (sm (fun x => sm (ptHi t a i k x) a) a)]) (by simp [results, Try.results56, go_sem, r0, r1]) rfl ⟨rfl, ?_⟩
        exact (bb.setCell (p := ⟨w.heap.size + 1, 0, none⟩) (by show w.heap.size ≤ w.heap.size + 1; omega) _).setCell (p := ⟨w.heap.size + 1, 1, none⟩) (by show w.heap.size ≤ w.heap.size + 1; omega) _
end Go.Proofs.Ytgmpipciinphiaa
