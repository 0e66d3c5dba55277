/- The reference's intensity over a rectangle. -/
import Derived.Test.YthmelkakgbchbaaRfd
import Derived.Deep.DeepCutAuto
import Derived.Deep.DrawnRows
import Derived.Deep.RegionHeld3
import Derived.Deep.RegionWith
namespace Go.Proofs.Ythmelkakgbchbaa
set_option linter.unusedSimpArgs false
set_option linter.unusedVariables false
open Go.RowKit
attribute [local go_sem ↓] Go.wp_at_zero Go.wp_at_succ

theorem hull_step {F : List (Int × Int)} {x y : Int} (g : F.isEmpty = false → x = hullLo F ∧ y = hullHi F) (r : Int × Int) (hF : F.isEmpty = false) : min x r.1 = hullLo (F ++ [r]) ∧ max y r.2 = hullHi (F ++ [r]) := by
  obtain ⟨e1, e2⟩ := g hF
  have hl : 0 < F.length := by cases F with | nil => cases hF | cons a l => simp
  rw [hullLo_snoc hl, hullHi_snoc hl, e1, e2]
  exact ⟨rfl, rfl⟩
theorem hull_first {F : List (Int × Int)} (r : Int × Int) (hF : F.isEmpty = true) : r.1 = hullLo (F ++ [r]) ∧ r.2 = hullHi (F ++ [r]) := by
  have : F = [] := by cases F with | nil => rfl | cons a l => cases hF
  subst this
  exact ⟨rfl, rfl⟩
theorem snoc_ne {F : List (Int × Int)} (r : Int × Int) : (F ++ [r]).isEmpty = false := by cases F <;> rfl

set_option maxRecDepth 100000 in
set_option maxHeartbeats 20000000 in
theorem rover_any (t : Tab) (x0 x1 y0 y1 h : Int) (w : World) (ok : TabOk t) (hu : IntsIn w.heap.size t.us.a t.us.xs w) (hv : IntsIn w.heap.size t.vs.a t.vs.xs w) (hr : RowsIn w.heap.size t.ra t.rows w)
    (h0 : 1 ≤ h) (h1 : h ≤ 30000) (a0 : -200000 ≤ x0) (a1 : x0 ≤ x1) (a2 : x1 ≤ 200000) (b0 : -200000 ≤ y0) (b1 : y0 ≤ y1) (b2 : y1 ≤ 200000) :
    Calls Try.prog 53 #[.agg #[.string t.name, .slice t.us.a t.us.xs.length t.us.c, .slice t.vs.a t.vs.xs.length t.vs.c, .slice t.ra t.rows.length t.rc, .int .i64 t.side, .int .i64 t.sky], .agg #[.int .i64 x0, .int .i64 x1, .int .i64 y0, .int .i64 y1], .int .i64 h] w fun e w' => e = .returned (encl (hullLo (fnd t x0 x1 y0 y1 h)) (hullHi (fnd t x0 x1 y0 y1 h))) ∧ Below w.heap.size w w' := by
  have HFM := found_mem ok h0 h1 a0 a1 a2 b0 b1 b2
  have HFN := fnd_ne (t := t) (h := h) a1 b1
  have HL := Lib.hid (hullLo_eq HFN HFM)
  have HH := Lib.hid (hullHi_eq HFN HFM)
  have HNE := Lib.hid (allF_ne t h t.us.xs t.vs.xs (1000 * x0) (1000 * x1) (1000 * y0) (1000 * y1))
  clear HFM HFN
  rw [HL.out, HH.out]
  clear HL HH
  have CRU := Lib.hid (fun (W : World) (g : IntsIn W.heap.size t.us.a t.us.xs W) => rcrossings_any t.us.a t.us.c t.us.xs x0 x1 h W g ok.us h0 h1 (by omega) (by omega) (by omega) (by omega))
  have CRV := Lib.hid (fun (W : World) (g : IntsIn W.heap.size t.vs.a t.vs.xs W) => rcrossings_any t.vs.a t.vs.c t.vs.xs y0 y1 h W g ok.vs h0 h1 (by omega) (by omega) (by omega) (by omega))
  have HLU := mids_in ok.us (f := 1000 * x0) (t := 1000 * x1) (h := h) t.us.xs.length
  have HLV := mids_in ok.vs (f := 1000 * y0) (t := 1000 * y1) (h := h) t.vs.xs.length
  have HLU2 := crL_len t.us.xs (1000 * x0) (1000 * x1) h
  have HLV2 := crL_len t.vs.xs (1000 * y0) (1000 * y1) h
  have HLU3 : (crL t.us.xs (1000 * x0) (1000 * x1) h).length ≤ 14 := by unfold crL; rw [List.length_append]; simp; omega
  have HLV3 : (crL t.vs.xs (1000 * y0) (1000 * y1) h).length ≤ 14 := by unfold crL; rw [List.length_append]; simp; omega
  clear HLU HLV
  generalize crL t.us.xs (1000 * x0) (1000 * x1) h = U at *
  generalize crL t.vs.xs (1000 * y0) (1000 * y1) h = V at *
  have INS := Lib.hid (fun (W : World) (u v : Int) (g1 : IntsIn W.heap.size t.us.a t.us.xs W) (g2 : IntsIn W.heap.size t.vs.a t.vs.xs W) => rinside_any t u v h W ok g1 g2 h0 h1)
  have INT : Hid (∀ (W : World) (u v : Int), IntsIn W.heap.size t.us.a t.us.xs W → IntsIn W.heap.size t.vs.a t.vs.xs W → RowsIn W.heap.size t.ra t.rows W → Calls Try.prog 48 #[.agg #[.string t.name, .slice t.us.a t.us.xs.length t.us.c, .slice t.vs.a t.vs.xs.length t.vs.c, .slice t.ra t.rows.length t.rc, .int .i64 t.side, .int .i64 t.sky], .int .i64 u, .int .i64 v, .int .i64 h] W fun e w' => e = .returned (encl (rval t h u v).1 (rval t h u v).2) ∧ Own W.heap.size W w') := fun W u v g1 g2 g3 => by
    unfold rval
    cases hi : insB t u v h
    · exact rint_out _ _ _ _ W ok g1 g2 h0 h1 hi
    · exact rint_in _ _ _ _ W ok g1 g2 g3 h0 h1 hi
  clear a0 a1 a2 b0 b1 b2
  have bw0 : Below w.heap.size w (((w.alloc (.cells #[.string t.name, .slice t.us.a t.us.xs.length t.us.c, .slice t.vs.a t.vs.xs.length t.vs.c, .slice t.ra t.rows.length t.rc, .int .i64 t.side, .int .i64 t.sky] 61)).alloc (.cells #[.int .i64 x0, .int .i64 x1, .int .i64 y0, .int .i64 y1] 40)).alloc (.cells #[.int .i64 0, .int .i64 0] 35)) := (((Below.refl _ _).alloc (Nat.le_refl _) _).alloc (by simp) _).alloc (by simp; omega) _
  have bz0 : Bq (w.heap.size + 1 + 1) 0 0 (((w.alloc (.cells #[.string t.name, .slice t.us.a t.us.xs.length t.us.c, .slice t.vs.a t.vs.xs.length t.vs.c, .slice t.ra t.rows.length t.rc, .int .i64 t.side, .int .i64 t.sky] 61)).alloc (.cells #[.int .i64 x0, .int .i64 x1, .int .i64 y0, .int .i64 y1] 40)).alloc (.cells #[.int .i64 0, .int .i64 0] 35)) := by constructor <;> simp [go_sem]
  have tc0 : (((w.alloc (.cells #[.string t.name, .slice t.us.a t.us.xs.length t.us.c, .slice t.vs.a t.vs.xs.length t.vs.c, .slice t.ra t.rows.length t.rc, .int .i64 t.side, .int .i64 t.sky] 61)).alloc (.cells #[.int .i64 x0, .int .i64 x1, .int .i64 y0, .int .i64 y1] 40)).alloc (.cells #[.int .i64 0, .int .i64 0] 35)).cell? ⟨w.heap.size, 0, none⟩ = some (.string t.name) ∧ (((w.alloc (.cells #[.string t.name, .slice t.us.a t.us.xs.length t.us.c, .slice t.vs.a t.vs.xs.length t.vs.c, .slice t.ra t.rows.length t.rc, .int .i64 t.side, .int .i64 t.sky] 61)).alloc (.cells #[.int .i64 x0, .int .i64 x1, .int .i64 y0, .int .i64 y1] 40)).alloc (.cells #[.int .i64 0, .int .i64 0] 35)).cell? ⟨w.heap.size, 1, none⟩ = some (.slice t.us.a t.us.xs.length t.us.c) ∧ (((w.alloc (.cells #[.string t.name, .slice t.us.a t.us.xs.length t.us.c, .slice t.vs.a t.vs.xs.length t.vs.c, .slice t.ra t.rows.length t.rc, .int .i64 t.side, .int .i64 t.sky] 61)).alloc (.cells #[.int .i64 x0, .int .i64 x1, .int .i64 y0, .int .i64 y1] 40)).alloc (.cells #[.int .i64 0, .int .i64 0] 35)).cell? ⟨w.heap.size, 2, none⟩ = some (.slice t.vs.a t.vs.xs.length t.vs.c) ∧ (((w.alloc (.cells #[.string t.name, .slice t.us.a t.us.xs.length t.us.c, .slice t.vs.a t.vs.xs.length t.vs.c, .slice t.ra t.rows.length t.rc, .int .i64 t.side, .int .i64 t.sky] 61)).alloc (.cells #[.int .i64 x0, .int .i64 x1, .int .i64 y0, .int .i64 y1] 40)).alloc (.cells #[.int .i64 0, .int .i64 0] 35)).cell? ⟨w.heap.size, 3, none⟩ = some (.slice t.ra t.rows.length t.rc) ∧ (((w.alloc (.cells #[.string t.name, .slice t.us.a t.us.xs.length t.us.c, .slice t.vs.a t.vs.xs.length t.vs.c, .slice t.ra t.rows.length t.rc, .int .i64 t.side, .int .i64 t.sky] 61)).alloc (.cells #[.int .i64 x0, .int .i64 x1, .int .i64 y0, .int .i64 y1] 40)).alloc (.cells #[.int .i64 0, .int .i64 0] 35)).cell? ⟨w.heap.size, 4, none⟩ = some (.int .i64 t.side) ∧ (((w.alloc (.cells #[.string t.name, .slice t.us.a t.us.xs.length t.us.c, .slice t.vs.a t.vs.xs.length t.vs.c, .slice t.ra t.rows.length t.rc, .int .i64 t.side, .int .i64 t.sky] 61)).alloc (.cells #[.int .i64 x0, .int .i64 x1, .int .i64 y0, .int .i64 y1] 40)).alloc (.cells #[.int .i64 0, .int .i64 0] 35)).cell? ⟨w.heap.size, 5, none⟩ = some (.int .i64 t.sky) := by refine ⟨?_, ?_, ?_, ?_, ?_, ?_⟩ <;> simp [go_sem]
  have rc0 : (((w.alloc (.cells #[.string t.name, .slice t.us.a t.us.xs.length t.us.c, .slice t.vs.a t.vs.xs.length t.vs.c, .slice t.ra t.rows.length t.rc, .int .i64 t.side, .int .i64 t.sky] 61)).alloc (.cells #[.int .i64 x0, .int .i64 x1, .int .i64 y0, .int .i64 y1] 40)).alloc (.cells #[.int .i64 0, .int .i64 0] 35)).cell? ⟨w.heap.size + 1, 0, none⟩ = some (.int .i64 x0) ∧ (((w.alloc (.cells #[.string t.name, .slice t.us.a t.us.xs.length t.us.c, .slice t.vs.a t.vs.xs.length t.vs.c, .slice t.ra t.rows.length t.rc, .int .i64 t.side, .int .i64 t.sky] 61)).alloc (.cells #[.int .i64 x0, .int .i64 x1, .int .i64 y0, .int .i64 y1] 40)).alloc (.cells #[.int .i64 0, .int .i64 0] 35)).cell? ⟨w.heap.size + 1, 1, none⟩ = some (.int .i64 x1) ∧ (((w.alloc (.cells #[.string t.name, .slice t.us.a t.us.xs.length t.us.c, .slice t.vs.a t.vs.xs.length t.vs.c, .slice t.ra t.rows.length t.rc, .int .i64 t.side, .int .i64 t.sky] 61)).alloc (.cells #[.int .i64 x0, .int .i64 x1, .int .i64 y0, .int .i64 y1] 40)).alloc (.cells #[.int .i64 0, .int .i64 0] 35)).cell? ⟨w.heap.size + 1, 2, none⟩ = some (.int .i64 y0) ∧ (((w.alloc (.cells #[.string t.name, .slice t.us.a t.us.xs.length t.us.c, .slice t.vs.a t.vs.xs.length t.vs.c, .slice t.ra t.rows.length t.rc, .int .i64 t.side, .int .i64 t.sky] 61)).alloc (.cells #[.int .i64 x0, .int .i64 x1, .int .i64 y0, .int .i64 y1] 40)).alloc (.cells #[.int .i64 0, .int .i64 0] 35)).cell? ⟨w.heap.size + 1, 3, none⟩ = some (.int .i64 y1) := by refine ⟨?_, ?_, ?_, ?_⟩ <;> simp [go_sem]
  have sz0 : (((w.alloc (.cells #[.string t.name, .slice t.us.a t.us.xs.length t.us.c, .slice t.vs.a t.vs.xs.length t.vs.c, .slice t.ra t.rows.length t.rc, .int .i64 t.side, .int .i64 t.sky] 61)).alloc (.cells #[.int .i64 x0, .int .i64 x1, .int .i64 y0, .int .i64 y1] 40)).alloc (.cells #[.int .i64 0, .int .i64 0] 35)).heap.size = w.heap.size + 1 + 1 + 1 := by simp
  have BW0 := Lib.hid bw0
  have BZ0 := Lib.hid bz0
  have TC0 := Lib.hid tc0
  have RC0 := Lib.hid rc0
  have SZ0 := Lib.hid sz0
  have HUVR := Lib.hid (And.intro hu (And.intro hv hr))
  clear bw0 bz0 tc0 rc0 sz0 hu hv hr
  go_enter Try.func53, Try.ntmps53
  go_wp2_with fail
  generalize (((w.alloc (.cells #[.string t.name, .slice t.us.a t.us.xs.length t.us.c, .slice t.vs.a t.vs.xs.length t.vs.c, .slice t.ra t.rows.length t.rc, .int .i64 t.side, .int .i64 t.sky] 61)).alloc (.cells #[.int .i64 x0, .int .i64 x1, .int .i64 y0, .int .i64 y1] 40)).alloc (.cells #[.int .i64 0, .int .i64 0] 35)) = W0 at *
  -- what is read of old memory, in every later world
  have LU := Lib.hid (fun (W : World) (g : Below w.heap.size w W) => (HUVR.out.1.keep g (Nat.le_refl _)).more g.size)
  have LV := Lib.hid (fun (W : World) (g : Below w.heap.size w W) => (HUVR.out.2.1.keep g (Nat.le_refl _)).more g.size)
  have LR := Lib.hid (fun (W : World) (g : Below w.heap.size w W) => (HUVR.out.2.2.keep g (Nat.le_refl _)).more g.size)
  have ZW := Lib.hid (fun (W : World) (g : Below W0.heap.size W0 W) => BW0.out.trans (g.mono BW0.out.size))
  have KT := Lib.hid (show ∀ W : World, Below W0.heap.size W0 W → (W.cell? ⟨w.heap.size, 0, none⟩ = some (.string t.name) ∧ W.cell? ⟨w.heap.size, 1, none⟩ = some (.slice t.us.a t.us.xs.length t.us.c) ∧ W.cell? ⟨w.heap.size, 2, none⟩ = some (.slice t.vs.a t.vs.xs.length t.vs.c) ∧ W.cell? ⟨w.heap.size, 3, none⟩ = some (.slice t.ra t.rows.length t.rc) ∧ W.cell? ⟨w.heap.size, 4, none⟩ = some (.int .i64 t.side) ∧ W.cell? ⟨w.heap.size, 5, none⟩ = some (.int .i64 t.sky)) from fun W g => by
    have e : ∀ o : Nat, W.cell? ⟨w.heap.size, o, none⟩ = W0.cell? ⟨w.heap.size, o, none⟩ := fun o => g.cell (p := ⟨w.heap.size, o, none⟩) (by show w.heap.size < _; rw [SZ0.out]; omega)
    rw [e, e, e, e, e, e]; exact TC0.out)
  have KS := Lib.hid (show ∀ W : World, Below W0.heap.size W0 W → (W.cell? ⟨w.heap.size, 1, none⟩ = some (.slice t.us.a t.us.xs.length t.us.c) ∧ W.cell? ⟨w.heap.size, 2, none⟩ = some (.slice t.vs.a t.vs.xs.length t.vs.c) ∧ W.cell? ⟨w.heap.size + 1, 0, none⟩ = some (.int .i64 x0) ∧ W.cell? ⟨w.heap.size + 1, 1, none⟩ = some (.int .i64 x1) ∧ W.cell? ⟨w.heap.size + 1, 2, none⟩ = some (.int .i64 y0) ∧ W.cell? ⟨w.heap.size + 1, 3, none⟩ = some (.int .i64 y1)) from fun W g => by
    have e : ∀ o : Nat, W.cell? ⟨w.heap.size + 1, o, none⟩ = W0.cell? ⟨w.heap.size + 1, o, none⟩ := fun o => g.cell (p := ⟨w.heap.size + 1, o, none⟩) (by show w.heap.size + 1 < _; rw [SZ0.out]; omega)
    have k := KT.out W g
    rw [e, e, e, e]; exact ⟨k.2.1, k.2.2.1, RC0.out⟩)
  have CRU2 := Lib.hid (fun (W : World) (g : Below W0.heap.size W0 W) => CRU.out W (LU.out W (ZW.out W g)))
  have CRV2 := Lib.hid (fun (W : World) (g : Below W0.heap.size W0 W) => CRV.out W (LV.out W (ZW.out W g)))
  go_cut [7, 8] (fun s7 s8 wx => ∃ A c B d, s7 = .slice A U.length c ∧ s8 = .slice B V.length d ∧ IntsIn wx.heap.size A U wx ∧ IntsIn wx.heap.size B V wx ∧ Below W0.heap.size W0 wx)
  case first =>
    go_region_held3 (fun w' => w'.cell? ⟨w.heap.size, 1, none⟩ = some (.slice t.us.a t.us.xs.length t.us.c) ∧ w'.cell? ⟨w.heap.size, 2, none⟩ = some (.slice t.vs.a t.vs.xs.length t.vs.c) ∧ w'.cell? ⟨w.heap.size + 1, 0, none⟩ = some (.int .i64 x0) ∧ w'.cell? ⟨w.heap.size + 1, 1, none⟩ = some (.int .i64 x1) ∧ w'.cell? ⟨w.heap.size + 1, 2, none⟩ = some (.int .i64 y0) ∧ w'.cell? ⟨w.heap.size + 1, 3, none⟩ = some (.int .i64 y1))
      ((refine KS.out _ ?_; (repeat' (first | (with_reducible exact Below.refl _ _) | (with_reducible refine Below.drew ?_) | (with_reducible refine Below.alloc ?_ ?_ _) | (with_reducible refine Below.setCell ?_ ?_ _) | (with_reducible refine Below.trans ?_ (bU.mono ?_)) | (with_reducible refine Below.trans ?_ (bV.mono ?_)))); all_goals (first | (simp; done) | (simp; omega) | omega)))
      (first | (go_at_call 87; (with_reducible refine Calls.mono (CRU2.out _ ?_) ?_); (focus ((repeat' (first | (with_reducible exact Below.refl _ _) | (with_reducible refine Below.drew ?_) | (with_reducible refine Below.alloc ?_ ?_ _) | (with_reducible refine Below.setCell ?_ ?_ _) | (with_reducible refine Below.trans ?_ (bU.mono ?_)) | (with_reducible refine Below.trans ?_ (bV.mono ?_)))); all_goals (first | (simp; done) | (simp; omega) | omega))); (rintro e wU ⟨AU, cU, rfl, iU, bU⟩; have zU := bU.size; (try simp at zU))) | (go_at_call 87; (with_reducible refine Calls.mono (CRV2.out _ ?_) ?_); (focus ((repeat' (first | (with_reducible exact Below.refl _ _) | (with_reducible refine Below.drew ?_) | (with_reducible refine Below.alloc ?_ ?_ _) | (with_reducible refine Below.setCell ?_ ?_ _) | (with_reducible refine Below.trans ?_ (bU.mono ?_)) | (with_reducible refine Below.trans ?_ (bV.mono ?_)))); all_goals (first | (simp; done) | (simp; omega) | omega))); (rintro e wV ⟨AV, cV, rfl, iV, bV⟩; have zV := bV.size; (try simp at zV))))
    all_goals go_wp2_with fail
    all_goals go_meet
    all_goals
      case rel =>
        refine ⟨_, _, _, _, rfl, rfl, ?_, ?_, ?_⟩
        · first | exact iU | exact (iU.keep bV (Nat.le_refl _)).more bV.size
        · first | exact iV | exact (iV.keep bU (Nat.le_refl _)).more bU.size
        · (repeat' (first | (with_reducible exact Below.refl _ _) | (with_reducible refine Below.drew ?_) | (with_reducible refine Below.alloc ?_ ?_ _) | (with_reducible refine Below.setCell ?_ ?_ _) | (with_reducible refine Below.trans ?_ (bU.mono ?_)) | (with_reducible refine Below.trans ?_ (bV.mono ?_)))); all_goals (first | (simp; done) | (simp; omega) | omega)
  case rest =>
    obtain ⟨A, c, B, d, rfl, rfl, iU, iV, bw1⟩ := hcut
    have IU := Lib.hid iU
    have IV := Lib.hid iV
    have BW1 := Lib.hid bw1
    clear iU iV bw1 CRU CRV CRU2 CRV2 KS RC0
    obtain ⟨wq, rfl⟩ : ∃ wq : World, wq = wc := ⟨_, rfl⟩
    go_wp2_with fail
    have BD := Lib.hid (Bq.fresh wq 0 0 35)
    have WD := Lib.hid (below_new wq (.cells #[.int .i64 0, .int .i64 0] 35))
    have SC := Lib.hid (show w.heap.size + 1 + 1 + 1 ≤ wq.heap.size from SZ0.out ▸ BW1.out.size)
    generalize hD : wq.alloc (.cells #[.int .i64 0, .int .i64 0] 35) = W1 at *
    clear hD
    have KU := Lib.hid (fun (W : World) (g : Below wq.heap.size wq W) => BW1.out.trans (g.mono BW1.out.size))
    obtain ⟨ub, uo, rfl, hub, huc⟩ := IU.out.2 (by omega)
    obtain ⟨vb, vo, rfl, hvb, hvc⟩ := IV.out.2 (by omega)
    have KC := Lib.hid (show ∀ (W : World) (i k : Nat), i < U.length → k < V.length → Below wq.heap.size wq W → (W.cell? ⟨w.heap.size, 0, none⟩ = some (.string t.name) ∧ W.cell? ⟨w.heap.size, 1, none⟩ = some (.slice t.us.a t.us.xs.length t.us.c) ∧ W.cell? ⟨w.heap.size, 2, none⟩ = some (.slice t.vs.a t.vs.xs.length t.vs.c) ∧ W.cell? ⟨w.heap.size, 3, none⟩ = some (.slice t.ra t.rows.length t.rc) ∧ W.cell? ⟨w.heap.size, 4, none⟩ = some (.int .i64 t.side) ∧ W.cell? ⟨w.heap.size, 5, none⟩ = some (.int .i64 t.sky) ∧ W.cell? ⟨ub, uo + i, none⟩ = some (.int .i64 (nth U i)) ∧ W.cell? ⟨vb, vo + k, none⟩ = some (.int .i64 (nth V k))) from fun W i k hi hk g => by
      have k0 := KT.out W (KU.out W g)
      refine ⟨k0.1, k0.2.1, k0.2.2.1, k0.2.2.2.1, k0.2.2.2.2.1, k0.2.2.2.2.2, ?_, ?_⟩
      · rw [g.cell (p := ⟨ub, uo + i, none⟩) hub]; exact huc i hi
      · rw [g.cell (p := ⟨vb, vo + k, none⟩) hvb]; exact hvc k hk)
    clear huc hvc
    go_loopg [9, 11] U.length (fun n b' i' wr => ∃ (i : Nat) (x y : Int), i ≤ U.length ∧ n = U.length - i ∧ i' = .int .i64 i ∧ b' = .bool (allF t h U V i).isEmpty ∧ Hid ((allF t h U V i).isEmpty = false → x = hullLo (allF t h U V i) ∧ y = hullHi (allF t h U V i)) ∧ Hid (Bq wq.heap.size x y wr) ∧ Below wq.heap.size wq wr)
    case atStart => exact ⟨0, 0, 0, by omega, by omega, rfl, rfl, fun g => (by cases g), BD.out, WD.out⟩
    case round =>
      obtain ⟨i, x, y, hi, hn0, rfl, rfl, hxy, hbq, hbw⟩ := hrel
      have HN := Lib.hid hn0
      clear hn0
      by_cases hlt : i < U.length
      · go_wp2_with fail
        go_loopg [9, 12] V.length (fun n b' k' wr => ∃ (k : Nat) (x y : Int), k ≤ V.length ∧ n = V.length - k ∧ k' = .int .i64 k ∧ b' = .bool (allF t h U V i ++ rowF t h U V i k).isEmpty ∧ Hid ((allF t h U V i ++ rowF t h U V i k).isEmpty = false → x = hullLo (allF t h U V i ++ rowF t h U V i k) ∧ y = hullHi (allF t h U V i ++ rowF t h U V i k)) ∧ Hid (Bq wq.heap.size x y wr) ∧ Below wq.heap.size wq wr)
        case atStart =>
          have e0 : allF t h U V i ++ rowF t h U V i 0 = allF t h U V i := by rw [show rowF t h U V i 0 = [] from rfl, List.append_nil]
          exact ⟨0, x, y, by omega, by omega, rfl, by rw [e0], by rw [e0]; exact hxy, hbq, hbw⟩
        case round =>
          clear hxy hbq hbw
          obtain ⟨k, x, y, hk, hn0, rfl, rfl, hxy, hbq, hbw⟩ := hrel
          have HNN := Lib.hid hn0
          clear hn0
          by_cases hlt2 : k < V.length
          · have HR1 : Hid (allF t h U V i ++ rowF t h U V i (k + 1) = (allF t h U V i ++ rowF t h U V i k) ++ cellF t h U V i k) := by show _ = _; rw [rowF_succ, List.append_assoc]
            have HCE := Lib.hid (And.intro (cellF_yes (t := t) (h := h) (U := U) (V := V) (i := i) (k := k)) (cellF_no (t := t) (h := h) (U := U) (V := V) (i := i) (k := k)))
            obtain ⟨F, hF⟩ : ∃ F, allF t h U V i ++ rowF t h U V i k = F := ⟨_, rfl⟩
            rw [hF] at HR1 hxy ⊢
            have BWR := Lib.hid hbw
            have KCR := Lib.hid (fun (W : World) (g : Below wr.heap.size wr W) => KC.out W i k hlt hlt2 (BWR.out.trans (g.mono BWR.out.size)))
            have TOW := Lib.hid (fun (W : World) (g : Below wr.heap.size wr W) => ZW.out W (KU.out W (BWR.out.trans (g.mono BWR.out.size))))
            have INS2 := Lib.hid (fun (W : World) (g : Below wr.heap.size wr W) => INS.out W (nth U i) (nth V k) (LU.out W (TOW.out W g)) (LV.out W (TOW.out W g)))
            have INT2 := Lib.hid (fun (W : World) (g : Below wr.heap.size wr W) => INT.out W (nth U i) (nth V k) (LU.out W (TOW.out W g)) (LV.out W (TOW.out W g)) (LR.out W (TOW.out W g)))
            clear hF hbw
            obtain ⟨b, hb⟩ : ∃ b, insB t (nth U i) (nth V k) h = b := ⟨_, rfl⟩
            obtain ⟨r, hr⟩ : ∃ r, rval t h (nth U i) (nth V k) = r := ⟨_, rfl⟩
            rw [hb] at INS2 HCE
            rw [hr] at INT2 HCE
            clear hb hr
            have l1 : (i : Int) < (U.length : Int) := by omega
            have l2 : (k : Int) < (V.length : Int) := by omega
            go_upto_region 10 with fail
            go_cut [61] (fun s61 wx => s61 = .bool (!b && (decide (1 < i) || decide (1 < k))) ∧ Below wr.heap.size wr wx)
            case first =>
              cases b
              · by_cases g1 : 1 < i
                · have g1' : decide ((1 : Int) < (i : Int)) = true := decide_eq_true (by omega)
                  refine wp_region_held_drew (S := fun w' => w'.cell? ⟨w.heap.size, 0, none⟩ = some (.string t.name) ∧ w'.cell? ⟨w.heap.size, 1, none⟩ = some (.slice t.us.a t.us.xs.length t.us.c) ∧ w'.cell? ⟨w.heap.size, 2, none⟩ = some (.slice t.vs.a t.vs.xs.length t.vs.c) ∧ w'.cell? ⟨w.heap.size, 3, none⟩ = some (.slice t.ra t.rows.length t.rc) ∧ w'.cell? ⟨w.heap.size, 4, none⟩ = some (.int .i64 t.side) ∧ w'.cell? ⟨w.heap.size, 5, none⟩ = some (.int .i64 t.sky) ∧ w'.cell? ⟨ub, uo + i, none⟩ = some (.int .i64 (nth U i)) ∧ w'.cell? ⟨vb, vo + k, none⟩ = some (.int .i64 (nth V k))) (by kernel_rfl) ?_ (fun hHeld => ?_)
                  · (refine KCR.out _ ?_; (repeat' (first | (with_reducible exact Below.refl _ _) | (with_reducible refine Below.drew ?_) | (with_reducible refine Below.alloc ?_ ?_ _) | (with_reducible refine Below.setCell ?_ ?_ _) | (with_reducible refine Below.trans ?_ (hbv.mono ?_)))); all_goals (first | (simp; done) | (simp; omega) | omega))
                  refine wpAnyH_take (i := 0) (v := ?_) rfl (by kernel_rfl) (by kernel_rfl) (by kernel_rfl) (fun _ _ _ h => h) (Or.inl ⟨by rfl, ?_⟩) (by assumption) ?_
                  rotate_left
                  (focus (intro ww hSw; (try dsimp only at hSw); go_simp; (try with_reducible rfl)))
                  (try simp only [Act.put, List.setIfInBounds_toArray, List.set_cons_zero, List.set_cons_succ, List.getElem_toArray, List.getElem_cons_zero, List.getElem_cons_succ])
                  refine wpAnyH_take (i := 1) (v := ?_) rfl (by kernel_rfl) (by kernel_rfl) (by kernel_rfl) (fun _ _ _ h => h) (Or.inl ⟨by rfl, ?_⟩) (by assumption) ?_
                  rotate_left
                  (focus (intro ww hSw; (try dsimp only at hSw); go_simp; (try with_reducible rfl)))
                  (try simp only [Act.put, List.setIfInBounds_toArray, List.set_cons_zero, List.set_cons_succ, List.getElem_toArray, List.getElem_cons_zero, List.getElem_cons_succ])
                  refine wpAnyH_take (i := 2) (v := ?_) rfl (by kernel_rfl) (by kernel_rfl) (by kernel_rfl) (fun _ _ _ h => h) (Or.inl ⟨by rfl, ?_⟩) (by assumption) ?_
                  rotate_left
                  (focus (intro ww hSw; (try dsimp only at hSw); go_simp; (try with_reducible rfl)))
                  (try simp only [Act.put, List.setIfInBounds_toArray, List.set_cons_zero, List.set_cons_succ, List.getElem_toArray, List.getElem_cons_zero, List.getElem_cons_succ])
                  refine wpAnyH_take (i := 3) (v := ?_) rfl (by kernel_rfl) (by kernel_rfl) (by kernel_rfl) (fun _ _ _ h => h) (Or.inl ⟨by rfl, ?_⟩) (by assumption) ?_
                  rotate_left
                  (focus (intro ww hSw; (try dsimp only at hSw); go_simp; (try with_reducible rfl)))
                  (try simp only [Act.put, List.setIfInBounds_toArray, List.set_cons_zero, List.set_cons_succ, List.getElem_toArray, List.getElem_cons_zero, List.getElem_cons_succ])
                  refine wpAnyH_take (i := 4) (v := ?_) rfl (by kernel_rfl) (by kernel_rfl) (by kernel_rfl) (fun _ _ _ h => h) (Or.inl ⟨by rfl, ?_⟩) (by assumption) ?_
                  rotate_left
                  (focus (intro ww hSw; (try dsimp only at hSw); go_simp; (try with_reducible rfl)))
                  (try simp only [Act.put, List.setIfInBounds_toArray, List.set_cons_zero, List.set_cons_succ, List.getElem_toArray, List.getElem_cons_zero, List.getElem_cons_succ])
                  refine wpAnyH_take (i := 5) (v := ?_) rfl (by kernel_rfl) (by kernel_rfl) (by kernel_rfl) (fun _ _ _ h => h) (Or.inl ⟨by rfl, ?_⟩) (by assumption) ?_
                  rotate_left
                  (focus (intro ww hSw; (try dsimp only at hSw); go_simp; (try with_reducible rfl)))
                  (try simp only [Act.put, List.setIfInBounds_toArray, List.set_cons_zero, List.set_cons_succ, List.getElem_toArray, List.getElem_cons_zero, List.getElem_cons_succ])
                  refine wpAnyH_take (i := 6) (v := ?_) rfl (by kernel_rfl) (by kernel_rfl) (by kernel_rfl) (fun _ _ _ h => h) (Or.inl ⟨by rfl, ?_⟩) (by assumption) ?_
                  rotate_left
                  (focus (intro ww hSw; (try dsimp only at hSw); go_simp; (try with_reducible rfl)))
                  (try simp only [Act.put, List.setIfInBounds_toArray, List.set_cons_zero, List.set_cons_succ, List.getElem_toArray, List.getElem_cons_zero, List.getElem_cons_succ])
                  refine wpAnyH_take (i := 7) (v := ?_) rfl (by kernel_rfl) (by kernel_rfl) (by kernel_rfl) (fun _ _ _ h => h) (Or.inl ⟨by rfl, ?_⟩) (by assumption) ?_
                  rotate_left
                  (focus (intro ww hSw; (try dsimp only at hSw); go_simp; (try with_reducible rfl)))
                  (try simp only [Act.put, List.setIfInBounds_toArray, List.set_cons_zero, List.set_cons_succ, List.getElem_toArray, List.getElem_cons_zero, List.getElem_cons_succ])
                  refine wpAnyH_take (i := 8) (v := ?_) rfl (by kernel_rfl) (by kernel_rfl) (by kernel_rfl) (fun _ _ _ h => h) (Or.inl ⟨by rfl, ?_⟩) (by assumption) ?_
                  rotate_left
                  (focus (intro ww hSw; (try dsimp only at hSw); go_simp; (try with_reducible rfl)))
                  (try simp only [Act.put, List.setIfInBounds_toArray, List.set_cons_zero, List.set_cons_succ, List.getElem_toArray, List.getElem_cons_zero, List.getElem_cons_succ])
                  refine wpAnyH_take (i := 9) (v := ?_) rfl (by kernel_rfl) (by kernel_rfl) (by kernel_rfl) (fun _ _ _ h => h) (Or.inl ⟨by rfl, ?_⟩) (by assumption) ?_
                  rotate_left
                  (focus (intro ww hSw; (try dsimp only at hSw); go_simp; (try with_reducible rfl)))
                  (try simp only [Act.put, List.setIfInBounds_toArray, List.set_cons_zero, List.set_cons_succ, List.getElem_toArray, List.getElem_cons_zero, List.getElem_cons_succ])
                  refine wpAnyH_ready (rs := [10]) (by kernel_rfl) (by simp) ?_
                  refine AllReadyH.cons rfl (fun K hK => ?_) AllReadyH.nil
                  go_simp
                  (go_at_call 78; (with_reducible refine Calls.mono (INS2.out _ ?_) ?_); (focus ((repeat' (first | (with_reducible exact Below.refl _ _) | (with_reducible refine Below.drew ?_) | (with_reducible refine Below.alloc ?_ ?_ _) | (with_reducible refine Below.setCell ?_ ?_ _) | (with_reducible refine Below.trans ?_ (hbv.mono ?_)))); all_goals (first | (simp; done) | (simp; omega) | omega))); (rintro e wv ⟨rfl, hov⟩; have hbv := hov.below; clear hov; have zV := hbv.size; (try simp at zV)))
                  (try go_wp2_with fail)
                  refine hK.out _ _ ?_ (fun hHeld => ?_)
                  · (refine KCR.out _ ?_; (repeat' (first | (with_reducible exact Below.refl _ _) | (with_reducible refine Below.drew ?_) | (with_reducible refine Below.alloc ?_ ?_ _) | (with_reducible refine Below.setCell ?_ ?_ _) | (with_reducible refine Below.trans ?_ (hbv.mono ?_)))); all_goals (first | (simp; done) | (simp; omega) | omega))
                  clear hK K
                  (try simp only [Act.put, List.setIfInBounds_toArray, List.set_cons_zero, List.set_cons_succ, List.getElem_toArray, List.getElem_cons_zero, List.getElem_cons_succ])
                  refine wpAnyH_take (i := 11) (v := ?_) rfl (by kernel_rfl) (by kernel_rfl) (by kernel_rfl) (fun _ _ _ h => h) (Or.inl ⟨by rfl, ?_⟩) (by assumption) ?_
                  rotate_left
                  (focus (intro ww hSw; (try dsimp only at hSw); go_simp; (try with_reducible rfl)))
                  (try simp only [Act.put, List.setIfInBounds_toArray, List.set_cons_zero, List.set_cons_succ, List.getElem_toArray, List.getElem_cons_zero, List.getElem_cons_succ])
                  refine wpAnyH_take (i := 12) (v := ?_) rfl (by kernel_rfl) (by kernel_rfl) (by kernel_rfl) (fun _ _ _ h => h) (Or.inl ⟨by rfl, ?_⟩) (by assumption) ?_
                  rotate_left
                  (focus (intro ww hSw; (try dsimp only at hSw); go_simp; (try with_reducible rfl)))
                  (try simp only [Act.put, List.setIfInBounds_toArray, List.set_cons_zero, List.set_cons_succ, List.getElem_toArray, List.getElem_cons_zero, List.getElem_cons_succ])
                  refine wpAnyH_take (i := 13) (v := ?_) rfl (by kernel_rfl) (by kernel_rfl) (by kernel_rfl) (fun _ _ _ h => h) (Or.inl ⟨by rfl, ?_⟩) (by assumption) ?_
                  rotate_left
                  (focus (intro ww hSw; (try dsimp only at hSw); go_simp; (try with_reducible rfl)))
                  (try simp only [Act.put, List.setIfInBounds_toArray, List.set_cons_zero, List.set_cons_succ, List.getElem_toArray, List.getElem_cons_zero, List.getElem_cons_succ])
                  refine wpAnyH_take (i := 14) (v := ?_) rfl (by kernel_rfl) (by kernel_rfl) (by kernel_rfl) (fun _ _ _ h => h) (Or.inl ⟨by rfl, ?_⟩) (by assumption) ?_
                  rotate_left
                  (focus (intro ww hSw; (try dsimp only at hSw); go_simp; (try with_reducible rfl)))
                  (try simp only [Act.put, List.setIfInBounds_toArray, List.set_cons_zero, List.set_cons_succ, List.getElem_toArray, List.getElem_cons_zero, List.getElem_cons_succ])
                  refine wpAnyH_take (i := 15) (v := ?_) rfl (by kernel_rfl) (by kernel_rfl) (by kernel_rfl) (fun _ _ _ h => h) (Or.inl ⟨by rfl, ?_⟩) (by assumption) ?_
                  rotate_left
                  (focus (intro ww hSw; (try dsimp only at hSw); go_simp; (try with_reducible rfl)))
                  (try simp only [Act.put, List.setIfInBounds_toArray, List.set_cons_zero, List.set_cons_succ, List.getElem_toArray, List.getElem_cons_zero, List.getElem_cons_succ])
                  refine wpAnyH_take (i := 16) rfl (by kernel_rfl) (by kernel_rfl) (by kernel_rfl) (fun _ _ _ h => h) (Or.inr ⟨by rfl, rfl⟩) (by assumption) ?_
                  (try simp only [Act.put, List.setIfInBounds_toArray, List.set_cons_zero, List.set_cons_succ, List.getElem_toArray, List.getElem_cons_zero, List.getElem_cons_succ])
                  refine wpAnyH_take (i := 17) rfl (by kernel_rfl) (by kernel_rfl) (by kernel_rfl) (fun _ _ _ h => h) (Or.inr ⟨by rfl, rfl⟩) (by assumption) ?_
                  (try simp only [Act.put, List.setIfInBounds_toArray, List.set_cons_zero, List.set_cons_succ, List.getElem_toArray, List.getElem_cons_zero, List.getElem_cons_succ])
                  refine wpAnyH_take (i := 18) (v := ?_) rfl (by kernel_rfl) (by kernel_rfl) (by kernel_rfl) (fun _ _ _ h => h) (Or.inl ⟨by rfl, ?_⟩) (by assumption) ?_
                  rotate_left
                  (focus (intro ww hSw; (try dsimp only at hSw); go_simp; (try with_reducible rfl)))
                  (try simp only [Act.put, List.setIfInBounds_toArray, List.set_cons_zero, List.set_cons_succ, List.getElem_toArray, List.getElem_cons_zero, List.getElem_cons_succ])
                  refine wpAnyH_take (i := 19) (v := ?_) rfl (by kernel_rfl) (by kernel_rfl) (by kernel_rfl) (fun _ _ _ h => h) (Or.inl ⟨by rfl, ?_⟩) (by assumption) ?_
                  rotate_left
                  (focus (intro ww hSw; (try dsimp only at hSw); go_simp; (try with_reducible rfl)))
                  (try simp only [Act.put, List.setIfInBounds_toArray, List.set_cons_zero, List.set_cons_succ, List.getElem_toArray, List.getElem_cons_zero, List.getElem_cons_succ])
                  refine wpAnyH_done (by kernel_rfl) ?_ _
                  all_goals go_wp2_with fail
                  all_goals go_meet
                  all_goals
                    case rel =>
                      refine ⟨?_, ?_⟩
                      · first | rfl | (simp [*]; done) | simp
                      · (repeat' (first | (with_reducible exact Below.refl _ _) | (with_reducible refine Below.drew ?_) | (with_reducible refine Below.alloc ?_ ?_ _) | (with_reducible refine Below.setCell ?_ ?_ _) | (with_reducible refine Below.trans ?_ (hbv.mono ?_)))); all_goals (first | (simp; done) | (simp; omega) | omega)
                · have g1' : decide ((1 : Int) < (i : Int)) = false := decide_eq_false (by omega)
                  by_cases g2 : 1 < k
                  · have g2' : decide ((1 : Int) < (k : Int)) = true := decide_eq_true (by omega)
                    go_region_held3 (fun w' => w'.cell? ⟨w.heap.size, 0, none⟩ = some (.string t.name) ∧ w'.cell? ⟨w.heap.size, 1, none⟩ = some (.slice t.us.a t.us.xs.length t.us.c) ∧ w'.cell? ⟨w.heap.size, 2, none⟩ = some (.slice t.vs.a t.vs.xs.length t.vs.c) ∧ w'.cell? ⟨w.heap.size, 3, none⟩ = some (.slice t.ra t.rows.length t.rc) ∧ w'.cell? ⟨w.heap.size, 4, none⟩ = some (.int .i64 t.side) ∧ w'.cell? ⟨w.heap.size, 5, none⟩ = some (.int .i64 t.sky) ∧ w'.cell? ⟨ub, uo + i, none⟩ = some (.int .i64 (nth U i)) ∧ w'.cell? ⟨vb, vo + k, none⟩ = some (.int .i64 (nth V k)))
                      ((refine KCR.out _ ?_; (repeat' (first | (with_reducible exact Below.refl _ _) | (with_reducible refine Below.drew ?_) | (with_reducible refine Below.alloc ?_ ?_ _) | (with_reducible refine Below.setCell ?_ ?_ _) | (with_reducible refine Below.trans ?_ (hbv.mono ?_)))); all_goals (first | (simp; done) | (simp; omega) | omega)))
                      (first | (go_at_call 78; (with_reducible refine Calls.mono (INS2.out _ ?_) ?_); (focus ((repeat' (first | (with_reducible exact Below.refl _ _) | (with_reducible refine Below.drew ?_) | (with_reducible refine Below.alloc ?_ ?_ _) | (with_reducible refine Below.setCell ?_ ?_ _) | (with_reducible refine Below.trans ?_ (hbv.mono ?_)))); all_goals (first | (simp; done) | (simp; omega) | omega))); (rintro e wv ⟨rfl, hov⟩; have hbv := hov.below; clear hov; have zV := hbv.size; (try simp at zV))))
                    all_goals go_wp2_with fail
                    all_goals go_meet
                    all_goals
                      case rel =>
                        refine ⟨?_, ?_⟩
                        · first | rfl | (simp [*]; done) | simp
                        · (repeat' (first | (with_reducible exact Below.refl _ _) | (with_reducible refine Below.drew ?_) | (with_reducible refine Below.alloc ?_ ?_ _) | (with_reducible refine Below.setCell ?_ ?_ _) | (with_reducible refine Below.trans ?_ (hbv.mono ?_)))); all_goals (first | (simp; done) | (simp; omega) | omega)
                  · have g2' : decide ((1 : Int) < (k : Int)) = false := decide_eq_false (by omega)
                    go_region_held3 (fun w' => w'.cell? ⟨w.heap.size, 0, none⟩ = some (.string t.name) ∧ w'.cell? ⟨w.heap.size, 1, none⟩ = some (.slice t.us.a t.us.xs.length t.us.c) ∧ w'.cell? ⟨w.heap.size, 2, none⟩ = some (.slice t.vs.a t.vs.xs.length t.vs.c) ∧ w'.cell? ⟨w.heap.size, 3, none⟩ = some (.slice t.ra t.rows.length t.rc) ∧ w'.cell? ⟨w.heap.size, 4, none⟩ = some (.int .i64 t.side) ∧ w'.cell? ⟨w.heap.size, 5, none⟩ = some (.int .i64 t.sky) ∧ w'.cell? ⟨ub, uo + i, none⟩ = some (.int .i64 (nth U i)) ∧ w'.cell? ⟨vb, vo + k, none⟩ = some (.int .i64 (nth V k)))
                      ((refine KCR.out _ ?_; (repeat' (first | (with_reducible exact Below.refl _ _) | (with_reducible refine Below.drew ?_) | (with_reducible refine Below.alloc ?_ ?_ _) | (with_reducible refine Below.setCell ?_ ?_ _) | (with_reducible refine Below.trans ?_ (hbv.mono ?_)))); all_goals (first | (simp; done) | (simp; omega) | omega)))
                      (first | (go_at_call 78; (with_reducible refine Calls.mono (INS2.out _ ?_) ?_); (focus ((repeat' (first | (with_reducible exact Below.refl _ _) | (with_reducible refine Below.drew ?_) | (with_reducible refine Below.alloc ?_ ?_ _) | (with_reducible refine Below.setCell ?_ ?_ _) | (with_reducible refine Below.trans ?_ (hbv.mono ?_)))); all_goals (first | (simp; done) | (simp; omega) | omega))); (rintro e wv ⟨rfl, hov⟩; have hbv := hov.below; clear hov; have zV := hbv.size; (try simp at zV))))
                    all_goals go_wp2_with fail
                    all_goals go_meet
                    all_goals
                      case rel =>
                        refine ⟨?_, ?_⟩
                        · first | rfl | (simp [*]; done) | simp
                        · (repeat' (first | (with_reducible exact Below.refl _ _) | (with_reducible refine Below.drew ?_) | (with_reducible refine Below.alloc ?_ ?_ _) | (with_reducible refine Below.setCell ?_ ?_ _) | (with_reducible refine Below.trans ?_ (hbv.mono ?_)))); all_goals (first | (simp; done) | (simp; omega) | omega)
              · refine wp_region_held_drew (S := fun w' => w'.cell? ⟨w.heap.size, 0, none⟩ = some (.string t.name) ∧ w'.cell? ⟨w.heap.size, 1, none⟩ = some (.slice t.us.a t.us.xs.length t.us.c) ∧ w'.cell? ⟨w.heap.size, 2, none⟩ = some (.slice t.vs.a t.vs.xs.length t.vs.c) ∧ w'.cell? ⟨w.heap.size, 3, none⟩ = some (.slice t.ra t.rows.length t.rc) ∧ w'.cell? ⟨w.heap.size, 4, none⟩ = some (.int .i64 t.side) ∧ w'.cell? ⟨w.heap.size, 5, none⟩ = some (.int .i64 t.sky) ∧ w'.cell? ⟨ub, uo + i, none⟩ = some (.int .i64 (nth U i)) ∧ w'.cell? ⟨vb, vo + k, none⟩ = some (.int .i64 (nth V k))) (by kernel_rfl) ?_ (fun hHeld => ?_)
                · (refine KCR.out _ ?_; (repeat' (first | (with_reducible exact Below.refl _ _) | (with_reducible refine Below.drew ?_) | (with_reducible refine Below.alloc ?_ ?_ _) | (with_reducible refine Below.setCell ?_ ?_ _) | (with_reducible refine Below.trans ?_ (hbv.mono ?_)))); all_goals (first | (simp; done) | (simp; omega) | omega))
                refine wpAnyH_take (i := 0) (v := ?_) rfl (by kernel_rfl) (by kernel_rfl) (by kernel_rfl) (fun _ _ _ h => h) (Or.inl ⟨by rfl, ?_⟩) (by assumption) ?_
                rotate_left
                (focus (intro ww hSw; (try dsimp only at hSw); go_simp; (try with_reducible rfl)))
                (try simp only [Act.put, List.setIfInBounds_toArray, List.set_cons_zero, List.set_cons_succ, List.getElem_toArray, List.getElem_cons_zero, List.getElem_cons_succ])
                refine wpAnyH_take (i := 1) (v := ?_) rfl (by kernel_rfl) (by kernel_rfl) (by kernel_rfl) (fun _ _ _ h => h) (Or.inl ⟨by rfl, ?_⟩) (by assumption) ?_
                rotate_left
                (focus (intro ww hSw; (try dsimp only at hSw); go_simp; (try with_reducible rfl)))
                (try simp only [Act.put, List.setIfInBounds_toArray, List.set_cons_zero, List.set_cons_succ, List.getElem_toArray, List.getElem_cons_zero, List.getElem_cons_succ])
                refine wpAnyH_take (i := 2) (v := ?_) rfl (by kernel_rfl) (by kernel_rfl) (by kernel_rfl) (fun _ _ _ h => h) (Or.inl ⟨by rfl, ?_⟩) (by assumption) ?_
                rotate_left
                (focus (intro ww hSw; (try dsimp only at hSw); go_simp; (try with_reducible rfl)))
                (try simp only [Act.put, List.setIfInBounds_toArray, List.set_cons_zero, List.set_cons_succ, List.getElem_toArray, List.getElem_cons_zero, List.getElem_cons_succ])
                refine wpAnyH_take (i := 3) (v := ?_) rfl (by kernel_rfl) (by kernel_rfl) (by kernel_rfl) (fun _ _ _ h => h) (Or.inl ⟨by rfl, ?_⟩) (by assumption) ?_
                rotate_left
                (focus (intro ww hSw; (try dsimp only at hSw); go_simp; (try with_reducible rfl)))
                (try simp only [Act.put, List.setIfInBounds_toArray, List.set_cons_zero, List.set_cons_succ, List.getElem_toArray, List.getElem_cons_zero, List.getElem_cons_succ])
                refine wpAnyH_take (i := 4) (v := ?_) rfl (by kernel_rfl) (by kernel_rfl) (by kernel_rfl) (fun _ _ _ h => h) (Or.inl ⟨by rfl, ?_⟩) (by assumption) ?_
                rotate_left
                (focus (intro ww hSw; (try dsimp only at hSw); go_simp; (try with_reducible rfl)))
                (try simp only [Act.put, List.setIfInBounds_toArray, List.set_cons_zero, List.set_cons_succ, List.getElem_toArray, List.getElem_cons_zero, List.getElem_cons_succ])
                refine wpAnyH_take (i := 5) (v := ?_) rfl (by kernel_rfl) (by kernel_rfl) (by kernel_rfl) (fun _ _ _ h => h) (Or.inl ⟨by rfl, ?_⟩) (by assumption) ?_
                rotate_left
                (focus (intro ww hSw; (try dsimp only at hSw); go_simp; (try with_reducible rfl)))
                (try simp only [Act.put, List.setIfInBounds_toArray, List.set_cons_zero, List.set_cons_succ, List.getElem_toArray, List.getElem_cons_zero, List.getElem_cons_succ])
                refine wpAnyH_take (i := 6) (v := ?_) rfl (by kernel_rfl) (by kernel_rfl) (by kernel_rfl) (fun _ _ _ h => h) (Or.inl ⟨by rfl, ?_⟩) (by assumption) ?_
                rotate_left
                (focus (intro ww hSw; (try dsimp only at hSw); go_simp; (try with_reducible rfl)))
                (try simp only [Act.put, List.setIfInBounds_toArray, List.set_cons_zero, List.set_cons_succ, List.getElem_toArray, List.getElem_cons_zero, List.getElem_cons_succ])
                refine wpAnyH_take (i := 7) (v := ?_) rfl (by kernel_rfl) (by kernel_rfl) (by kernel_rfl) (fun _ _ _ h => h) (Or.inl ⟨by rfl, ?_⟩) (by assumption) ?_
                rotate_left
                (focus (intro ww hSw; (try dsimp only at hSw); go_simp; (try with_reducible rfl)))
                (try simp only [Act.put, List.setIfInBounds_toArray, List.set_cons_zero, List.set_cons_succ, List.getElem_toArray, List.getElem_cons_zero, List.getElem_cons_succ])
                refine wpAnyH_take (i := 8) (v := ?_) rfl (by kernel_rfl) (by kernel_rfl) (by kernel_rfl) (fun _ _ _ h => h) (Or.inl ⟨by rfl, ?_⟩) (by assumption) ?_
                rotate_left
                (focus (intro ww hSw; (try dsimp only at hSw); go_simp; (try with_reducible rfl)))
                (try simp only [Act.put, List.setIfInBounds_toArray, List.set_cons_zero, List.set_cons_succ, List.getElem_toArray, List.getElem_cons_zero, List.getElem_cons_succ])
                refine wpAnyH_take (i := 9) (v := ?_) rfl (by kernel_rfl) (by kernel_rfl) (by kernel_rfl) (fun _ _ _ h => h) (Or.inl ⟨by rfl, ?_⟩) (by assumption) ?_
                rotate_left
                (focus (intro ww hSw; (try dsimp only at hSw); go_simp; (try with_reducible rfl)))
                (try simp only [Act.put, List.setIfInBounds_toArray, List.set_cons_zero, List.set_cons_succ, List.getElem_toArray, List.getElem_cons_zero, List.getElem_cons_succ])
                refine wpAnyH_ready (rs := [10]) (by kernel_rfl) (by simp) ?_
                refine AllReadyH.cons rfl (fun K hK => ?_) AllReadyH.nil
                go_simp
                (go_at_call 78; (with_reducible refine Calls.mono (INS2.out _ ?_) ?_); (focus ((repeat' (first | (with_reducible exact Below.refl _ _) | (with_reducible refine Below.drew ?_) | (with_reducible refine Below.alloc ?_ ?_ _) | (with_reducible refine Below.setCell ?_ ?_ _) | (with_reducible refine Below.trans ?_ (hbv.mono ?_)))); all_goals (first | (simp; done) | (simp; omega) | omega))); (rintro e wv ⟨rfl, hov⟩; have hbv := hov.below; clear hov; have zV := hbv.size; (try simp at zV)))
                (try go_wp2_with fail)
                refine hK.out _ _ ?_ (fun hHeld => ?_)
                · (refine KCR.out _ ?_; (repeat' (first | (with_reducible exact Below.refl _ _) | (with_reducible refine Below.drew ?_) | (with_reducible refine Below.alloc ?_ ?_ _) | (with_reducible refine Below.setCell ?_ ?_ _) | (with_reducible refine Below.trans ?_ (hbv.mono ?_)))); all_goals (first | (simp; done) | (simp; omega) | omega))
                clear hK K
                (try simp only [Act.put, List.setIfInBounds_toArray, List.set_cons_zero, List.set_cons_succ, List.getElem_toArray, List.getElem_cons_zero, List.getElem_cons_succ])
                refine wpAnyH_take (i := 11) (v := ?_) rfl (by kernel_rfl) (by kernel_rfl) (by kernel_rfl) (fun _ _ _ h => h) (Or.inl ⟨by rfl, ?_⟩) (by assumption) ?_
                rotate_left
                (focus (intro ww hSw; (try dsimp only at hSw); go_simp; (try with_reducible rfl)))
                (try simp only [Act.put, List.setIfInBounds_toArray, List.set_cons_zero, List.set_cons_succ, List.getElem_toArray, List.getElem_cons_zero, List.getElem_cons_succ])
                refine wpAnyH_take (i := 12) (v := ?_) rfl (by kernel_rfl) (by kernel_rfl) (by kernel_rfl) (fun _ _ _ h => h) (Or.inl ⟨by rfl, ?_⟩) (by assumption) ?_
                rotate_left
                (focus (intro ww hSw; (try dsimp only at hSw); go_simp; (try with_reducible rfl)))
                (try simp only [Act.put, List.setIfInBounds_toArray, List.set_cons_zero, List.set_cons_succ, List.getElem_toArray, List.getElem_cons_zero, List.getElem_cons_succ])
                refine wpAnyH_take (i := 13) rfl (by kernel_rfl) (by kernel_rfl) (by kernel_rfl) (fun _ _ _ h => h) (Or.inr ⟨by rfl, rfl⟩) (by assumption) ?_
                (try simp only [Act.put, List.setIfInBounds_toArray, List.set_cons_zero, List.set_cons_succ, List.getElem_toArray, List.getElem_cons_zero, List.getElem_cons_succ])
                refine wpAnyH_take (i := 14) rfl (by kernel_rfl) (by kernel_rfl) (by kernel_rfl) (fun _ _ _ h => h) (Or.inr ⟨by rfl, rfl⟩) (by assumption) ?_
                (try simp only [Act.put, List.setIfInBounds_toArray, List.set_cons_zero, List.set_cons_succ, List.getElem_toArray, List.getElem_cons_zero, List.getElem_cons_succ])
                refine wpAnyH_take (i := 15) rfl (by kernel_rfl) (by kernel_rfl) (by kernel_rfl) (fun _ _ _ h => h) (Or.inr ⟨by rfl, rfl⟩) (by assumption) ?_
                (try simp only [Act.put, List.setIfInBounds_toArray, List.set_cons_zero, List.set_cons_succ, List.getElem_toArray, List.getElem_cons_zero, List.getElem_cons_succ])
                refine wpAnyH_take (i := 16) rfl (by kernel_rfl) (by kernel_rfl) (by kernel_rfl) (fun _ _ _ h => h) (Or.inr ⟨by rfl, rfl⟩) (by assumption) ?_
                (try simp only [Act.put, List.setIfInBounds_toArray, List.set_cons_zero, List.set_cons_succ, List.getElem_toArray, List.getElem_cons_zero, List.getElem_cons_succ])
                refine wpAnyH_take (i := 17) rfl (by kernel_rfl) (by kernel_rfl) (by kernel_rfl) (fun _ _ _ h => h) (Or.inr ⟨by rfl, rfl⟩) (by assumption) ?_
                (try simp only [Act.put, List.setIfInBounds_toArray, List.set_cons_zero, List.set_cons_succ, List.getElem_toArray, List.getElem_cons_zero, List.getElem_cons_succ])
                refine wpAnyH_take (i := 18) rfl (by kernel_rfl) (by kernel_rfl) (by kernel_rfl) (fun _ _ _ h => h) (Or.inr ⟨by rfl, rfl⟩) (by assumption) ?_
                (try simp only [Act.put, List.setIfInBounds_toArray, List.set_cons_zero, List.set_cons_succ, List.getElem_toArray, List.getElem_cons_zero, List.getElem_cons_succ])
                refine wpAnyH_take (i := 19) (v := ?_) rfl (by kernel_rfl) (by kernel_rfl) (by kernel_rfl) (fun _ _ _ h => h) (Or.inl ⟨by rfl, ?_⟩) (by assumption) ?_
                rotate_left
                (focus (intro ww hSw; (try dsimp only at hSw); go_simp; (try with_reducible rfl)))
                (try simp only [Act.put, List.setIfInBounds_toArray, List.set_cons_zero, List.set_cons_succ, List.getElem_toArray, List.getElem_cons_zero, List.getElem_cons_succ])
                refine wpAnyH_done (by kernel_rfl) ?_ _
                all_goals go_wp2_with fail
                all_goals go_meet
                all_goals
                  case rel =>
                    refine ⟨?_, ?_⟩
                    · first | rfl | (simp [*]; done) | simp
                    · (repeat' (first | (with_reducible exact Below.refl _ _) | (with_reducible refine Below.drew ?_) | (with_reducible refine Below.alloc ?_ ?_ _) | (with_reducible refine Below.setCell ?_ ?_ _) | (with_reducible refine Below.trans ?_ (hbv.mono ?_)))); all_goals (first | (simp; done) | (simp; omega) | omega)
            case rest =>
              obtain ⟨rfl, bcc⟩ := hcut
              obtain ⟨wp, rfl⟩ : ∃ wp : World, wp = wc := ⟨_, rfl⟩
              have BCC := Lib.hid bcc
              clear bcc
              by_cases hsk : b = false ∧ ¬ (i ≤ 1 ∧ k ≤ 1)
              · have hv : (!b && (decide (1 < i) || decide (1 < k))) = true := by
                  obtain ⟨rfl, g⟩ := hsk
                  by_cases q1 : 1 < i
                  · simp [q1]
                  · simp [show 1 < k by omega]
                have HE := Lib.hid (HCE.out.2 hsk.1 hsk.2)
                rw [hv]
                clear hsk hv
                go_wp2_with fail
                go_roundg (V.length - (k + 1))
                case measure => have := HNN.out; omega
                case rel => exact ⟨k + 1, x, y, by omega, rfl, by go_num, by rw [HR1.out, HE.out, List.append_nil], by rw [HR1.out, HE.out, List.append_nil]; exact hxy, hbq.out.keep BCC.out hbq.out.lt, BWR.out.trans (BCC.out.mono BWR.out.size)⟩
              · have hsk' : b = true ∨ (i ≤ 1 ∧ k ≤ 1) := by
                  cases b
                  · exact .inr (Classical.byContradiction fun g => hsk ⟨rfl, g⟩)
                  · exact .inl rfl
                have hv : (!b && (decide (1 < i) || decide (1 < k))) = false := by
                  rcases hsk' with rfl | ⟨q1, q2⟩
                  · rfl
                  · simp [show ¬ 1 < i by omega, show ¬ 1 < k by omega]
                have HE := Lib.hid (HCE.out.1 hsk')
                rw [hv]
                clear hsk hsk' hv
                go_upto_region 11 with fail
                go_cut [13] (fun s13 wx => ∃ g : Nat, s13 = .pointer (some ⟨g, 0, none⟩) ∧ Bq g r.1 r.2 wx ∧ Below wp.heap.size wp wx ∧ wp.heap.size ≤ g)
                case first =>
                  have KCP := Lib.hid (fun (W : World) (g : Below wp.heap.size wp W) => KCR.out W (BCC.out.trans (g.mono BCC.out.size)))
                  have INT3 := Lib.hid (fun (W : World) (g : Below wp.heap.size wp W) => INT2.out W (BCC.out.trans (g.mono BCC.out.size)))
                  go_region_held3 (fun w' => w'.cell? ⟨w.heap.size, 0, none⟩ = some (.string t.name) ∧ w'.cell? ⟨w.heap.size, 1, none⟩ = some (.slice t.us.a t.us.xs.length t.us.c) ∧ w'.cell? ⟨w.heap.size, 2, none⟩ = some (.slice t.vs.a t.vs.xs.length t.vs.c) ∧ w'.cell? ⟨w.heap.size, 3, none⟩ = some (.slice t.ra t.rows.length t.rc) ∧ w'.cell? ⟨w.heap.size, 4, none⟩ = some (.int .i64 t.side) ∧ w'.cell? ⟨w.heap.size, 5, none⟩ = some (.int .i64 t.sky) ∧ w'.cell? ⟨ub, uo + i, none⟩ = some (.int .i64 (nth U i)) ∧ w'.cell? ⟨vb, vo + k, none⟩ = some (.int .i64 (nth V k)))
                    ((refine KCP.out _ ?_; (repeat' (first | (with_reducible exact Below.refl _ _) | (with_reducible refine Below.drew ?_) | (with_reducible refine Below.alloc ?_ ?_ _) | (with_reducible refine Below.setCell ?_ ?_ _) | (with_reducible refine Below.trans ?_ (hbv.mono ?_)))); all_goals (first | (simp; done) | (simp; omega) | omega)))
                    (first | (go_at_call 48; (with_reducible refine Calls.mono (INT3.out _ ?_) ?_); (focus ((repeat' (first | (with_reducible exact Below.refl _ _) | (with_reducible refine Below.drew ?_) | (with_reducible refine Below.alloc ?_ ?_ _) | (with_reducible refine Below.setCell ?_ ?_ _) | (with_reducible refine Below.trans ?_ (hbv.mono ?_)))); all_goals (first | (simp; done) | (simp; omega) | omega))); (rintro e wv ⟨rfl, hov⟩; have hbv := hov.below; clear hov; have hcv := (bcb hbv).1; have hfv := (bcb hbv).2; have hzv := hbv.size; (try simp at hzv))))
                  all_goals go_wp2_with fail
                  all_goals go_meet
                  all_goals
                    case rel =>
                      refine ⟨_, rfl, ?_, ?_, ?_⟩
                      · first | exact Bq.fresh _ _ _ _ | exact (Bq.fresh _ _ _ _).drew | exact ((Bq.fresh wp 0 0 35).drew.keep hbv (by simp)).set _ _ | exact ((Bq.fresh wp 0 0 35).keep hbv (by simp)).set _ _
                      · (repeat' (first | (with_reducible exact Below.refl _ _) | (with_reducible refine Below.drew ?_) | (with_reducible refine Below.alloc ?_ ?_ _) | (with_reducible refine Below.setCell ?_ ?_ _) | (with_reducible refine Below.trans ?_ (hbv.mono ?_)))); all_goals (first | (simp; done) | (simp; omega) | omega)
                      · first | omega | (simp; omega)
                case rest =>
                  obtain ⟨g, rfl, bg, bw, hg⟩ := hcut
                  have hd := hbq.out.lt
                  have hlw := BCC.out.size
                  have BDX := Lib.hid ((hbq.out.keep BCC.out hbq.out.lt).keep bw (by omega))
                  have BGX := Lib.hid bg
                  have BWX := Lib.hid bw
                  have ne1 : wq.heap.size ≠ g := by omega
                  have ne2 : g ≠ wq.heap.size := by omega
                  obtain ⟨d0, d1, d2, d3, d4⟩ := BDX.out
                  obtain ⟨c0, c1, c2, c3, c4⟩ := BGX.out
                  clear bg bw
                  cases hFe : F.isEmpty
                  · have HFE := Lib.hid hFe
                    clear hFe
                    go_wp2_with fail
                    go_roundg (V.length - (k + 1))
                    case measure => have := HNN.out; omega
                    case rel =>
                      refine ⟨k + 1, min x r.1, max y r.2, by omega, rfl, by go_num, by rw [HR1.out, HE.out, snoc_ne], fun _ => by rw [HR1.out, HE.out]; exact hull_step hxy r HFE.out, ?_, ?_⟩
                      · exact Lib.hid (BDX.out.set _ _)
                      · exact (BWR.out.trans ((BCC.out.trans (BWX.out.mono BCC.out.size)).mono BWR.out.size)).trans ((below_set2 wc wq.heap.size _ _).mono (Nat.le_refl _))
                  · have HFE := Lib.hid hFe
                    clear hFe
                    go_wp2_with fail
                    go_roundg (V.length - (k + 1))
                    case measure => have := HNN.out; omega
                    case rel =>
                      refine ⟨k + 1, r.1, r.2, by omega, rfl, by go_num, by rw [HR1.out, HE.out, snoc_ne], fun _ => by rw [HR1.out, HE.out]; exact hull_first r HFE.out, ?_, ?_⟩
                      · first | exact Lib.hid ((BDX.out.set _ _).set _ _) | exact Lib.hid (BDX.out.set _ _) | (have hh := (BDX.out.set r.1 r.2).set r.1 r.2; exact Lib.hid (by simpa using hh))
                      · have b1 := BWR.out.trans ((BCC.out.trans (BWX.out.mono BCC.out.size)).mono BWR.out.size)
                        repeat' (first | exact b1 | refine Below.setCell ?_ ?_ _)
                        all_goals (exact Nat.le_refl _)
          · obtain rfl : k = V.length := by omega
            go_wp2_with fail
            go_roundg (U.length - (i + 1))
            case measure => have := HN.out; omega
            case rel => exact ⟨i + 1, x, y, by omega, rfl, by go_num, by rw [allF_succ], by rw [allF_succ]; exact hxy, hbq, hbw⟩
      · obtain rfl : i = U.length := by omega
        have hne : (allF t h U V U.length).isEmpty = false := by
          have := HNE.out
          cases hc : allF t h U V U.length with
          | nil => rw [hc] at this; simp at this
          | cons a l => rfl
        obtain ⟨e1, e2⟩ := hxy.out hne
        have E1 := Lib.hid e1
        have E2 := Lib.hid e2
        clear e1 e2 hne hxy
        have hlt0 := BZ0.out.lt
        have BZ1 := Lib.hid (BZ0.out.keep (KU.out wr hbw) BZ0.out.lt)
        obtain ⟨d0, d1, d2, d3, d4⟩ := hbq.out
        obtain ⟨z0, z1, z2, z3, _⟩ := BZ1.out
        have hsc := SC.out
        have ne1 : wq.heap.size ≠ w.heap.size + 1 + 1 := by omega
        have ne2 : w.heap.size + 1 + 1 ≠ wq.heap.size := by omega
        go_wp2_with fail
        refine bodyPost_ret (v := encl x y) (by simp [results, Try.results53, go_sem, z0, z1]) rfl ⟨by rw [E1.out, E2.out], ?_⟩
        exact ((ZW.out _ (KU.out wr hbw)).setCell (p := ⟨w.heap.size + 1 + 1, 0, none⟩) (by show w.heap.size ≤ w.heap.size + 1 + 1; omega) _).setCell (p := ⟨w.heap.size + 1 + 1, 1, none⟩) (by show w.heap.size ≤ w.heap.size + 1 + 1; omega) _
end Go.Proofs.Ythmelkakgbchbaa
