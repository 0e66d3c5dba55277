/- The walk of interpolated. -/
import Derived.Test.YtgmpipciinphiaaItp
namespace Go.Proofs.Ytgmpipciinphiaa
set_option linter.unusedSimpArgs false
set_option linter.unusedVariables false
open Go.RowKit

set_option maxRecDepth 100000 in
set_option maxHeartbeats 2000000 in
theorem interp_any (t : Tab) (p q : Plc) (w : World) (ok : TabOk t) (hrows : RowsIn w.heap.size t.ra t.rows w) (hp : PlcOk p) (hq : PlcOk q) (hpi : p.i + 1 < t.us.xs.length) (hqi : q.i + 1 < t.vs.xs.length) :
    Calls Try.prog 84 #[.agg #[.string t.name, .slice t.us.a t.us.xs.length t.us.c, .slice t.vs.a t.vs.xs.length t.vs.c, .slice t.ra t.rows.length t.rc, .int .i64 t.side, .int .i64 t.sky], .agg #[.int .i64 p.i, .int .i64 p.f, .int .i64 p.s, .int .i64 p.al], .agg #[.int .i64 q.i, .int .i64 q.f, .int .i64 q.s, .int .i64 q.al]] w fun e w' => e = .returned (encl (itLo t p q) (itHi t p q)) ∧ Own w.heap.size w w' := by
  have hm := hrows.1
  unfold maxLen at hm
  have hlr := ok.rows
  obtain ⟨r, o, hra, hr, hc⟩ := hrows.2 (by omega)
  obtain ⟨x1, i1⟩ := hc p.i (by omega)
  obtain ⟨x2, i2⟩ := hc (p.i + 1) (by omega)
  clear hc hrows
  have l1 := ok.row p.i (by omega)
  have l2 := ok.row (p.i + 1) (by omega)
  have v00 : 0 ≤ tval t p.i q.i := ok.v0 p.i q.i (by omega) (by omega)
  have v00' : tval t p.i q.i ≤ 10000000 := ok.v1 p.i q.i (by omega) (by omega)
  have v01 : 0 ≤ tval t p.i (q.i + 1) := ok.v0 p.i (q.i + 1) (by omega) (by omega)
  have v01' : tval t p.i (q.i + 1) ≤ 10000000 := ok.v1 p.i (q.i + 1) (by omega) (by omega)
  have v10 : 0 ≤ tval t (p.i + 1) q.i := ok.v0 (p.i + 1) q.i (by omega) (by omega)
  have v10' : tval t (p.i + 1) q.i ≤ 10000000 := ok.v1 (p.i + 1) q.i (by omega) (by omega)
  have v11 : 0 ≤ tval t (p.i + 1) (q.i + 1) := ok.v0 (p.i + 1) (q.i + 1) (by omega) (by omega)
  have v11' : tval t (p.i + 1) (q.i + 1) ≤ 10000000 := ok.v1 (p.i + 1) (q.i + 1) (by omega) (by omega)
  have R1 := Lib.hid (fun (W : World) (k : Kj w (w.heap.size) r (o + p.i) (o + (p.i + 1)) (w.heap.size + 1 + 1 + 1) (w.heap.size + 1) (w.heap.size + 1 + 1) (.slice (some ⟨r, o, none⟩) t.rows.length t.rc) (.slice (rowAt t.rows p.i).a (rowAt t.rows p.i).xs.length (rowAt t.rows p.i).c) (.slice (rowAt t.rows (p.i + 1)).a (rowAt t.rows (p.i + 1)).xs.length (rowAt t.rows (p.i + 1)).c) p q W) => (show Calls Try.prog 105 #[(.slice (rowAt t.rows p.i).a (rowAt t.rows p.i).xs.length (rowAt t.rows p.i).c), .pointer (some ⟨w.heap.size + 1 + 1, 0, none⟩)] W fun e w' => e = .returned (encl (inLo t p.i q) (inHi t p.i q)) ∧ Own W.heap.size W w' from k.row i1 hq (by omega) v00 v00' v01 v01'))
  have R2 := Lib.hid (fun (W : World) (k : Kj w (w.heap.size) r (o + p.i) (o + (p.i + 1)) (w.heap.size + 1 + 1 + 1) (w.heap.size + 1) (w.heap.size + 1 + 1) (.slice (some ⟨r, o, none⟩) t.rows.length t.rc) (.slice (rowAt t.rows p.i).a (rowAt t.rows p.i).xs.length (rowAt t.rows p.i).c) (.slice (rowAt t.rows (p.i + 1)).a (rowAt t.rows (p.i + 1)).xs.length (rowAt t.rows (p.i + 1)).c) p q W) => (show Calls Try.prog 105 #[(.slice (rowAt t.rows (p.i + 1)).a (rowAt t.rows (p.i + 1)).xs.length (rowAt t.rows (p.i + 1)).c), .pointer (some ⟨w.heap.size + 1 + 1, 0, none⟩)] W fun e w' => e = .returned (encl (inLo t (p.i + 1) q) (inHi t (p.i + 1) q)) ∧ Own W.heap.size W w' from k.row i2 hq (by omega) v10 v10' v11 v11'))
  have a0 : 0 ≤ inLo t p.i q := mixLo_ge hq v00 v01
  have a0' : inLo t p.i q ≤ 10000000 := mixLo_le hq v00' v01'
  have a1 : 0 ≤ inHi t p.i q := mixHi_ge hq v00 v01
  have a1' : inHi t p.i q ≤ 10000000 := mixHi_le hq v00' v01'
  have b0 : 0 ≤ inLo t (p.i + 1) q := mixLo_ge hq v10 v11
  have b0' : inLo t (p.i + 1) q ≤ 10000000 := mixLo_le hq v10' v11'
  have b1 : 0 ≤ inHi t (p.i + 1) q := mixHi_ge hq v10 v11
  have b1' : inHi t (p.i + 1) q ≤ 10000000 := mixHi_le hq v10' v11'
  have BT := Lib.hid (fun (W : World) => (show Calls Try.prog 106 #[.agg #[.int .i64 p.i, .int .i64 p.f, .int .i64 p.s, .int .i64 p.al], encl (inLo t p.i q) (inHi t p.i q), encl (inLo t (p.i + 1) q) (inHi t (p.i + 1) q)] W fun e w' => e = .returned (encl (itLo t p q) (itHi t p q)) ∧ Own W.heap.size W w' from
    between_any p.i p.f p.s p.al _ _ _ _ W hp.pos (by have := hp.bd; omega) (mix_bd hp a0 a0' b0 b0').1 (mix_bd hp a0 a0' b0 b0').2 (mix_bd hp a1 a1' b1 b1').1 (mix_bd hp a1 a1' b1 b1').2))
  have own0 : Own w.heap.size w ((((w.alloc (.cells #[.string t.name, .slice t.us.a t.us.xs.length t.us.c, .slice t.vs.a t.vs.xs.length t.vs.c, .slice t.ra t.rows.length t.rc, .int .i64 t.side, .int .i64 t.sky] 61)).alloc (.cells #[.int .i64 p.i, .int .i64 p.f, .int .i64 p.s, .int .i64 p.al] 123)).alloc (.cells #[.int .i64 q.i, .int .i64 q.f, .int .i64 q.s, .int .i64 q.al] 123)).alloc (.cells #[.int .i64 0, .int .i64 0] 35)) := ((((Own.refl _ _).alloc (Nat.le_refl _) _).alloc (by simp) _).alloc (by simp; omega) _).alloc (by simp; omega) _
  have n2 : r ≠ w.heap.size := by omega
  have n3 : r ≠ w.heap.size + 1 := by omega
  have n4 : r ≠ w.heap.size + 1 + 1 := by omega
  have n5 : r ≠ w.heap.size + 1 + 1 + 1 := by omega
  rw [hra] at own0 ⊢
  unfold Ints.val at x1 x2
  have hS : Kj w (w.heap.size) r (o + p.i) (o + (p.i + 1)) (w.heap.size + 1 + 1 + 1) (w.heap.size + 1) (w.heap.size + 1 + 1) (.slice (some ⟨r, o, none⟩) t.rows.length t.rc) (.slice (rowAt t.rows p.i).a (rowAt t.rows p.i).xs.length (rowAt t.rows p.i).c) (.slice (rowAt t.rows (p.i + 1)).a (rowAt t.rows (p.i + 1)).xs.length (rowAt t.rows (p.i + 1)).c) p q ((((w.alloc (.cells #[.string t.name, .slice t.us.a t.us.xs.length t.us.c, .slice t.vs.a t.vs.xs.length t.vs.c, .slice (some ⟨r, o, none⟩) t.rows.length t.rc, .int .i64 t.side, .int .i64 t.sky] 61)).alloc (.cells #[.int .i64 p.i, .int .i64 p.f, .int .i64 p.s, .int .i64 p.al] 123)).alloc (.cells #[.int .i64 q.i, .int .i64 q.f, .int .i64 q.s, .int .i64 q.al] 123)).alloc (.cells #[.int .i64 0, .int .i64 0] 35)) := by
    refine ⟨?_, ?_, ?_, ?_, ?_, ?_, ?_, ?_, ?_, ?_, ?_, rd_of (n := 0) ?_, rd_of (n := 0) ?_, ?_, ?_, ⟨(by first | (simp; done) | (simp; omega)), (by first | (simp; done) | (simp; omega)), (by first | (simp; done) | (simp; omega)), (by first | (simp; done) | (simp; omega))⟩, own0⟩
    all_goals try simp [go_sem, x1, x2, n2, n3, n4, n5, hr]
    all_goals first | exact (own0.cell (p := ⟨r, _, none⟩) hr).trans x1 | exact (own0.cell (p := ⟨r, _, none⟩) hr).trans x2
  have ew : IntKind.i64.wrap ((p.i : Int) + 1) = (p.i : Int) + 1 := IntWalk.i64_in _ (by omega)
  have ew0 : (0 : Int) ≤ (p.i : Int) + 1 := by omega
  have ew1 : ((p.i : Int) + 1).toNat = p.i + 1 := by omega
  have lt1 : (p.i : Int) + 1 < (t.rows.length : Int) := by omega
  have lt0 : (p.i : Int) < (t.rows.length : Int) := by omega
  have lt00 : (0 : Int) ≤ (p.i : Int) := by omega
  clear x1 x2 i1 i2 a0 a0' a1 a1' b0 b0' b1 b1' v00 v00' v01 v01' v10 v10' v11 v11' n2 n3 n4 n5 hra l1 l2 hlr
  go_enter Try.func84, Try.ntmps84
  go_wp2_with fail
  generalize ((((w.alloc (.cells #[.string t.name, .slice t.us.a t.us.xs.length t.us.c, .slice t.vs.a t.vs.xs.length t.vs.c, .slice (some ⟨r, o, none⟩) t.rows.length t.rc, .int .i64 t.side, .int .i64 t.sky] 61)).alloc (.cells #[.int .i64 p.i, .int .i64 p.f, .int .i64 p.s, .int .i64 p.al] 123)).alloc (.cells #[.int .i64 q.i, .int .i64 q.f, .int .i64 q.s, .int .i64 q.al] 123)).alloc (.cells #[.int .i64 0, .int .i64 0] 35)) = W0 at *
  go_region_held3 (fun w' => w'.cell? ⟨w.heap.size, 3, none⟩ = some (.slice (some ⟨r, o, none⟩) t.rows.length t.rc) ∧ w'.cell? ⟨r, o + p.i, none⟩ = some (.slice (rowAt t.rows p.i).a (rowAt t.rows p.i).xs.length (rowAt t.rows p.i).c) ∧ w'.cell? ⟨r, o + (p.i + 1), none⟩ = some (.slice (rowAt t.rows (p.i + 1)).a (rowAt t.rows (p.i + 1)).xs.length (rowAt t.rows (p.i + 1)).c) ∧ w'.cell? ⟨w.heap.size + 1, 0, none⟩ = some (.int .i64 p.i) ∧ w'.cell? ⟨w.heap.size + 1, 1, none⟩ = some (.int .i64 p.f) ∧ w'.cell? ⟨w.heap.size + 1, 2, none⟩ = some (.int .i64 p.s) ∧ w'.cell? ⟨w.heap.size + 1, 3, none⟩ = some (.int .i64 p.al) ∧ w'.cell? ⟨w.heap.size + 1 + 1, 0, none⟩ = some (.int .i64 q.i) ∧ w'.cell? ⟨w.heap.size + 1 + 1, 1, none⟩ = some (.int .i64 q.f) ∧ w'.cell? ⟨w.heap.size + 1 + 1, 2, none⟩ = some (.int .i64 q.s) ∧ w'.cell? ⟨w.heap.size + 1 + 1, 3, none⟩ = some (.int .i64 q.al) ∧ w'.cell? ⟨w.heap.size + 1 + 1 + 1, 0, none⟩ = some (.int .i64 (rd w' (w.heap.size + 1 + 1 + 1) 0)) ∧ w'.cell? ⟨w.heap.size + 1 + 1 + 1, 1, none⟩ = some (.int .i64 (rd w' (w.heap.size + 1 + 1 + 1) 1)) ∧ w'.frozen? ⟨w.heap.size + 1 + 1 + 1, 0, none⟩ = false ∧ w'.frozen? ⟨w.heap.size + 1 + 1 + 1, 1, none⟩ = false ∧ (w.heap.size + 1 + 1 + 1 < w'.heap.size ∧ w.heap.size < w'.heap.size ∧ w.heap.size + 1 < w'.heap.size ∧ w.heap.size + 1 + 1 < w'.heap.size) ∧ Own w.heap.size w w')
    (first | exact Kj.call hS hr (Own.refl _ _).drew | exact Kj.call (by assumption) hr hbq | exact Kj.set (by assumption) (by omega) (by omega) (by omega) (by omega) (by omega) _ _ | fail)
    (first | (go_at_call 105; (with_reducible refine (R1.out _ ?_).mono ?_); assumption; rintro e wq ⟨rfl, hbq⟩) | (go_at_call 105; (with_reducible refine (R2.out _ ?_).mono ?_); assumption; rintro e wq ⟨rfl, hbq⟩) | (go_at_call 106; with_reducible refine (BT.out _).mono ?_; rintro e wq ⟨rfl, hbq⟩))
  go_wp2_with fail
  obtain ⟨_, _, _, _, _, _, _, _, _, _, _, k6, k7, _, _, _, k11⟩ := (((hS.call hr (Own.refl _ _).drew).call hr (by assumption)).call hr (by assumption)).call hr hbq
  refine bodyPost_ret (v := encl (itLo t p q) (itHi t p q)) (by simp [results, Try.results84, go_sem, k6, k7]) rfl ⟨rfl, ?_⟩
  refine Own.setCell (Own.setCell k11 ?_ _) ?_ _ <;> simp <;> omega
end Go.Proofs.Ytgmpipciinphiaa
