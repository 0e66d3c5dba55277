/- The level for so many vehicles (code). -/
import Derived.Test.YtjcgojbfjefbcaaDoorLf
import Derived.Test.YtjcgojbfjefbcaaDoorSw
namespace Go.Proofs.YtjcgojbfjefbcaaDoor
set_option linter.unusedSimpArgs false
set_option linter.unusedVariables false
open Go.RowKit Go.Shelf
attribute [local go_sem] Oper.semAt_some

theorem backward_T (A : Option Addr) (n c : Nat) (w : World) :
    Calls Tryd.prog 80 #[.slice A n c] w fun e w' => e = .returned (.func (.func 104) #[] #[.pointer (some ⟨w.heap.size, 0, none⟩)]) ∧ w' = w.alloc (.cells #[.slice A n c] 40) := by
  go_enter Tryd.func80, Tryd.ntmps80
  go_wp2
  go_ret
  exact ⟨rfl, rfl⟩

set_option maxRecDepth 100000 in
set_option maxHeartbeats 2000000 in
theorem levelFor_any (A : Option Addr) (c : Nat) (rs : List Row2) (v : Int) (w : World) (hlen : rs.length ≤ 1000) (hr : RowsAt w.heap.size A rs w) :
    Calls Tryd.prog 65 #[.slice A rs.length c, .int .i64 v] w fun e w' => e = .returned (.int .i64 (lvF rs v)) ∧ Below w.heap.size w w' := by
  refine (callsIn_wide (n := 5)).1 ?_
  refine callsIn_of_wp_marks Tryd.func65 rfl trivial ?_ rfl
  simp only [Tryd.ntmps65, List.size_toArray, List.length_cons, List.length_nil, Nat.reduceAdd, Nat.reduceSub, Array.replicate_succ, Array.replicate_zero, List.push_toArray, List.append_toArray, List.nil_append, List.cons_append]
  refine wpIn_wide.2 ?_
  have HR := Lib.hid hr
  clear hr
  go_wp2_with fail
  refine (backward_T A rs.length c _).mono ?_
  rintro e w' ⟨rfl, rfl⟩
  go_wp2_with fail
  refine fresh_world (fun W => One w.heap.size (.int .i64 v) W ∧ One (w.heap.size + 1) (.int .i64 0) W ∧ One (w.heap.size + 1 + 1) (.slice A rs.length c) W ∧ Below w.heap.size w W) ?_ ?_
  · exact ⟨(((One.fresh _ _ _).alloc _).alloc _), (One.freshAt (by simp) _ _).alloc _, One.freshAt (by simp) _ _, (((Below.refl _ _).alloc (Nat.le_refl _) _).alloc (by simp) _).alloc (by simp; omega) _⟩
  rintro W0 ⟨b0, b1, b2, hb⟩
  have B0 := Lib.hid b0
  have B1 := Lib.hid b1
  have B2 := Lib.hid b2
  have hs1 : w.heap.size + 1 + 1 < W0.heap.size := b2.2.2
  have hn0 : w.heap.size + 1 + 1 + 1 ≤ W0.heap.size := by omega
  have HB := Lib.hid hb
  obtain ⟨v0, vf, vl⟩ := b0
  obtain ⟨r0, rf, rl⟩ := b1
  have hrows : RowsAt (w.heap.size + 1 + 1 + 1) A rs W0 := (HR.out.below hb).more (by omega)
  have hbx := b2.1
  clear b2
  refine (wpIn_wide (n := 5)).1 ?_
  refine wpIn_rangeFunc_ownH rfl (by omega) (gf := 104) (lb := #[.pointer (some ⟨w.heap.size + 1 + 1, 0, none⟩)]) rfl trivial (enters_of Tryd.func104 (by kernel_rfl) rfl)
    (back_stops (5 - 1) (w.heap.size + 1 + 1) (w.heap.size + 1 + 1 + 1) A c rs W0 (by omega) (by omega) hn0 hlen hbx hrows)
    (fun h k => belowK_t h k) (fun W l o o' hl h1 h2 h3 => belowK_b hn0 W l o o' hl h1 h2 h3) (Below.refl _ _) (fun _ => rfl)
    (fun pre W => (∀ y, y ∈ pre → ¬ (nt rs (rs.length - 1 - y)).1 ≤ v) ∧ Below W0.heap.size W0 W)
    (fun cd pre W => cd = .ret ∧ ∃ p x, pre = p ++ [x] ∧ (∀ y, y ∈ p → ¬ (nt rs (rs.length - 1 - y)).1 ≤ v) ∧ (nt rs (rs.length - 1 - x)).1 ≤ v ∧ But [w.heap.size + 1] W0 W ∧ W.cell? ⟨w.heap.size + 1, 0, none⟩ = some (.int .i64 (nt rs (rs.length - 1 - x)).2))
    ?hI ?hIx ⟨by simp, Below.refl _ _⟩
    (fun x a' W => ∃ L, W0.heap.size ≤ L ∧ L < W.heap.size ∧ W.cell? ⟨L, 0, none⟩ = some (.int .i64 (nt rs (rs.length - 1 - x)).1) ∧ W.cell? ⟨L, 1, none⟩ = some (.int .i64 (nt rs (rs.length - 1 - x)).2) ∧
      a' = { tmps := #[.slice A rs.length c, .int .i64 v, undef, .pointer (some ⟨w.heap.size, 0, none⟩), .pointer (some ⟨w.heap.size + 1, 0, none⟩), undef, .pointer (some ⟨L, 0, none⟩), .slice A rs.length c, .func (.func 104) #[] #[.pointer (some ⟨w.heap.size + 1 + 1, 0, none⟩)], .int .i64 ((rs.length : Int) - 1 - x), .agg #[.int .i64 (nt rs (rs.length - 1 - x)).1, .int .i64 (nt rs (rs.length - 1 - x)).2], undef, undef, undef, undef, undef, undef], defers := [] })
    ?hAx ?assign ?body ?done ?stop
  case hI =>
    rintro pre W W' row ⟨h1, h2⟩ hg hr
    exact ⟨h1, h2.grown hg h2.size (fun k e => (hr k e).1)⟩
  case hIx =>
    rintro cd pre W W' row ⟨h0, p, x, h1, h2, h3, h4, h5⟩ hg hr
    refine ⟨h0, p, x, h1, h2, h3, ⟨hg.os.trans h4.os, hg.tape.trans h4.tape, hg.output.trans h4.output, Nat.le_trans h4.size hg.size, fun k hk hn => ?_⟩, cell_kept h5 hg (fun r e => (hr r e).2)⟩
    exact (hg.block k (Nat.lt_of_lt_of_le hk h4.size) (fun e => by have := (hr k e.symm).1; omega)).trans (h4.block k hk hn)
  case hAx =>
    rintro x a' _ W W' row ⟨L, h0, h1, h2, h3, h4⟩ hg hr
    exact ⟨L, h0, Nat.lt_of_lt_of_le h1 hg.size, cell_kept h2 hg (fun r e => (hr r e).2), cell_kept h3 hg (fun r e => (hr r e).2), h4⟩
  case assign =>
    rintro l pre x W K ⟨h1, h2⟩ hK
    clear HR HB hrows hbx r0 rf rl v0 vf vl
    have hz := h2.size
    gi_wp2
    refine hK _ _ (KeepsOthers.from (KeepsOthers.alloc _ _) _) ((Below.refl _ _).alloc (by omega) _) ⟨h1, h2.alloc hz _⟩ ⟨W.heap.size, hz, by simp, by simp [go_sem], by simp [go_sem], rfl⟩
  case body =>
    rintro l pre x a' W hl _ ⟨h1, h2⟩ ⟨L, hL0, hL1, l0, l1, rfl⟩ hlt
    have c0 := (h2.cell (p := ⟨w.heap.size, 0, none⟩) (by show w.heap.size < _; omega)).trans v0
    have c1 := (h2.cell (p := ⟨w.heap.size + 1, 0, none⟩) (by show w.heap.size + 1 < _; omega)).trans r0
    have c2 := (h2.frozen (p := ⟨w.heap.size + 1, 0, none⟩) (by show w.heap.size + 1 < _; omega)).trans rf
    have ne1 : L ≠ w.heap.size + 1 := by omega
    have H1 := Lib.hid h1
    clear h1 v0 vf vl r0 rf rl HR HB hrows hbx
    obtain ⟨r, hr⟩ : ∃ r, r = nt rs (rs.length - 1 - x) := ⟨_, rfl⟩
    rw [← hr] at l0 l1 ⊢
    have HRR := Lib.hid hr
    clear hr
    by_cases hx : r.1 ≤ v
    · gi_wp2
      refine ⟨KeepsOthers.from (KeepsOthers.setCell _ _ _) _, rfl, pre, x, rfl, H1.out, by rw [← HRR.out]; exact hx, (But.of h2).set (by simp) _ _, ?_⟩
      rw [← HRR.out]
      simp [go_sem, c1]
    · gi_wp2
      refine ⟨KeepsFrom.refl _ _, Below.refl _ _, fun y hy => ?_, h2⟩
      rcases List.mem_append.1 hy with h | h
      · exact H1.out y h
      · obtain rfl : y = x := by simpa using h
        rw [← HRR.out]; exact hx
  case done =>
    rintro D xs W hD rfl ⟨h1, h2⟩ hK
    have E := Lib.hid (lvF_none rs v (fun j hj => h1 j (by simpa using hj)))
    have c1 := (h2.cell (p := ⟨w.heap.size + 1, 0, none⟩) (by show w.heap.size + 1 < _; omega)).trans r0
    have c2 := (h2.frozen (p := ⟨w.heap.size + 1, 0, none⟩) (by show w.heap.size + 1 < _; omega)).trans rf
    have HK := Lib.hid hK
    clear h1 hK v0 vf vl r0 rf rl hrows hbx
    go_wp2_with fail
    have hK' : (W.setCell ⟨w.heap.size + 1, 0, none⟩ (.int .i64 0)).heap[D]? = some (.deferred (some [])) := (Below.heap_setCell _ _ _ _ (by show D ≠ w.heap.size + 1; omega)).trans HK.out
    refine ⟨by simp, .inl ⟨_, _, rfl, run_takeDeferred hK', ?_⟩⟩
    refine ⟨.int .i64 0, ?_, by rw [E.out], ?_⟩
    · have c3 : (W.setCell ⟨w.heap.size + 1, 0, none⟩ (.int .i64 0)).cell? ⟨w.heap.size + 1, 0, none⟩ = some (.int .i64 0) := by simp [go_sem, c1]
      have c4 := cell_kept c3 (grownBy_putObj' _ D (.deferred none)) (fun r e => by cases e; exact ⟨_, hK', rfl⟩)
      simp [results, Tryd.f65, go_sem, c4]
    · have b3 : Below w.heap.size w (W.setCell ⟨w.heap.size + 1, 0, none⟩ (.int .i64 0)) := (HB.out.trans (h2.mono (by omega))).setCell (by simp) _
      exact b3.grown (grownBy_putObj' _ D (.deferred none)) b3.size (fun k e => by cases e; omega)
  case stop =>
    rintro D cd pre W hD ⟨hpre, hle⟩ ⟨rfl, p, x, rfl, h1, h2, h4, h5⟩ hK
    have hx : x = p.length := by
      have e := congrArg (fun l : List Nat => l[p.length]?) hpre
      simp at e
      exact e
    subst hx
    have hp : p = List.range p.length := by
      have e := hpre
      rw [List.length_append, List.length_singleton, List.range_succ] at e
      exact (List.append_inj' e rfl).1
    have E := Lib.hid (lvF_stop rs v p.length (by simp at hle; omega) (fun j hj => h1 j (by rw [hp]; simpa using hj)) h2)
    have HK := Lib.hid hK
    have H4 := Lib.hid h4
    have H5 := Lib.hid h5
    clear hpre hle h1 h2 hp hK h4 h5 v0 vf vl r0 rf rl hrows hbx
    refine wpIn_wide.2 ?_
    go_wp2_with fail
    refine ⟨by simp, .inl ⟨_, _, rfl, run_takeDeferred HK.out, ?_⟩⟩
    refine ⟨.int .i64 (nt rs (rs.length - 1 - p.length)).2, ?_, by rw [E.out], ?_⟩
    · have c4 := cell_kept H5.out (grownBy_putObj' _ D (.deferred none)) (fun r e => by cases e; exact ⟨_, HK.out, rfl⟩)
      simp [results, Tryd.f65, go_sem, c4]
    · have b3 : Below w.heap.size w W := H4.out.toBelow HB.out (Nat.le_refl _) (by intro k hk; simp only [List.mem_cons, List.not_mem_nil, or_false] at hk; omega)
      exact b3.grown (grownBy_putObj' _ D (.deferred none)) b3.size (fun k e => by cases e; omega)
end Go.Proofs.YtjcgojbfjefbcaaDoor
