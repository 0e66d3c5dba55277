/- over of the code. -/
import Derived.Test.YtgmpipciinphiaaItr
import Derived.Test.YtgmpipciinphiaaItq
import Derived.Test.YtgmpipciinphiaaRnd
namespace Go.Proofs.Ytgmpipciinphiaa
set_option linter.unusedSimpArgs false
set_option linter.unusedVariables false
open Go.RowKit Go.Shelf
attribute [local go_sem] Oper.semAt_some

theorem crossings_any (u v : Value) (hu : u.oneCell' = true) (hv : v.oneCell' = true) (w : World) : Calls Try.prog 82 #[u, v] w fun e w' =>
    e = .returned (.func (.func 104) #[] #[.pointer (some ⟨w.heap.size, 0, none⟩), .pointer (some ⟨w.heap.size + 1, 0, none⟩)]) ∧ w' = (w.alloc (.cells #[u] 58)).alloc (.cells #[v] 58) := by
  go_enter Try.func82, Try.ntmps82
  go_wp2_with fail
  go_ret
  exact ⟨rfl, rfl⟩

/-- the boxes of over: the table, the depth, both spans -/
def Kv (t : Tab) (x0 x1 y0 y1 h : Int) (s : Nat) (W : World) : Prop :=
  W.cell? ⟨s, 0, none⟩ = some (.string t.name) ∧ W.cell? ⟨s, 1, none⟩ = some (.slice t.us.a t.us.xs.length t.us.c) ∧ W.cell? ⟨s, 2, none⟩ = some (.slice t.vs.a t.vs.xs.length t.vs.c) ∧ W.cell? ⟨s, 3, none⟩ = some (.slice t.ra t.rows.length t.rc) ∧ W.cell? ⟨s, 4, none⟩ = some (.int .i64 t.side) ∧ W.cell? ⟨s, 5, none⟩ = some (.int .i64 t.sky) ∧ W.cell? ⟨s + 1 + 1, 0, none⟩ = some (.int .i64 h) ∧ W.cell? ⟨s + 1 + 1 + 1 + 1, 0, none⟩ = some (.int .i64 (1000 * x0)) ∧ W.cell? ⟨s + 1 + 1 + 1 + 1, 1, none⟩ = some (.int .i64 (1000 * x1)) ∧ W.cell? ⟨s + 1 + 1 + 1 + 1 + 1, 0, none⟩ = some (.int .i64 (1000 * y0)) ∧ W.cell? ⟨s + 1 + 1 + 1 + 1 + 1, 1, none⟩ = some (.int .i64 (1000 * y1))
theorem Kv.keep {t : Tab} {x0 x1 y0 y1 h : Int} {s B : Nat} {W W1 : World} (k : Kv t x0 x1 y0 y1 h s W) (hb : Below B W W1) (hs : s + 1 + 1 + 1 + 1 + 1 < B) : Kv t x0 x1 y0 y1 h s W1 := by
  obtain ⟨k0, k1, k2, k3, k4, k5, k6, k7, k8, k9, k10⟩ := k
  refine ⟨?_, ?_, ?_, ?_, ?_, ?_, ?_, ?_, ?_, ?_, ?_⟩
  · rw [hb.cell (p := ⟨s, 0, none⟩) (by show s < B; omega)]; exact k0
  · rw [hb.cell (p := ⟨s, 1, none⟩) (by show s < B; omega)]; exact k1
  · rw [hb.cell (p := ⟨s, 2, none⟩) (by show s < B; omega)]; exact k2
  · rw [hb.cell (p := ⟨s, 3, none⟩) (by show s < B; omega)]; exact k3
  · rw [hb.cell (p := ⟨s, 4, none⟩) (by show s < B; omega)]; exact k4
  · rw [hb.cell (p := ⟨s, 5, none⟩) (by show s < B; omega)]; exact k5
  · rw [hb.cell (p := ⟨s + 1 + 1, 0, none⟩) (by show s + 1 + 1 < B; omega)]; exact k6
  · rw [hb.cell (p := ⟨s + 1 + 1 + 1 + 1, 0, none⟩) (by show s + 1 + 1 + 1 + 1 < B; omega)]; exact k7
  · rw [hb.cell (p := ⟨s + 1 + 1 + 1 + 1, 1, none⟩) (by show s + 1 + 1 + 1 + 1 < B; omega)]; exact k8
  · rw [hb.cell (p := ⟨s + 1 + 1 + 1 + 1 + 1, 0, none⟩) (by show s + 1 + 1 + 1 + 1 + 1 < B; omega)]; exact k9
  · rw [hb.cell (p := ⟨s + 1 + 1 + 1 + 1 + 1, 1, none⟩) (by show s + 1 + 1 + 1 + 1 + 1 < B; omega)]; exact k10

theorem Kv.blocks {t : Tab} {x0 x1 y0 y1 h : Int} {s : Nat} {W W1 : World} (k : Kv t x0 x1 y0 y1 h s W) (hk : ∀ k, k < s + 1 + 1 + 1 + 1 + 1 + 1 → W1.heap[k]? = W.heap[k]?) : Kv t x0 x1 y0 y1 h s W1 := by
  obtain ⟨k0, k1, k2, k3, k4, k5, k6, k7, k8, k9, k10⟩ := k
  have e : ∀ p : Addr, p.block < s + 1 + 1 + 1 + 1 + 1 + 1 → W1.cell? p = W.cell? p := fun p hp => World.cell?_of_block (hk _ hp)
  refine ⟨?_, ?_, ?_, ?_, ?_, ?_, ?_, ?_, ?_, ?_, ?_⟩
  · rw [e _ (by show s < _; omega)]; exact k0
  · rw [e _ (by show s < _; omega)]; exact k1
  · rw [e _ (by show s < _; omega)]; exact k2
  · rw [e _ (by show s < _; omega)]; exact k3
  · rw [e _ (by show s < _; omega)]; exact k4
  · rw [e _ (by show s < _; omega)]; exact k5
  · rw [e _ (by show s + 1 + 1 < _; omega)]; exact k6
  · rw [e _ (by show s + 1 + 1 + 1 + 1 < _; omega)]; exact k7
  · rw [e _ (by show s + 1 + 1 + 1 + 1 < _; omega)]; exact k8
  · rw [e _ (by show s + 1 + 1 + 1 + 1 + 1 < _; omega)]; exact k9
  · rw [e _ (by show s + 1 + 1 + 1 + 1 + 1 < _; omega)]; exact k10
/-- and all that lay below W0 as it was -/
def Kw (t : Tab) (x0 x1 y0 y1 h : Int) (s : Nat) (W0 W : World) : Prop := W.cell? ⟨s, 0, none⟩ = some (.string t.name) ∧ W.cell? ⟨s, 1, none⟩ = some (.slice t.us.a t.us.xs.length t.us.c) ∧ W.cell? ⟨s, 2, none⟩ = some (.slice t.vs.a t.vs.xs.length t.vs.c) ∧ W.cell? ⟨s, 3, none⟩ = some (.slice t.ra t.rows.length t.rc) ∧ W.cell? ⟨s, 4, none⟩ = some (.int .i64 t.side) ∧ W.cell? ⟨s, 5, none⟩ = some (.int .i64 t.sky) ∧ W.cell? ⟨s + 1 + 1, 0, none⟩ = some (.int .i64 h) ∧ W.cell? ⟨s + 1 + 1 + 1 + 1, 0, none⟩ = some (.int .i64 (1000 * x0)) ∧ W.cell? ⟨s + 1 + 1 + 1 + 1, 1, none⟩ = some (.int .i64 (1000 * x1)) ∧ W.cell? ⟨s + 1 + 1 + 1 + 1 + 1, 0, none⟩ = some (.int .i64 (1000 * y0)) ∧ W.cell? ⟨s + 1 + 1 + 1 + 1 + 1, 1, none⟩ = some (.int .i64 (1000 * y1)) ∧ Below W0.heap.size W0 W
theorem Kw.of {t : Tab} {x0 x1 y0 y1 h : Int} {s : Nat} {W0 W : World} (k : Kv t x0 x1 y0 y1 h s W ∧ Below W0.heap.size W0 W) : Kw t x0 x1 y0 y1 h s W0 W := by
  obtain ⟨⟨k0, k1, k2, k3, k4, k5, k6, k7, k8, k9, k10⟩, hb⟩ := k
  exact ⟨k0, k1, k2, k3, k4, k5, k6, k7, k8, k9, k10, hb⟩
theorem Kw.kv {t : Tab} {x0 x1 y0 y1 h : Int} {s : Nat} {W0 W : World} (k : Kw t x0 x1 y0 y1 h s W0 W) : Kv t x0 x1 y0 y1 h s W := by
  obtain ⟨k0, k1, k2, k3, k4, k5, k6, k7, k8, k9, k10, hb⟩ := k
  exact ⟨k0, k1, k2, k3, k4, k5, k6, k7, k8, k9, k10⟩
theorem Kw.below {t : Tab} {x0 x1 y0 y1 h : Int} {s : Nat} {W0 W : World} (k : Kw t x0 x1 y0 y1 h s W0 W) : Below W0.heap.size W0 W := by
  obtain ⟨_, _, _, _, _, _, _, _, _, _, _, hb⟩ := k
  exact hb
theorem Kw.step {t : Tab} {x0 x1 y0 y1 h : Int} {s : Nat} {W0 W W1 : World} (k : Kw t x0 x1 y0 y1 h s W0 W) (hb : Below W.heap.size W W1) (hs : s + 1 + 1 + 1 + 1 + 1 < W0.heap.size) : Kw t x0 x1 y0 y1 h s W0 W1 :=
  Kw.of ⟨k.kv.keep hb (Nat.lt_of_lt_of_le hs k.below.size), k.below.trans (hb.mono k.below.size)⟩
theorem Kw.cross {t : Tab} {x0 x1 y0 y1 h : Int} {s : Nat} {W0 W W1 : World} {a b : Obj} (k : Kw t x0 x1 y0 y1 h s W0 W) (hs : s + 1 + 1 + 1 + 1 + 1 < W0.heap.size) (hw : W1 = (W.alloc a).alloc b) : Kw t x0 x1 y0 y1 h s W0 W1 :=
  k.step (by rw [hw]; exact ((Below.refl _ _).alloc (Nat.le_refl _) _).alloc (by simp) _) hs
theorem own_one {w : World} {base n s : Nat} {e : TypeId} {v : Value} {xs : List Value} (h : w.ownsRow base e s v n xs) : v.oneCell' = true := by
  rcases h.2 with ⟨rfl, _⟩ | ⟨g, cap, cur, rfl, _⟩ <;> rfl

theorem mem_ends {us : List Int} {h x u : Int} (hm : u ∈ endL us h x) : u = x ∧ inB2 us h x x = true := by
  unfold endL at hm
  split at hm
  · rename_i hc; exact ⟨by simpa using hm, hc⟩
  · cases hm
theorem nth_le {us : List Int} (up : ∀ j, j + 1 < us.length → nth us j < nth us (j + 1)) : ∀ {k j : Nat}, j ≤ k → k < us.length → nth us j ≤ nth us k
  | 0, j, h, _ => by rw [show j = 0 by omega]; exact Int.le_refl _
  | k + 1, j, h, hk => by
    by_cases e : j = k + 1
    · rw [e]; exact Int.le_refl _
    · exact Int.le_trans (nth_le up (show j ≤ k by omega) (by omega)) (Int.le_of_lt (up k hk))
theorem mem_stops {us : List Int} (ok : ListOk us) {f t h u : Int} (h0 : 1 ≤ h) (h1 : h ≤ 30000) (f0 : -200000000 ≤ f) (f1 : f ≤ 200000000) (t0 : -200000000 ≤ t) (t1 : t ≤ 200000000) (hm : u ∈ stopsL us f t h) :
    inB2 us h u u = true ∧ -200000000 ≤ u ∧ u ≤ 200000000 := by
  unfold stopsL at hm
  rcases List.mem_append.1 hm with hm | hm
  · unfold endsL at hm
    rcases List.mem_append.1 hm with hm | hm
    · obtain ⟨rfl, hb⟩ := mem_ends hm; exact ⟨hb, f0, f1⟩
    · obtain ⟨rfl, hb⟩ := mem_ends hm; exact ⟨hb, t0, t1⟩
  · unfold mids at hm
    rw [List.take_length] at hm
    obtain ⟨v, hv, rfl⟩ := List.mem_map.1 hm
    obtain ⟨hv, _⟩ := List.mem_filter.1 hv
    obtain ⟨j, hj, rfl⟩ := List.mem_iff_getElem.1 hv
    have n0 := ok.n0
    rw [← nth_eq hj]
    obtain ⟨m0, m1⟩ := mulh (ok.lo j hj) (ok.hi j hj) h0 h1
    refine ⟨decide_eq_true ⟨?_, ?_⟩, by omega, by omega⟩
    · exact Int.mul_le_mul_of_nonneg_right (nth_le ok.up (Nat.zero_le _) hj) (by omega)
    · exact Int.mul_le_mul_of_nonneg_right (nth_le ok.up (by omega) (by omega)) (by omega)
theorem stops_le {us : List Int} (ok : ListOk us) (f t h : Int) : (stopsL us f t h).length ≤ 14 := by
  have := endsL_le us f t h 2
  have := mids_le us f t h us.length
  have := ok.n1
  unfold stopsL
  rw [List.length_append]; omega
theorem mem_prs {us vs : List Int} {p : Int × Int} (h : p ∈ prs us vs) : p.1 ∈ us ∧ p.2 ∈ vs := by
  unfold prs at h
  obtain ⟨u, hu, h⟩ := List.mem_flatMap.1 h
  obtain ⟨v, hv, rfl⟩ := List.mem_map.1 h
  exact ⟨hu, hv⟩

/-- what is found at a crossing -/
def itLo2 (t : Tab) (h : Int) (p : Int × Int) : Int := itLo t (plc t.us.xs p.1 h) (plc t.vs.xs p.2 h)
def itHi2 (t : Tab) (h : Int) (p : Int × Int) : Int := itHi t (plc t.us.xs p.1 h) (plc t.vs.xs p.2 h)
def itVals (t : Tab) (h : Int) (l : List (Int × Int)) : List Value := l.flatMap fun p => [.int .i64 (itLo2 t h p), .int .i64 (itHi2 t h p)]
theorem itVals_len (t : Tab) (h : Int) : ∀ l : List (Int × Int), (itVals t h l).length = l.length * 2
  | [] => rfl
  | p :: l => by
    have ih := itVals_len t h l
    have e : itVals t h (p :: l) = [.int .i64 (itLo2 t h p), .int .i64 (itHi2 t h p)] ++ itVals t h l := rfl
    rw [e, List.length_append, ih, List.length_cons]; simp; omega
theorem itVals_snoc (t : Tab) (h : Int) (l : List (Int × Int)) (p : Int × Int) : itVals t h (l ++ [p]) = itVals t h l ++ [.int .i64 (itLo2 t h p), .int .i64 (itHi2 t h p)] := by
  unfold itVals; rw [List.flatMap_append]; rfl

theorem grown_from {β : Type} {wx : World} {fb : Nat} : OwnFrom wx.heap.size (fun (_ : β) W => wx.grownBy W (some fb)) := fun _ X Y row hs hg hr =>
  ⟨hg.os.trans hs.os, hg.tape.trans hs.tape, hg.output.trans hs.output, Nat.le_trans hs.size hg.size, fun k hk hne =>
    (hg.block k (Nat.lt_of_lt_of_le hk hs.size) (fun e => by have := (hr k e.symm).1; omega)).trans (hs.block k hk hne)⟩
theorem infoEncl : (Try.prog.info? 35).map (fun i => (i.zero, i.size, i.bytes)) = some (some (.agg #[.int .i64 0, .int .i64 0]), 2, 16) := by kernel_rfl

theorem own_base {w : World} {base n s : Nat} {e : TypeId} {v : Value} {xs : List Value} (h : w.ownsRow base e s v n xs) : ∀ j, v.ownBlock = some j → base ≤ j := fun j ej => by
  rcases h.2 with ⟨rfl, _⟩ | ⟨g, cap, cur, rfl, hb, _, _⟩
  · simp [Value.ownBlock] at ej
  · obtain rfl : g = j := by simpa [Value.ownBlock] using ej
    exact hb
theorem grown_below {X Y : World} {fb B : Nat} (h : X.grownBy Y (some fb)) (hB : B ≤ X.heap.size) (hf : B ≤ fb) : Below B X Y :=
  ⟨h.os, h.tape, h.output, h.size, fun k hk => h.block k (by omega) (by intro e; injection e with e; omega)⟩
/-- the table's box and the depth, as one reads them -/
def Kv7 (t : Tab) (h : Int) (s : Nat) (W : World) : Prop :=
  W.cell? ⟨s, 0, none⟩ = some (.string t.name) ∧ W.cell? ⟨s, 1, none⟩ = some (.slice t.us.a t.us.xs.length t.us.c) ∧ W.cell? ⟨s, 2, none⟩ = some (.slice t.vs.a t.vs.xs.length t.vs.c) ∧ W.cell? ⟨s, 3, none⟩ = some (.slice t.ra t.rows.length t.rc) ∧ W.cell? ⟨s, 4, none⟩ = some (.int .i64 t.side) ∧ W.cell? ⟨s, 5, none⟩ = some (.int .i64 t.sky) ∧ W.cell? ⟨s + 1 + 1, 0, none⟩ = some (.int .i64 h)
theorem Kv7.blocks {t : Tab} {h : Int} {s : Nat} {W W1 : World} (k : Kv7 t h s W) (hk : ∀ k, k < s + 1 + 1 + 1 + 1 + 1 + 1 → W1.heap[k]? = W.heap[k]?) : Kv7 t h s W1 := by
  obtain ⟨k0, k1, k2, k3, k4, k5, k6⟩ := k
  have e : ∀ p : Addr, p.block < s + 1 + 1 + 1 + 1 + 1 + 1 → W1.cell? p = W.cell? p := fun p hp => World.cell?_of_block (hk _ hp)
  refine ⟨?_, ?_, ?_, ?_, ?_, ?_, ?_⟩
  · rw [e _ (by show s < _; omega)]; exact k0
  · rw [e _ (by show s < _; omega)]; exact k1
  · rw [e _ (by show s < _; omega)]; exact k2
  · rw [e _ (by show s < _; omega)]; exact k3
  · rw [e _ (by show s < _; omega)]; exact k4
  · rw [e _ (by show s < _; omega)]; exact k5
  · rw [e _ (by show s + 1 + 1 < _; omega)]; exact k6
theorem Kv7.of {t : Tab} {x0 x1 y0 y1 h : Int} {s : Nat} {W W1 : World} (k : Kv t x0 x1 y0 y1 h s W) (hk : ∀ k, k < s + 1 + 1 + 1 + 1 + 1 + 1 → W1.heap[k]? = W.heap[k]?) : Kv7 t h s W1 := by
  obtain ⟨k0, k1, k2, k3, k4, k5, k6, _⟩ := k
  exact Kv7.blocks (W := W) ⟨k0, k1, k2, k3, k4, k5, k6⟩ hk
theorem keep_putObj {m n : Nat} {w : World} (hn : n ≤ w.heap.size) (W : World) (l : Nat) (o o' : Obj) (hl : w.heap.size ≤ l) (_ : W.heap[l]? = some o) (_ : o.isCells = false) (_ : o.isWalk = false) : Keep m n W (W.putObj l o') := fun p _ h2 =>
  World.cell?_of_block (World.putObj_heap_other (by omega))


/-- the least of the lower ends, the greatest of the upper ones -/
def pLo (l : List (Int × Int)) (j : Nat) : Int := (l.getD j (0, 0)).1
def pHi (l : List (Int × Int)) (j : Nat) : Int := (l.getD j (0, 0)).2
def hullLo (l : List (Int × Int)) : Int := jLo (pLo l 0) (fun j => pLo l (j + 1)) (l.length - 1)
def hullHi (l : List (Int × Int)) : Int := jHi (pHi l 0) (fun j => pHi l (j + 1)) (l.length - 1)
/-- all that over finds -/
def fnd (t : Tab) (x0 x1 y0 y1 h : Int) : List (Int × Int) :=
  (prs (stopsL t.us.xs (1000 * x0) (1000 * x1) h) (stopsL t.vs.xs (1000 * y0) (1000 * y1) h)).map (fun p => (itLo2 t h p, itHi2 t h p)) ++
    if (inB2 t.us.xs h (1000 * x0) (1000 * x1) && inB2 t.vs.xs h (1000 * y0) (1000 * y1)) = true then [] else [(0, t.side)]
def flatV (l : List (Int × Int)) : List Value := l.flatMap fun p => [.int .i64 p.1, .int .i64 p.2]
theorem flatV_at : ∀ {l : List (Int × Int)} {j : Nat}, j < l.length → (flatV l)[j * 2]? = some (.int .i64 (pLo l j)) ∧ (flatV l)[j * 2 + 1]? = some (.int .i64 (pHi l j))
  | p :: l, 0, _ => ⟨rfl, rfl⟩
  | p :: l, j + 1, hj => by
    have ih := flatV_at (l := l) (j := j) (by simpa using hj)
    have e : flatV (p :: l) = [.int .i64 p.1, .int .i64 p.2] ++ flatV l := rfl
    rw [e, show (j + 1) * 2 = j * 2 + 2 by omega, show j * 2 + 2 + 1 = (j * 2 + 1) + 2 by omega]
    exact ih
theorem flatV_it (t : Tab) (h : Int) (l : List (Int × Int)) : itVals t h l = flatV (l.map fun p => (itLo2 t h p, itHi2 t h p)) := by
  unfold itVals flatV; rw [List.flatMap_map]
theorem row_cells {w : World} {base n : Nat} {v : Value} {l : List (Int × Int)} (h : w.ownsRow base 35 2 v n (flatV l)) (hl : l.length = n) (hn : 0 < n) :
    ∃ g cap, v = .slice (some ⟨g, 0, none⟩) n cap ∧ n ≤ cap ∧ cap ≤ maxLen ∧ g < w.heap.size ∧ base ≤ g ∧ ∀ j, j < n → w.cell? ⟨g, j * 2, none⟩ = some (.int .i64 (pLo l j)) ∧ w.cell? ⟨g, j * 2 + 1, none⟩ = some (.int .i64 (pHi l j)) := by
  rcases h.2 with ⟨h1, h2⟩ | ⟨g, cap, cur, h1, h2, h3, h4, h5, h6, h7⟩
  · omega
  · refine ⟨g, cap, h1, h4, h5, (Array.getElem?_eq_some_iff.1 h3).1, h2, fun j hj => ?_⟩
    obtain ⟨e0, e1⟩ := flatV_at (l := l) (j := j) (by omega)
    rw [← h7, List.getElem?_take, if_pos (by omega), Array.getElem?_toList] at e0 e1
    exact ⟨by simp [World.cell?, h3, e0], by simp [World.cell?, h3, e1]⟩
theorem stops_ne {us : List Int} {f t h : Int} (hi : inB2 us h f t = true) (hft : f ≤ t) : 0 < (stopsL us f t h).length := by
  obtain ⟨i0, i1⟩ := of_decide_eq_true hi
  have : inB2 us h f f = true := decide_eq_true ⟨i0, by omega⟩
  unfold stopsL endsL endL
  rw [if_pos this]
  simp

theorem news2 (w : World) (a b : Value) (e : TypeId) : ∀ (j : Nat) (u : Value), [a, b][j]? = some u → (w.alloc (.cells #[a, b] e)).cell? (Addr.add ⟨w.heap.size, 0, none⟩ j) = some u
  | 0, u, h => by cases h; simp [go_sem, Addr.add]
  | 1, u, h => by cases h; simp [go_sem, Addr.add]
/-- what lay there lies there behind an append to a row of one's own from base on -/
theorem grown_low {wa w2 : World} {base n : Nat} {v : Value} {vals : List Value} {o : Obj} (hr : wa.ownsRow base 35 2 v n vals) (hg : (wa.alloc o).grownBy w2 v.ownBlock) (k : Nat) (hk : k < base) (hk2 : k < wa.heap.size) : w2.heap[k]? = wa.heap[k]? :=
  (hg.block k (by simp; omega) (fun e => by have := own_base hr k e.symm; omega)).trans (Below.heap_alloc _ _ _ hk2)

theorem own_slice {w : World} {base n s : Nat} {e : TypeId} {v : Value} {xs : List Value} (h : w.ownsRow base e s v (n + 1) xs) : ∃ g cap, v = .slice (some ⟨g, 0, none⟩) (n + 1) cap ∧ w.ownsRow base e s (.slice (some ⟨g, 0, none⟩) (n + 1) cap) (n + 1) xs := by
  rcases h.2 with ⟨_, h2⟩ | ⟨g, cap, cur, h1, _⟩
  · omega
  · exact ⟨g, cap, h1, h1 ▸ h⟩

theorem append_end {wl w2 : World} {base fb n D g cap : Nat} {v : Value} {vals ys : List Value} {a b : Value} (hvl : Boxed wl fb 116 v) (hrl : wl.ownsRow base 35 2 v n vals)
    (hg : (wl.alloc (.cells #[a, b] 35)).grownBy w2 v.ownBlock) (hv2 : Boxed w2 fb 116 v) (hown2 : w2.ownsRow base 35 2 (.slice (some ⟨g, 0, none⟩) (n + 1) cap) (n + 1) ys)
    (hD : wl.heap[D]? = some (.deferred (some []))) :
    (∀ k, k < base → k < wl.heap.size → k ≠ fb → (w2.setCell ⟨fb, 0, none⟩ (.slice (some ⟨g, 0, none⟩) (n + 1) cap)).heap[k]? = wl.heap[k]?) ∧
    Boxed (w2.setCell ⟨fb, 0, none⟩ (.slice (some ⟨g, 0, none⟩) (n + 1) cap)) fb 116 (.slice (some ⟨g, 0, none⟩) (n + 1) cap) ∧
    World.ownsRow (w2.setCell ⟨fb, 0, none⟩ (.slice (some ⟨g, 0, none⟩) (n + 1) cap)) base 35 2 (.slice (some ⟨g, 0, none⟩) (n + 1) cap) (n + 1) ys ∧
    (w2.setCell ⟨fb, 0, none⟩ (.slice (some ⟨g, 0, none⟩) (n + 1) cap)).heap[D]? = some (.deferred (some [])) ∧
    (∀ B, B ≤ base → B ≤ fb → B ≤ wl.heap.size → Below B wl (w2.setCell ⟨fb, 0, none⟩ (.slice (some ⟨g, 0, none⟩) (n + 1) cap))) := by
  have hst := grownBy_setCell' w2 fb (.slice (some ⟨g, 0, none⟩) (n + 1) cap)
  have hs : wl.heap.size < w2.heap.size := by have := hg.size; simp at this; omega
  have hb : ∀ k, k < base → k < wl.heap.size → k ≠ fb → (w2.setCell ⟨fb, 0, none⟩ (.slice (some ⟨g, 0, none⟩) (n + 1) cap)).heap[k]? = wl.heap[k]? := fun k h1 h2 h3 =>
    (hst.block k (by omega) (by intro e; injection e with e; exact h3 e)).trans (grown_low hrl hg k h1 h2)
  refine ⟨hb, hv2.set _, hown2.kept hst (.inr (hv2.not_row (by decide) hown2).symm), ?_, fun B h1 h2 h3 => ?_⟩
  · have h4 : (wl.alloc (.cells #[a, b] 35)).heap[D]? = some (.deferred (some [])) := (Below.heap_alloc _ _ _ (Array.getElem?_eq_some_iff.1 hD).1).trans hD
    have h5 : w2.heap[D]? = some (.deferred (some [])) := by
      refine (hg.block D (Array.getElem?_eq_some_iff.1 h4).1 fun e => ?_).trans h4
      rcases hrl.2 with ⟨rfl, _⟩ | ⟨g', cap', cur, rfl, _, hgb, _⟩
      · simp [Value.ownBlock] at e
      · obtain rfl : D = g' := by simpa [Value.ownBlock] using e
        rw [hD] at hgb; cases hgb
    refine (hst.block D (Array.getElem?_eq_some_iff.1 h5).1 fun e => ?_).trans h5
    injection e with e
    subst e
    rw [show wl.heap[D]? = _ from hvl] at hD
    cases hD
  · exact ⟨hst.os.trans (hg.os.trans rfl), hst.tape.trans (hg.tape.trans rfl), hst.output.trans (hg.output.trans rfl), by have := hst.size; omega, fun k hk => hb k (by omega) (by omega) (by omega)⟩

theorem leave_set {wj : World} {s D : Nat} {a b o1 o2 : Value} (hD : wj.heap[D]? = some (.deferred (some []))) (z0 : wj.cell? ⟨s, 0, none⟩ = some o1) (z1 : wj.cell? ⟨s, 1, none⟩ = some o2) :
    World.cell? (((wj.setCell ⟨s, 0, none⟩ a).setCell ⟨s, 1, none⟩ b).putObj D (.deferred none)) ⟨s, 0, none⟩ = some a ∧ World.cell? (((wj.setCell ⟨s, 0, none⟩ a).setCell ⟨s, 1, none⟩ b).putObj D (.deferred none)) ⟨s, 1, none⟩ = some b ∧
    ((wj.setCell ⟨s, 0, none⟩ a).setCell ⟨s, 1, none⟩ b).heap[D]? = some (.deferred (some [])) ∧ (∀ B, B ≤ s → B ≤ D → Below B wj (((wj.setCell ⟨s, 0, none⟩ a).setCell ⟨s, 1, none⟩ b).putObj D (.deferred none))) := by
  have hne : D ≠ s := fun e => by
    subst e
    simp [World.cell?, hD] at z0
  have d1 : ((wj.setCell ⟨s, 0, none⟩ a).setCell ⟨s, 1, none⟩ b).heap[D]? = some (.deferred (some [])) := (Below.heap_setCell _ _ _ D hne).trans ((Below.heap_setCell _ _ _ D hne).trans hD)
  have hp : ∀ k, k ≠ D → (((wj.setCell ⟨s, 0, none⟩ a).setCell ⟨s, 1, none⟩ b).putObj D (.deferred none)).heap[k]? = ((wj.setCell ⟨s, 0, none⟩ a).setCell ⟨s, 1, none⟩ b).heap[k]? := fun k hk => World.putObj_heap_other hk
  refine ⟨?_, ?_, d1, fun B h1 h2 => ?_⟩
  · rw [World.cell?_of_block (hp _ (Ne.symm hne))]; simp [go_sem, z0, z1]
  · rw [World.cell?_of_block (hp _ (Ne.symm hne))]; simp [go_sem, z0, z1]
  · exact (((Below.refl B wj).setCell (p := ⟨s, 0, none⟩) h1 a).setCell (p := ⟨s, 1, none⟩) h1 b).trans ⟨rfl, rfl, rfl, by simp [World.putObj], fun k hk => hp k (by omega)⟩

theorem round_end {U V : List Int} {t : Tab} {h : Int} {wx W wc4 w5 : World} {fb g cap n1 n2 : Nat} {v : Value} {pre : List (Pr U V)} {x : Pr U V}
    (hV : Boxed W fb 116 v) (hRow : W.ownsRow wx.heap.size 35 2 v pre.length (itVals t h (pre.map (·.1)))) (hG : wx.grownBy W (some fb))
    (bc4 : Below W.heap.size W wc4) (hgrow5 : wc4.grownBy w5 v.ownBlock)
    (hown5 : w5.ownsRow wx.heap.size 35 2 (.slice (some ⟨g, 0, none⟩) (pre.length + 1) cap) (pre.length + 1) (itVals t h (pre.map (·.1)) ++ [.int .i64 (itLo2 t h x.1), .int .i64 (itHi2 t h x.1)]))
    (h1 : fb < n1) (h2 : n2 ≤ wx.heap.size) (hf : fb < wx.heap.size) :
    KeepsFrom wx.heap.size W (w5.setCell ⟨fb, 0, none⟩ (.slice (some ⟨g, 0, none⟩) (pre.length + 1) cap)) ∧ Keep n1 n2 W (w5.setCell ⟨fb, 0, none⟩ (.slice (some ⟨g, 0, none⟩) (pre.length + 1) cap)) ∧ (∃ v, Boxed (w5.setCell ⟨fb, 0, none⟩ (.slice (some ⟨g, 0, none⟩) (pre.length + 1) cap)) fb 116 v ∧ World.ownsRow (w5.setCell ⟨fb, 0, none⟩ (.slice (some ⟨g, 0, none⟩) (pre.length + 1) cap)) wx.heap.size 35 2 v (pre ++ [x]).length (itVals t h ((pre ++ [x]).map (·.1))) ∧ True) ∧ wx.grownBy (w5.setCell ⟨fb, 0, none⟩ (.slice (some ⟨g, 0, none⟩) (pre.length + 1) cap)) (some fb) := by
  have hrow4 := ownsRow_below hRow bc4
  have hob := own_base hrow4
  have szW := hG.size
  have hk5 : ∀ k, k < wx.heap.size → w5.heap[k]? = W.heap[k]? := fun k hk => (hgrow5.block k (Nat.lt_of_lt_of_le hk (Nat.le_trans szW bc4.size)) (fun e => by have := hob k e.symm; omega)).trans (bc4.block k (Nat.lt_of_lt_of_le hk szW))
  have hv5 : Boxed w5 fb 116 v := (hk5 _ hf).trans hV
  have hst := grownBy_setCell' w5 fb (.slice (some ⟨g, 0, none⟩) (pre.length + 1) cap)
  have hb6 : ∀ k, k < wx.heap.size → k ≠ fb → (w5.setCell ⟨fb, 0, none⟩ (.slice (some ⟨g, 0, none⟩) (pre.length + 1) cap)).heap[k]? = W.heap[k]? := fun k hk hne =>
    (hst.block k (by have := hgrow5.size; have := bc4.size; omega) (by intro e; injection e with e; exact hne e)).trans (hk5 k hk)
  refine ⟨?_, ?_, ⟨⟨_, hv5.set _, ?_, trivial⟩, ?_⟩⟩
  · have k1 : KeepsOthers W wc4 := ⟨bc4.size, fun k o hk ho => (bc4.block k (Array.getElem?_eq_some_iff.1 hk).1).trans hk⟩
    refine ((k1.trans (KeepsOthers.of_grownBy hgrow5 fun j o ej hj => ?_)).trans (KeepsOthers.setCell _ _ _)).from _
    rcases hrow4.2 with ⟨rfl, _⟩ | ⟨g, cap, cur, rfl, _, hgb, _⟩
    · simp [Value.ownBlock] at ej
    · obtain rfl : g = j := by simpa [Value.ownBlock] using ej
      rw [hgb] at hj; cases hj; rfl
  · exact fun p hp1 hp2 => World.cell?_of_block (hb6 _ (by omega) (by omega))
  · have e : itVals t h ((pre ++ [x]).map (·.1)) = itVals t h (pre.map (·.1)) ++ [.int .i64 (itLo2 t h x.1), .int .i64 (itHi2 t h x.1)] := by
      rw [List.map_append]; exact itVals_snoc t h _ _
    rw [e, List.length_append]
    exact hown5.kept hst (.inr (hv5.not_row (by decide) hown5).symm)
  · exact ⟨hst.os.trans (hgrow5.os.trans (bc4.os.trans hG.os)), hst.tape.trans (hgrow5.tape.trans (bc4.tape.trans hG.tape)), hst.output.trans (hgrow5.output.trans (bc4.output.trans hG.output)),
      Nat.le_trans szW (Nat.le_trans bc4.size (Nat.le_trans hgrow5.size hst.size)), fun k hk hne => (hb6 k hk (fun e => hne (by rw [e]))).trans (hG.block k hk hne)⟩


set_option maxRecDepth 100000 in
set_option maxHeartbeats 2000000 in
theorem over_any (t : Tab) (x0 x1 y0 y1 h : Int) (w : World) (ok : TabOk t) (hu : IntsIn w.heap.size t.us.a t.us.xs w) (hv : IntsIn w.heap.size t.vs.a t.vs.xs w) (hr : RowsIn w.heap.size t.ra t.rows w)
    (h0 : 1 ≤ h) (h1 : h ≤ 30000) (a0 : -200000 ≤ x0) (a1 : x0 ≤ x1) (a2 : x1 ≤ 200000) (b0 : -200000 ≤ y0) (b1 : y0 ≤ y1) (b2 : y1 ≤ 200000) :
    Calls Try.prog 51 #[.agg #[.string t.name, .slice t.us.a t.us.xs.length t.us.c, .slice t.vs.a t.vs.xs.length t.vs.c, .slice t.ra t.rows.length t.rc, .int .i64 t.side, .int .i64 t.sky], .agg #[.int .i64 x0, .int .i64 x1, .int .i64 y0, .int .i64 y1], .int .i64 h] w fun e w' => e = .returned (encl (hullLo (fnd t x0 x1 y0 y1 h)) (hullHi (fnd t x0 x1 y0 y1 h))) ∧ Below w.heap.size w w' := by
  have bw0 : Below w.heap.size w (((((((w.alloc (.cells #[.string t.name, .slice t.us.a t.us.xs.length t.us.c, .slice t.vs.a t.vs.xs.length t.vs.c, .slice t.ra t.rows.length t.rc, .int .i64 t.side, .int .i64 t.sky] 61)).alloc (.cells #[.int .i64 x0, .int .i64 x1, .int .i64 y0, .int .i64 y1] 40)).alloc (.cells #[.int .i64 h] 3)).alloc (.cells #[.int .i64 0, .int .i64 0] 35)).alloc (.cells #[.int .i64 (1000 * x0), .int .i64 (1000 * x1)] 115)).alloc (.cells #[.int .i64 (1000 * y0), .int .i64 (1000 * y1)] 115)).alloc (.cells #[.slice none 0 0] 116)) := (((((((Below.refl _ _).alloc (Nat.le_refl _) _).alloc (by simp) _).alloc (by simp; omega) _).alloc (by simp; omega) _).alloc (by simp; omega) _).alloc (by simp; omega) _).alloc (by simp; omega) _
  have sz0 : (((((((w.alloc (.cells #[.string t.name, .slice t.us.a t.us.xs.length t.us.c, .slice t.vs.a t.vs.xs.length t.vs.c, .slice t.ra t.rows.length t.rc, .int .i64 t.side, .int .i64 t.sky] 61)).alloc (.cells #[.int .i64 x0, .int .i64 x1, .int .i64 y0, .int .i64 y1] 40)).alloc (.cells #[.int .i64 h] 3)).alloc (.cells #[.int .i64 0, .int .i64 0] 35)).alloc (.cells #[.int .i64 (1000 * x0), .int .i64 (1000 * x1)] 115)).alloc (.cells #[.int .i64 (1000 * y0), .int .i64 (1000 * y1)] 115)).alloc (.cells #[.slice none 0 0] 116)).heap.size = w.heap.size + 1 + 1 + 1 + 1 + 1 + 1 + 1 := by simp
  have kv : Kv t x0 x1 y0 y1 h w.heap.size (((((((w.alloc (.cells #[.string t.name, .slice t.us.a t.us.xs.length t.us.c, .slice t.vs.a t.vs.xs.length t.vs.c, .slice t.ra t.rows.length t.rc, .int .i64 t.side, .int .i64 t.sky] 61)).alloc (.cells #[.int .i64 x0, .int .i64 x1, .int .i64 y0, .int .i64 y1] 40)).alloc (.cells #[.int .i64 h] 3)).alloc (.cells #[.int .i64 0, .int .i64 0] 35)).alloc (.cells #[.int .i64 (1000 * x0), .int .i64 (1000 * x1)] 115)).alloc (.cells #[.int .i64 (1000 * y0), .int .i64 (1000 * y1)] 115)).alloc (.cells #[.slice none 0 0] 116)) := by
    refine ⟨?_, ?_, ?_, ?_, ?_, ?_, ?_, ?_, ?_, ?_, ?_⟩ <;> simp [go_sem]
  have r0 : (((((((w.alloc (.cells #[.string t.name, .slice t.us.a t.us.xs.length t.us.c, .slice t.vs.a t.vs.xs.length t.vs.c, .slice t.ra t.rows.length t.rc, .int .i64 t.side, .int .i64 t.sky] 61)).alloc (.cells #[.int .i64 x0, .int .i64 x1, .int .i64 y0, .int .i64 y1] 40)).alloc (.cells #[.int .i64 h] 3)).alloc (.cells #[.int .i64 0, .int .i64 0] 35)).alloc (.cells #[.int .i64 (1000 * x0), .int .i64 (1000 * x1)] 115)).alloc (.cells #[.int .i64 (1000 * y0), .int .i64 (1000 * y1)] 115)).alloc (.cells #[.slice none 0 0] 116)).cell? ⟨w.heap.size + 1 + 1 + 1, 0, none⟩ = some (.int .i64 0) := by simp [go_sem]
  have r1 : (((((((w.alloc (.cells #[.string t.name, .slice t.us.a t.us.xs.length t.us.c, .slice t.vs.a t.vs.xs.length t.vs.c, .slice t.ra t.rows.length t.rc, .int .i64 t.side, .int .i64 t.sky] 61)).alloc (.cells #[.int .i64 x0, .int .i64 x1, .int .i64 y0, .int .i64 y1] 40)).alloc (.cells #[.int .i64 h] 3)).alloc (.cells #[.int .i64 0, .int .i64 0] 35)).alloc (.cells #[.int .i64 (1000 * x0), .int .i64 (1000 * x1)] 115)).alloc (.cells #[.int .i64 (1000 * y0), .int .i64 (1000 * y1)] 115)).alloc (.cells #[.slice none 0 0] 116)).cell? ⟨w.heap.size + 1 + 1 + 1, 1, none⟩ = some (.int .i64 0) := by simp [go_sem]
  have g0 : (((((((w.alloc (.cells #[.string t.name, .slice t.us.a t.us.xs.length t.us.c, .slice t.vs.a t.vs.xs.length t.vs.c, .slice t.ra t.rows.length t.rc, .int .i64 t.side, .int .i64 t.sky] 61)).alloc (.cells #[.int .i64 x0, .int .i64 x1, .int .i64 y0, .int .i64 y1] 40)).alloc (.cells #[.int .i64 h] 3)).alloc (.cells #[.int .i64 0, .int .i64 0] 35)).alloc (.cells #[.int .i64 (1000 * x0), .int .i64 (1000 * x1)] 115)).alloc (.cells #[.int .i64 (1000 * y0), .int .i64 (1000 * y1)] 115)).alloc (.cells #[.slice none 0 0] 116)).frozen? ⟨w.heap.size + 1 + 1 + 1, 0, none⟩ = false := by simp [go_sem]
  have g1 : (((((((w.alloc (.cells #[.string t.name, .slice t.us.a t.us.xs.length t.us.c, .slice t.vs.a t.vs.xs.length t.vs.c, .slice t.ra t.rows.length t.rc, .int .i64 t.side, .int .i64 t.sky] 61)).alloc (.cells #[.int .i64 x0, .int .i64 x1, .int .i64 y0, .int .i64 y1] 40)).alloc (.cells #[.int .i64 h] 3)).alloc (.cells #[.int .i64 0, .int .i64 0] 35)).alloc (.cells #[.int .i64 (1000 * x0), .int .i64 (1000 * x1)] 115)).alloc (.cells #[.int .i64 (1000 * y0), .int .i64 (1000 * y1)] 115)).alloc (.cells #[.slice none 0 0] 116)).frozen? ⟨w.heap.size + 1 + 1 + 1, 1, none⟩ = false := by simp [go_sem]
  have bf : Boxed (((((((w.alloc (.cells #[.string t.name, .slice t.us.a t.us.xs.length t.us.c, .slice t.vs.a t.vs.xs.length t.vs.c, .slice t.ra t.rows.length t.rc, .int .i64 t.side, .int .i64 t.sky] 61)).alloc (.cells #[.int .i64 x0, .int .i64 x1, .int .i64 y0, .int .i64 y1] 40)).alloc (.cells #[.int .i64 h] 3)).alloc (.cells #[.int .i64 0, .int .i64 0] 35)).alloc (.cells #[.int .i64 (1000 * x0), .int .i64 (1000 * x1)] 115)).alloc (.cells #[.int .i64 (1000 * y0), .int .i64 (1000 * y1)] 115)).alloc (.cells #[.slice none 0 0] 116)) (w.heap.size + 1 + 1 + 1 + 1 + 1 + 1) 116 (.slice none 0 0) := by
    have := Boxed.new ((((((w.alloc (.cells #[.string t.name, .slice t.us.a t.us.xs.length t.us.c, .slice t.vs.a t.vs.xs.length t.vs.c, .slice t.ra t.rows.length t.rc, .int .i64 t.side, .int .i64 t.sky] 61)).alloc (.cells #[.int .i64 x0, .int .i64 x1, .int .i64 y0, .int .i64 y1] 40)).alloc (.cells #[.int .i64 h] 3)).alloc (.cells #[.int .i64 0, .int .i64 0] 35)).alloc (.cells #[.int .i64 (1000 * x0), .int .i64 (1000 * x1)] 115)).alloc (.cells #[.int .i64 (1000 * y0), .int .i64 (1000 * y1)] 115)) 116 (.slice none 0 0)
    simpa using this
  have HU := Lib.hid (hu.keep bw0 (Nat.le_refl _))
  have HV := Lib.hid (hv.keep bw0 (Nat.le_refl _))
  have HR := Lib.hid (hr.keep bw0 (Nat.le_refl _))
  have SZ := Lib.hid sz0
  have RR := Lib.hid (And.intro r0 (And.intro r1 (And.intro g0 (And.intro g1 bf))))
  have KV := Lib.hid kv
  clear hu hv hr sz0 r0 r1 g0 g1 bf kv
  refine (callsIn_wide (n := 5)).1 ?_
  refine callsIn_of_wp_marks Try.func51 rfl trivial ?_ rfl
  simp only [Try.ntmps51, List.size_toArray, List.length_cons, List.length_nil, Nat.reduceAdd, Nat.reduceSub, Array.replicate_succ, Array.replicate_zero, List.push_toArray, List.append_toArray, List.nil_append, List.cons_append]
  refine wpIn_wide.2 ?_
  go_wp2_with fail
  generalize (((((((w.alloc (.cells #[.string t.name, .slice t.us.a t.us.xs.length t.us.c, .slice t.vs.a t.vs.xs.length t.vs.c, .slice t.ra t.rows.length t.rc, .int .i64 t.side, .int .i64 t.sky] 61)).alloc (.cells #[.int .i64 x0, .int .i64 x1, .int .i64 y0, .int .i64 y1] 40)).alloc (.cells #[.int .i64 h] 3)).alloc (.cells #[.int .i64 0, .int .i64 0] 35)).alloc (.cells #[.int .i64 (1000 * x0), .int .i64 (1000 * x1)] 115)).alloc (.cells #[.int .i64 (1000 * y0), .int .i64 (1000 * y1)] 115)).alloc (.cells #[.slice none 0 0] 116)) = W0 at *
  have hS : Kv t x0 x1 y0 y1 h w.heap.size W0 ∧ Below W0.heap.size W0 W0 := ⟨KV.out, Below.refl _ _⟩
  have lt7 : w.heap.size + 1 + 1 + 1 + 1 + 1 < W0.heap.size := by rw [SZ.out]; omega
  have ST1 := Lib.hid (fun (W : World) (hb : Below W0.heap.size W0 W) => stops_any t.us.a t.us.c t.us.xs (1000 * x0) (1000 * x1) h W ((HU.out.keep hb (by omega)).more (by have := hb.size; omega)) ok.us h0 h1)
  have ST2 := Lib.hid (fun (W : World) (hb : Below W0.heap.size W0 W) => stops_any t.vs.a t.vs.c t.vs.xs (1000 * y0) (1000 * y1) h W ((HV.out.keep hb (by omega)).more (by have := hb.size; omega)) ok.vs h0 h1)
  go_region_held3 (fun w' => w'.cell? ⟨w.heap.size, 0, none⟩ = some (.string t.name) ∧ w'.cell? ⟨w.heap.size, 1, none⟩ = some (.slice t.us.a t.us.xs.length t.us.c) ∧ w'.cell? ⟨w.heap.size, 2, none⟩ = some (.slice t.vs.a t.vs.xs.length t.vs.c) ∧ w'.cell? ⟨w.heap.size, 3, none⟩ = some (.slice t.ra t.rows.length t.rc) ∧ w'.cell? ⟨w.heap.size, 4, none⟩ = some (.int .i64 t.side) ∧ w'.cell? ⟨w.heap.size, 5, none⟩ = some (.int .i64 t.sky) ∧ w'.cell? ⟨w.heap.size + 1 + 1, 0, none⟩ = some (.int .i64 h) ∧ w'.cell? ⟨w.heap.size + 1 + 1 + 1 + 1, 0, none⟩ = some (.int .i64 (1000 * x0)) ∧ w'.cell? ⟨w.heap.size + 1 + 1 + 1 + 1, 1, none⟩ = some (.int .i64 (1000 * x1)) ∧ w'.cell? ⟨w.heap.size + 1 + 1 + 1 + 1 + 1, 0, none⟩ = some (.int .i64 (1000 * y0)) ∧ w'.cell? ⟨w.heap.size + 1 + 1 + 1 + 1 + 1, 1, none⟩ = some (.int .i64 (1000 * y1)) ∧ Below W0.heap.size W0 w') (first | exact Kw.of ⟨hS.1, hS.2.drew⟩ | exact Kw.step (by assumption) hbq lt7 | exact Kw.cross (by assumption) lt7 rfl | fail)
    (first | (go_at_call 83; (with_reducible refine (ST1.out _ ?_).mono ?_); exact Kw.below (show Kw t x0 x1 y0 y1 h w.heap.size W0 _ by assumption); rintro e wq ⟨vq, rfl, hoq, hbq⟩) | (go_at_call 83; (with_reducible refine (ST2.out _ ?_).mono ?_); exact Kw.below (show Kw t x0 x1 y0 y1 h w.heap.size W0 _ by assumption); rintro e wq ⟨vq, rfl, hoq, hbq⟩) | (go_at_call 82; (with_reducible refine (crossings_any _ _ ?_ ?_ _).mono ?_); exact own_one (by assumption); exact own_one (by assumption); rintro e wq ⟨rfl, rfl⟩))
  rename_i wa v1 ho1 hb1 _
  have kw : Kw t x0 x1 y0 y1 h w.heap.size W0 ((wq.alloc (.cells #[v1] 58)).alloc (.cells #[vq] 58)) := by assumption
  have KW := Lib.hid kw
  clear kw
  have lu := stops_le ok.us (1000 * x0) (1000 * x1) h
  have lv := stops_le ok.vs (1000 * y0) (1000 * y1) h
  obtain ⟨A1, c1, rfl, i1⟩ := ints_from_own ho1 (by unfold maxLen; omega)
  obtain ⟨A2, c2, rfl, i2⟩ := ints_from_own hoq (by unfold maxLen; omega)
  have s1 : W0.heap.size ≤ wa.heap.size := hb1.size
  have s2 : wa.heap.size ≤ wq.heap.size := hbq.size
  have bx : Below wq.heap.size wq ((wq.alloc (.cells #[.slice A1 (stopsL t.us.xs (1000 * x0) (1000 * x1) h).length c1] 58)).alloc (.cells #[.slice A2 (stopsL t.vs.xs (1000 * y0) (1000 * y1) h).length c2] 58)) := ((Below.refl _ _).alloc (Nat.le_refl _) _).alloc (by simp) _
  have sx : ((wq.alloc (.cells #[.slice A1 (stopsL t.us.xs (1000 * x0) (1000 * x1) h).length c1] 58)).alloc (.cells #[.slice A2 (stopsL t.vs.xs (1000 * y0) (1000 * y1) h).length c2] 58)).heap.size = wq.heap.size + 1 + 1 := by simp
  have e1 : ((wq.alloc (.cells #[.slice A1 (stopsL t.us.xs (1000 * x0) (1000 * x1) h).length c1] 58)).alloc (.cells #[.slice A2 (stopsL t.vs.xs (1000 * y0) (1000 * y1) h).length c2] 58)).cell? ⟨wq.heap.size, 0, none⟩ = some (.slice A1 (stopsL t.us.xs (1000 * x0) (1000 * x1) h).length c1) := by simp [go_sem]
  have e2 : ((wq.alloc (.cells #[.slice A1 (stopsL t.us.xs (1000 * x0) (1000 * x1) h).length c1] 58)).alloc (.cells #[.slice A2 (stopsL t.vs.xs (1000 * y0) (1000 * y1) h).length c2] 58)).cell? ⟨wq.heap.size + 1, 0, none⟩ = some (.slice A2 (stopsL t.vs.xs (1000 * y0) (1000 * y1) h).length c2) := by simp [go_sem]
  have j1 := ((i1.keep (Keep.of_below (hbq.trans (bx.mono hbq.size)))).more (Nat.le_refl _) (show wa.heap.size ≤ wq.heap.size + 1 + 1 by omega) : IntsFrom W0.heap.size _ _ _ _)
  have j2 := ((i2.keep (Keep.of_below bx)).more (show W0.heap.size ≤ wa.heap.size from s1) (show wq.heap.size ≤ wq.heap.size + 1 + 1 by omega) : IntsFrom W0.heap.size _ _ _ _)
  have bb : Below W0.heap.size W0 ((wq.alloc (.cells #[.slice A1 (stopsL t.us.xs (1000 * x0) (1000 * x1) h).length c1] 58)).alloc (.cells #[.slice A2 (stopsL t.vs.xs (1000 * y0) (1000 * y1) h).length c2] 58)) := KW.out.below
  have SX := Lib.hid sx
  have J := Lib.hid (And.intro e1 (And.intro e2 (And.intro j1 j2)))
  clear e1 e2 j1 j2 sx i1 i2 ho1 hoq
  go_wp2_with fail
  generalize ((wq.alloc (.cells #[.slice A1 (stopsL t.us.xs (1000 * x0) (1000 * x1) h).length c1] 58)).alloc (.cells #[.slice A2 (stopsL t.vs.xs (1000 * y0) (1000 * y1) h).length c2] 58)) = wx at *
  obtain ⟨i0, hi0, hz0, hz1, hz2⟩ := info_parts infoEncl
  have hfb : w.heap.size + 1 + 1 + 1 + 1 + 1 + 1 < W0.heap.size := by rw [SZ.out]; omega
  have sX : wq.heap.size + 1 + 1 ≤ wx.heap.size := Nat.le_of_eq SX.out.symm
  have bF : Boxed wx (w.heap.size + 1 + 1 + 1 + 1 + 1 + 1) 116 (.slice none 0 0) := (bb.block _ hfb).trans RR.out.2.2.2.2
  refine (wpIn_wide (n := 5)).1 ?_
  refine wpIn_rangeFunc_ownG rfl (by omega) (gf := 104) (lb := #[.pointer (some ⟨wq.heap.size, 0, none⟩), .pointer (some ⟨wq.heap.size + 1, 0, none⟩)]) rfl trivial (enters_of Try.func104 (by kernel_rfl) rfl)
    (cross_stops (5 - 1) wq.heap.size (wq.heap.size + 1) W0.heap.size (wq.heap.size + 1 + 1) A1 A2 c1 c2 (stopsL t.us.xs (1000 * x0) (1000 * x1) h) (stopsL t.vs.xs (1000 * y0) (1000 * y1) h) wx (by omega) ⟨by omega, by omega⟩ ⟨by omega, by omega⟩ sX J.out.1 J.out.2.1 J.out.2.2.1 J.out.2.2.2)
    Keep.trans (keep_putObj sX) (Below.refl _ _) (fun _ => rfl)
    (fun (pre : List (Pr (stopsL t.us.xs (1000 * x0) (1000 * x1) h) (stopsL t.vs.xs (1000 * y0) (1000 * y1) h))) W => (∃ v, Boxed W (w.heap.size + 1 + 1 + 1 + 1 + 1 + 1) 116 v ∧ W.ownsRow wx.heap.size 35 2 v pre.length (itVals t h (pre.map (·.1))) ∧ True) ∧ wx.grownBy W (some (w.heap.size + 1 + 1 + 1 + 1 + 1 + 1)))
    (fun _ _ _ => False)
    (OwnFrom.and (Go.Own.from (holdsRow_own wx.heap.size (w.heap.size + 1 + 1 + 1 + 1 + 1 + 1) 116 35 2 (fun (pre : List (Pr (stopsL t.us.xs (1000 * x0) (1000 * x1) h) (stopsL t.vs.xs (1000 * y0) (1000 * y1) h))) => pre.length) (fun (pre : List (Pr (stopsL t.us.xs (1000 * x0) (1000 * x1) h) (stopsL t.vs.xs (1000 * y0) (1000 * y1) h))) => itVals t h (pre.map (·.1))) (fun _ _ => True)) _) grown_from)
    (fun _ _ _ _ _ hs _ _ => hs)
    ⟨⟨_, bF, World.ownsRow_nil _ _ _ _, trivial⟩, World.grownBy.refl _ _⟩
    ?a1 ?assign ?body ?done ?stop
  case assign =>
    intro l x W K hK
    gi_wp2
    exact hK
  case stop =>
    rintro D c pre W _ _ hh _
    exact hh.elim
  case body =>
    rintro l pre x W ⟨⟨v, hv, hrow, _⟩, hg⟩ hlt
    have FX := Lib.hid (And.intro hv (And.intro hrow hg))
    have bW : Below w.heap.size W0 W := (bb.mono (by rw [SZ.out]; omega)).trans (grown_below hg (by rw [SX.out]; omega) (by omega))
    have kW : Kv7 t h w.heap.size W := Kv7.of KV.out (fun k hk => (hg.block k (by rw [SX.out]; omega) (by intro e; injection e with e; omega)).trans (bb.block k (by rw [SZ.out]; omega)))
    have szW : wx.heap.size ≤ W.heap.size := hg.size
    clear hv hrow hg
    have KS := Lib.hid (fun (Wz : World) (hk : ∀ k, k < w.heap.size + 1 + 1 + 1 + 1 + 1 + 1 → Wz.heap[k]? = W.heap[k]?) => Kv7.blocks kW hk)
    gi_wp2
    have hS0 : (fun w' : World => w'.cell? ⟨w.heap.size, 0, none⟩ = some (.string t.name) ∧ w'.cell? ⟨w.heap.size, 1, none⟩ = some (.slice t.us.a t.us.xs.length t.us.c) ∧ w'.cell? ⟨w.heap.size, 2, none⟩ = some (.slice t.vs.a t.vs.xs.length t.vs.c) ∧ w'.cell? ⟨w.heap.size, 3, none⟩ = some (.slice t.ra t.rows.length t.rc) ∧ w'.cell? ⟨w.heap.size, 4, none⟩ = some (.int .i64 t.side) ∧ w'.cell? ⟨w.heap.size, 5, none⟩ = some (.int .i64 t.sky) ∧ w'.cell? ⟨w.heap.size + 1 + 1, 0, none⟩ = some (.int .i64 h)) W.drew := KS.out W.drew (fun _ _ => rfl)
    refine wp_region_round (by kernel_rfl) (noDefer_spec (by kernel_rfl)) (fun hlo => ?_) (S := fun w' : World => w'.cell? ⟨w.heap.size, 0, none⟩ = some (.string t.name) ∧ w'.cell? ⟨w.heap.size, 1, none⟩ = some (.slice t.us.a t.us.xs.length t.us.c) ∧ w'.cell? ⟨w.heap.size, 2, none⟩ = some (.slice t.vs.a t.vs.xs.length t.vs.c) ∧ w'.cell? ⟨w.heap.size, 3, none⟩ = some (.slice t.ra t.rows.length t.rc) ∧ w'.cell? ⟨w.heap.size, 4, none⟩ = some (.int .i64 t.side) ∧ w'.cell? ⟨w.heap.size, 5, none⟩ = some (.int .i64 t.sky) ∧ w'.cell? ⟨w.heap.size + 1 + 1, 0, none⟩ = some (.int .i64 h)) ?_
    · obtain ⟨_, _, hlo⟩ := hlo; exact hlo
    have bD : Below W.drew.heap.size W.drew W.drew := Below.refl _ _
    refine wpAnyH_take (i := 1) (oi := { dst := some 40, op := Op.load 61 (Operand.tmp 3), type := 61, pos := "intensity.go:48", after := #[], guard := none }) (v := ?_) rfl (by kernel_rfl) (by kernel_rfl) (by kernel_rfl) (fun _ _ _ h => h) (Or.inl ⟨by rfl, ?_⟩) (by assumption) ?_
    rotate_left
    · intro w' hSw; (try dsimp only at hSw); go_simp; try with_reducible rfl
    (try simp only [Act.put, List.setIfInBounds_toArray, List.set_cons_zero, List.set_cons_succ])
    refine wpAnyH_take (i := 2) (oi := { dst := some 41, op := Op.fieldAddr 61 (Operand.tmp 3) 1, type := 0, pos := "intensity.go:48", after := #[], guard := none }) (v := ?_) rfl (by kernel_rfl) (by kernel_rfl) (by kernel_rfl) (fun _ _ _ h => h) (Or.inl ⟨by rfl, ?_⟩) (by assumption) ?_
    rotate_left
    · intro w' hSw; (try dsimp only at hSw); go_simp; try with_reducible rfl
    (try simp only [Act.put, List.setIfInBounds_toArray, List.set_cons_zero, List.set_cons_succ])
    refine wpAnyH_take (i := 3) (oi := { dst := some 42, op := Op.load 58 (Operand.tmp 41), type := 58, pos := "intensity.go:48", after := #[{ on := 2, ground := Ground.data }], guard := none }) (v := ?_) rfl (by kernel_rfl) (by kernel_rfl) (by kernel_rfl) (fun _ _ _ h => h) (Or.inl ⟨by rfl, ?_⟩) (by assumption) ?_
    rotate_left
    · intro w' hSw; (try dsimp only at hSw); go_simp; try with_reducible rfl
    (try simp only [Act.put, List.setIfInBounds_toArray, List.set_cons_zero, List.set_cons_succ])
    refine wpAnyH_take (i := 4) (oi := { dst := some 43, op := Op.move (Operand.tmp 10), type := 3, pos := "intensity.go:48", after := #[], guard := none }) (v := ?_) rfl (by kernel_rfl) (by kernel_rfl) (by kernel_rfl) (fun _ _ _ h => h) (Or.inl ⟨by rfl, ?_⟩) (by assumption) ?_
    rotate_left
    · intro w' hSw; (try dsimp only at hSw); go_simp; try with_reducible rfl
    (try simp only [Act.put, List.setIfInBounds_toArray, List.set_cons_zero, List.set_cons_succ])
    refine wpAnyH_take (i := 5) (oi := { dst := some 44, op := Op.load 3 (Operand.tmp 5), type := 3, pos := "intensity.go:48", after := #[], guard := none }) (v := ?_) rfl (by kernel_rfl) (by kernel_rfl) (by kernel_rfl) (fun _ _ _ h => h) (Or.inl ⟨by rfl, ?_⟩) (by assumption) ?_
    rotate_left
    · intro w' hSw; (try dsimp only at hSw); go_simp; try with_reducible rfl
    (try simp only [Act.put, List.setIfInBounds_toArray, List.set_cons_zero, List.set_cons_succ])
    refine wpAnyH_take (i := 7) (oi := { dst := some 46, op := Op.fieldAddr 61 (Operand.tmp 3) 2, type := 0, pos := "intensity.go:48", after := #[], guard := none }) (v := ?_) rfl (by kernel_rfl) (by kernel_rfl) (by kernel_rfl) (fun _ _ _ h => h) (Or.inl ⟨by rfl, ?_⟩) (by assumption) ?_
    rotate_left
    · intro w' hSw; (try dsimp only at hSw); go_simp; try with_reducible rfl
    (try simp only [Act.put, List.setIfInBounds_toArray, List.set_cons_zero, List.set_cons_succ])
    refine wpAnyH_take (i := 8) (oi := { dst := some 47, op := Op.load 58 (Operand.tmp 46), type := 58, pos := "intensity.go:48", after := #[{ on := 7, ground := Ground.data }], guard := none }) (v := ?_) rfl (by kernel_rfl) (by kernel_rfl) (by kernel_rfl) (fun _ _ _ h => h) (Or.inl ⟨by rfl, ?_⟩) (by assumption) ?_
    rotate_left
    · intro w' hSw; (try dsimp only at hSw); go_simp; try with_reducible rfl
    (try simp only [Act.put, List.setIfInBounds_toArray, List.set_cons_zero, List.set_cons_succ])
    refine wpAnyH_take (i := 9) (oi := { dst := some 48, op := Op.move (Operand.tmp 11), type := 3, pos := "intensity.go:48", after := #[], guard := none }) (v := ?_) rfl (by kernel_rfl) (by kernel_rfl) (by kernel_rfl) (fun _ _ _ h => h) (Or.inl ⟨by rfl, ?_⟩) (by assumption) ?_
    rotate_left
    · intro w' hSw; (try dsimp only at hSw); go_simp; try with_reducible rfl
    (try simp only [Act.put, List.setIfInBounds_toArray, List.set_cons_zero, List.set_cons_succ])
    refine wpAnyH_take (i := 10) (oi := { dst := some 49, op := Op.load 3 (Operand.tmp 5), type := 3, pos := "intensity.go:48", after := #[], guard := none }) (v := ?_) rfl (by kernel_rfl) (by kernel_rfl) (by kernel_rfl) (fun _ _ _ h => h) (Or.inl ⟨by rfl, ?_⟩) (by assumption) ?_
    rotate_left
    · intro w' hSw; (try dsimp only at hSw); go_simp; try with_reducible rfl
    (try simp only [Act.put, List.setIfInBounds_toArray, List.set_cons_zero, List.set_cons_succ])
    have bcD : Below W.drew.heap.size W.drew W.drew := bD
    obtain ⟨mu, mv⟩ := mem_prs x.2
    obtain ⟨iu, ru0, ru1⟩ := mem_stops ok.us h0 h1 (by omega) (by omega) (by omega) (by omega) mu
    obtain ⟨iv, rv0, rv1⟩ := mem_stops ok.vs h0 h1 (by omega) (by omega) (by omega) (by omega) mv
    obtain ⟨pu, pu1, _, _⟩ := plc_ok ok.us h0 h1 iu
    obtain ⟨pv, pv1, _, _⟩ := plc_ok ok.vs h0 h1 iv
    have sB : w.heap.size ≤ W.heap.size := by have := szW; have := SX.out; have := SZ.out; have := s1; have := s2; omega
    have bWd : Below w.heap.size W0 W.drew := bW.drew
    have CU := Lib.hid (fun (Wz : World) (hb : Below W.drew.heap.size W.drew Wz) => placeOf_any t.us.a t.us.c t.us.xs x.1.1 h Wz ((HU.out.keep (bWd.trans (hb.mono sB)) (Nat.le_refl _)).more (Nat.le_trans sB hb.size)) ok.us h0 h1 ru0 ru1)
    have CV := Lib.hid (fun (Wz : World) (hb : Below W.drew.heap.size W.drew Wz) => placeOf_any t.vs.a t.vs.c t.vs.xs x.1.2 h Wz ((HV.out.keep (bWd.trans (hb.mono sB)) (Nat.le_refl _)).more (Nat.le_trans sB hb.size)) ok.vs h0 h1 rv0 rv1)
    have CI := Lib.hid (fun (Wz : World) (hb : Below W.drew.heap.size W.drew Wz) => interp_any t (plc t.us.xs x.1.1 h) (plc t.vs.xs x.1.2 h) Wz ok ((HR.out.keep (bWd.trans (hb.mono sB)) (Nat.le_refl _)).more (Nat.le_trans sB hb.size)) pu pv pu1 pv1)
    have hfx : w.heap.size + 1 + 1 + 1 + 1 + 1 + 1 < wx.heap.size := by have := SX.out; have := s1; have := s2; omega
    have bW0 : Below W.heap.size W W.drew := (Below.refl _ _).drew
    have fbW : w.heap.size + 1 + 1 + 1 + 1 + 1 + 1 < W.drew.heap.size := FX.out.1.lt
    have CL := Lib.hid (fun (Wz : World) (hb : Below W.drew.heap.size W.drew Wz) => (World.cell?_of_block (a := ⟨w.heap.size + 1 + 1 + 1 + 1 + 1 + 1, 0, none⟩) (hb.block _ fbW)).trans FX.out.1.cell)
    have KT := Lib.hid (fun (Wz : World) (hb : Below W.drew.heap.size W.drew Wz) => KS.out Wz (fun k hk => hb.block k (by omega)))
    have hpl : pre.length < 196 := by rw [prs_length] at hlt; exact Nat.lt_of_lt_of_le hlt (Nat.mul_le_mul lu lv)
    have q1 : pre.length + 1 ≤ maxLen := by unfold maxLen; omega
    have q2 : (pre.length + 1) * 16 ≤ 140737488355328 := by omega
    refine wpAnyH_ready (rs := [0, 6]) (by kernel_rfl) (by simp) ?_
    refine AllReadyH.cons (o := { dst := some 39, op := Op.load 116 (Operand.tmp 9), type := 116, pos := "intensity.go:48", after := #[], guard := none }) rfl (fun K hK => ?_) ?_
    · have lc := CL.out _ bcD
      go_simp
      refine hK.out _ _ (KT.out _ bcD) (fun hHeld => ?_)
      clear hK K
      (try simp only [Act.put, List.setIfInBounds_toArray, List.set_cons_zero, List.set_cons_succ])
      refine wpAnyH_ready (rs := [6]) (by kernel_rfl) (by simp) ?_
      refine AllReadyH.cons (o := { dst := some 45, op := Op.call { callee := Callee.value (Operand.func 85), args := #[Operand.tmp 42, Operand.tmp 43, Operand.tmp 44], argTypes := #[58, 3, 3] }, type := 123, pos := "intensity.go:48", after := #[{ on := 3, ground := Ground.data }, { on := 4, ground := Ground.data }, { on := 5, ground := Ground.data }], guard := none }) rfl (fun K hK => ?_) ?_
      · skip
        go_simp
        refine (CU.out _ bcD).mono ?_
        rintro e wc1 ⟨rfl, oc1⟩
        have bc1 : Below W.drew.heap.size W.drew wc1 := bcD.trans (oc1.below.mono bcD.size)
        go_wp2_with fail
        refine hK.out _ _ (KT.out _ bc1) (fun hHeld => ?_)
        clear hK K
        (try simp only [Act.put, List.setIfInBounds_toArray, List.set_cons_zero, List.set_cons_succ])
        refine wpAnyH_ready (rs := [11]) (by kernel_rfl) (by simp) ?_
        refine AllReadyH.cons (o := { dst := some 50, op := Op.call { callee := Callee.value (Operand.func 85), args := #[Operand.tmp 47, Operand.tmp 48, Operand.tmp 49], argTypes := #[58, 3, 3] }, type := 123, pos := "intensity.go:48", after := #[{ on := 8, ground := Ground.data }, { on := 9, ground := Ground.data }, { on := 10, ground := Ground.data }, { on := 6, ground := Ground.chain }], guard := none }) rfl (fun K hK => ?_) ?_
        · skip
          go_simp
          refine (CV.out _ bc1).mono ?_
          rintro e wc2 ⟨rfl, oc2⟩
          have bc2 : Below W.drew.heap.size W.drew wc2 := bc1.trans (oc2.below.mono bc1.size)
          go_wp2_with fail
          refine hK.out _ _ (KT.out _ bc2) (fun hHeld => ?_)
          clear hK K
          (try simp only [Act.put, List.setIfInBounds_toArray, List.set_cons_zero, List.set_cons_succ])
          refine wpAnyH_ready (rs := [12]) (by kernel_rfl) (by simp) ?_
          refine AllReadyH.cons (o := { dst := some 51, op := Op.call { callee := Callee.value (Operand.func 84), args := #[Operand.tmp 40, Operand.tmp 45, Operand.tmp 50], argTypes := #[61, 123, 123] }, type := 35, pos := "intensity.go:48", after := #[{ on := 1, ground := Ground.data }, { on := 6, ground := Ground.data }, { on := 11, ground := Ground.data }, { on := 11, ground := Ground.chain }], guard := none }) rfl (fun K hK => ?_) ?_
          · skip
            go_simp
            refine (CI.out _ bc2).mono ?_
            rintro e wc3 ⟨rfl, oc3⟩
            have bc3 : Below W.drew.heap.size W.drew wc3 := bc2.trans (oc3.below.mono bc2.size)
            go_wp2_with fail
            refine hK.out _ _ (KT.out _ bc3) (fun hHeld => ?_)
            clear hK K
            (try simp only [Act.put, List.setIfInBounds_toArray, List.set_cons_zero, List.set_cons_succ])
            refine wpAnyH_ready (rs := [13]) (by kernel_rfl) (by simp) ?_
            refine AllReadyH.cons (o := { dst := some 52, op := Op.buildSlice 116 1 #[(0, Operand.tmp 51)], type := 116, pos := "intensity.go:48", after := #[{ on := 12, ground := Ground.data }], guard := none }) rfl (fun K hK => ?_) ?_
            · skip
              have bc4 : Below W.drew.heap.size W.drew (wc3.alloc (.cells #[.int .i64 (itLo t (plc t.us.xs x.1.1 h) (plc t.vs.xs x.1.2 h)), .int .i64 (itHi t (plc t.us.xs x.1.1 h) (plc t.vs.xs x.1.2 h))] 35)) := bc3.alloc bc3.size _
              have nc0 : (wc3.alloc (.cells #[.int .i64 (itLo t (plc t.us.xs x.1.1 h) (plc t.vs.xs x.1.2 h)), .int .i64 (itHi t (plc t.us.xs x.1.1 h) (plc t.vs.xs x.1.2 h))] 35)).cell? ⟨wc3.heap.size, 0, none⟩ = some (.int .i64 (itLo t (plc t.us.xs x.1.1 h) (plc t.vs.xs x.1.2 h))) := by simp [go_sem]
              have nc1 : (wc3.alloc (.cells #[.int .i64 (itLo t (plc t.us.xs x.1.1 h) (plc t.vs.xs x.1.2 h)), .int .i64 (itHi t (plc t.us.xs x.1.1 h) (plc t.vs.xs x.1.2 h))] 35)).cell? ⟨wc3.heap.size, 1, none⟩ = some (.int .i64 (itHi t (plc t.us.xs x.1.1 h) (plc t.vs.xs x.1.2 h))) := by simp [go_sem]
              have ne4 : (wc3.alloc (.cells #[.int .i64 (itLo t (plc t.us.xs x.1.1 h) (plc t.vs.xs x.1.2 h)), .int .i64 (itHi t (plc t.us.xs x.1.1 h) (plc t.vs.xs x.1.2 h))] 35)).heap.size = wc3.heap.size + 1 := by simp
              go_simp
              refine hK.out _ _ (KT.out _ bc4) (fun hHeld => ?_)
              clear hK K
              (try simp only [Act.put, List.setIfInBounds_toArray, List.set_cons_zero, List.set_cons_succ])
              generalize (wc3.alloc (.cells #[.int .i64 (itLo t (plc t.us.xs x.1.1 h) (plc t.vs.xs x.1.2 h)), .int .i64 (itHi t (plc t.us.xs x.1.1 h) (plc t.vs.xs x.1.2 h))] 35)) = wc4 at *
              refine wpAnyH_ready (rs := [14]) (by kernel_rfl) (by simp) ?_
              refine AllReadyH.cons (o := { dst := some 53, op := Op.call { callee := Callee.builtin Builtin.append, args := #[Operand.tmp 39, Operand.tmp 52], argTypes := #[116, 116] }, type := 116, pos := "intensity.go:48", after := #[{ on := 0, ground := Ground.data }, { on := 13, ground := Ground.data }, { on := 12, ground := Ground.chain }], guard := none }) rfl (fun K hK => ?_) AllReadyH.nil
              have hv4 : Boxed wc4 (w.heap.size + 1 + 1 + 1 + 1 + 1 + 1) 116 v := (bc4.block _ fbW).trans FX.out.1
              have hrow4 : wc4.ownsRow wx.heap.size 35 2 v pre.length (itVals t h (pre.map (·.1))) := ownsRow_below FX.out.2.1.drew bc4
              refine step_append_lies _ (by rfl) (.tmp 39) (.tmp 52) 116 (by rfl) wx.heap.size 35 i0 _ 2 16 Try.underlying116 hi0 hz0 hz1 hz2 rfl (by decide) v pre.length _ (by rfl) hrow4 ⟨wc3.heap.size, 0, none⟩ 1 1 [.int .i64 (itLo t (plc t.us.xs x.1.1 h) (plc t.vs.xs x.1.2 h)), .int .i64 (itHi t (plc t.us.xs x.1.1 h) (plc t.vs.xs x.1.2 h))] (by rfl) (by rfl) (fun j u hj => ?_) (by simp [Value.oneCell']) (by decide) q1 q2 (Nat.le_trans szW bc4.size) _ rfl ?_
              · match j, hj with | 0, hj => (cases hj; exact nc0) | 1, hj => (cases hj; exact nc1)
              intro g cap w5 hown5 hgrow5 hg5 hlt5
              have hob := own_base hrow4
              have hk5 : ∀ k, k < wx.heap.size → w5.heap[k]? = W.heap[k]? := fun k hk => (hgrow5.block k (Nat.lt_of_lt_of_le hk (Nat.le_trans szW bc4.size)) (fun e => by have := hob k e.symm; omega)).trans (bc4.block k (Nat.lt_of_lt_of_le hk szW))
              have hv5 : Boxed w5 (w.heap.size + 1 + 1 + 1 + 1 + 1 + 1) 116 v := (hk5 _ hfx).trans FX.out.1
              have hv5c := hv5.cell
              have hv5f := hv5.frozen
              refine hK.out _ _ (KS.out w5 (fun k hk => hk5 k (by omega))) (fun hHeld => ?_)
              clear hK K
              (try simp only [Act.put, List.setIfInBounds_toArray, List.set_cons_zero, List.set_cons_succ])
              refine wpAnyH_ready (rs := [15]) (by kernel_rfl) (by simp) ?_
              refine AllReadyH.cons (o := { dst := none, op := Op.store 116 (Operand.tmp 9) (Operand.tmp 53), type := 0, pos := "intensity.go:48", after := #[{ on := 14, ground := Ground.data }, { on := 14, ground := Ground.chain }, { on := 0, ground := Ground.phase }, { on := 1, ground := Ground.phase }, { on := 2, ground := Ground.phase }, { on := 3, ground := Ground.phase }, { on := 4, ground := Ground.phase }, { on := 5, ground := Ground.phase }, { on := 6, ground := Ground.phase }, { on := 7, ground := Ground.phase }, { on := 8, ground := Ground.phase }, { on := 9, ground := Ground.phase }, { on := 10, ground := Ground.phase }, { on := 11, ground := Ground.phase }, { on := 12, ground := Ground.phase }, { on := 13, ground := Ground.phase }, { on := 14, ground := Ground.phase }], guard := none }) rfl (fun K hK => ?_) AllReadyH.nil
              go_simp
              refine hK.out _ _ (KS.out _ (fun k hk => ((grownBy_setCell' w5 _ _).block k (by have := hv5.lt; omega) (by intro e; injection e with e; omega)).trans (hk5 k (by omega)))) (fun hHeld => ?_)
              refine wpAnyH_done (by kernel_rfl) ?_ _
              exact round_end (x := x) (n1 := W0.heap.size) (n2 := wq.heap.size + 1 + 1) FX.out.1 FX.out.2.1 FX.out.2.2 (bW0.trans bc4) hgrow5 hown5 hfb sX hfx
            exact AllReadyH.nil
          exact AllReadyH.nil
        exact AllReadyH.nil
      exact AllReadyH.nil
    refine AllReadyH.cons (o := { dst := some 45, op := Op.call { callee := Callee.value (Operand.func 85), args := #[Operand.tmp 42, Operand.tmp 43, Operand.tmp 44], argTypes := #[58, 3, 3] }, type := 123, pos := "intensity.go:48", after := #[{ on := 3, ground := Ground.data }, { on := 4, ground := Ground.data }, { on := 5, ground := Ground.data }], guard := none }) rfl (fun K hK => ?_) ?_
    · skip
      go_simp
      refine (CU.out _ bcD).mono ?_
      rintro e wc1 ⟨rfl, oc1⟩
      have bc1 : Below W.drew.heap.size W.drew wc1 := bcD.trans (oc1.below.mono bcD.size)
      go_wp2_with fail
      refine hK.out _ _ (KT.out _ bc1) (fun hHeld => ?_)
      clear hK K
      (try simp only [Act.put, List.setIfInBounds_toArray, List.set_cons_zero, List.set_cons_succ])
      refine wpAnyH_ready (rs := [0, 11]) (by kernel_rfl) (by simp) ?_
      refine AllReadyH.cons (o := { dst := some 39, op := Op.load 116 (Operand.tmp 9), type := 116, pos := "intensity.go:48", after := #[], guard := none }) rfl (fun K hK => ?_) ?_
      · have lc := CL.out _ bc1
        go_simp
        refine hK.out _ _ (KT.out _ bc1) (fun hHeld => ?_)
        clear hK K
        (try simp only [Act.put, List.setIfInBounds_toArray, List.set_cons_zero, List.set_cons_succ])
        refine wpAnyH_ready (rs := [11]) (by kernel_rfl) (by simp) ?_
        refine AllReadyH.cons (o := { dst := some 50, op := Op.call { callee := Callee.value (Operand.func 85), args := #[Operand.tmp 47, Operand.tmp 48, Operand.tmp 49], argTypes := #[58, 3, 3] }, type := 123, pos := "intensity.go:48", after := #[{ on := 8, ground := Ground.data }, { on := 9, ground := Ground.data }, { on := 10, ground := Ground.data }, { on := 6, ground := Ground.chain }], guard := none }) rfl (fun K hK => ?_) ?_
        · skip
          go_simp
          refine (CV.out _ bc1).mono ?_
          rintro e wc2 ⟨rfl, oc2⟩
          have bc2 : Below W.drew.heap.size W.drew wc2 := bc1.trans (oc2.below.mono bc1.size)
          go_wp2_with fail
          refine hK.out _ _ (KT.out _ bc2) (fun hHeld => ?_)
          clear hK K
          (try simp only [Act.put, List.setIfInBounds_toArray, List.set_cons_zero, List.set_cons_succ])
          refine wpAnyH_ready (rs := [12]) (by kernel_rfl) (by simp) ?_
          refine AllReadyH.cons (o := { dst := some 51, op := Op.call { callee := Callee.value (Operand.func 84), args := #[Operand.tmp 40, Operand.tmp 45, Operand.tmp 50], argTypes := #[61, 123, 123] }, type := 35, pos := "intensity.go:48", after := #[{ on := 1, ground := Ground.data }, { on := 6, ground := Ground.data }, { on := 11, ground := Ground.data }, { on := 11, ground := Ground.chain }], guard := none }) rfl (fun K hK => ?_) ?_
          · skip
            go_simp
            refine (CI.out _ bc2).mono ?_
            rintro e wc3 ⟨rfl, oc3⟩
            have bc3 : Below W.drew.heap.size W.drew wc3 := bc2.trans (oc3.below.mono bc2.size)
            go_wp2_with fail
            refine hK.out _ _ (KT.out _ bc3) (fun hHeld => ?_)
            clear hK K
            (try simp only [Act.put, List.setIfInBounds_toArray, List.set_cons_zero, List.set_cons_succ])
            refine wpAnyH_ready (rs := [13]) (by kernel_rfl) (by simp) ?_
            refine AllReadyH.cons (o := { dst := some 52, op := Op.buildSlice 116 1 #[(0, Operand.tmp 51)], type := 116, pos := "intensity.go:48", after := #[{ on := 12, ground := Ground.data }], guard := none }) rfl (fun K hK => ?_) ?_
            · skip
              have bc4 : Below W.drew.heap.size W.drew (wc3.alloc (.cells #[.int .i64 (itLo t (plc t.us.xs x.1.1 h) (plc t.vs.xs x.1.2 h)), .int .i64 (itHi t (plc t.us.xs x.1.1 h) (plc t.vs.xs x.1.2 h))] 35)) := bc3.alloc bc3.size _
              have nc0 : (wc3.alloc (.cells #[.int .i64 (itLo t (plc t.us.xs x.1.1 h) (plc t.vs.xs x.1.2 h)), .int .i64 (itHi t (plc t.us.xs x.1.1 h) (plc t.vs.xs x.1.2 h))] 35)).cell? ⟨wc3.heap.size, 0, none⟩ = some (.int .i64 (itLo t (plc t.us.xs x.1.1 h) (plc t.vs.xs x.1.2 h))) := by simp [go_sem]
              have nc1 : (wc3.alloc (.cells #[.int .i64 (itLo t (plc t.us.xs x.1.1 h) (plc t.vs.xs x.1.2 h)), .int .i64 (itHi t (plc t.us.xs x.1.1 h) (plc t.vs.xs x.1.2 h))] 35)).cell? ⟨wc3.heap.size, 1, none⟩ = some (.int .i64 (itHi t (plc t.us.xs x.1.1 h) (plc t.vs.xs x.1.2 h))) := by simp [go_sem]
              have ne4 : (wc3.alloc (.cells #[.int .i64 (itLo t (plc t.us.xs x.1.1 h) (plc t.vs.xs x.1.2 h)), .int .i64 (itHi t (plc t.us.xs x.1.1 h) (plc t.vs.xs x.1.2 h))] 35)).heap.size = wc3.heap.size + 1 := by simp
              go_simp
              refine hK.out _ _ (KT.out _ bc4) (fun hHeld => ?_)
              clear hK K
              (try simp only [Act.put, List.setIfInBounds_toArray, List.set_cons_zero, List.set_cons_succ])
              generalize (wc3.alloc (.cells #[.int .i64 (itLo t (plc t.us.xs x.1.1 h) (plc t.vs.xs x.1.2 h)), .int .i64 (itHi t (plc t.us.xs x.1.1 h) (plc t.vs.xs x.1.2 h))] 35)) = wc4 at *
              refine wpAnyH_ready (rs := [14]) (by kernel_rfl) (by simp) ?_
              refine AllReadyH.cons (o := { dst := some 53, op := Op.call { callee := Callee.builtin Builtin.append, args := #[Operand.tmp 39, Operand.tmp 52], argTypes := #[116, 116] }, type := 116, pos := "intensity.go:48", after := #[{ on := 0, ground := Ground.data }, { on := 13, ground := Ground.data }, { on := 12, ground := Ground.chain }], guard := none }) rfl (fun K hK => ?_) AllReadyH.nil
              have hv4 : Boxed wc4 (w.heap.size + 1 + 1 + 1 + 1 + 1 + 1) 116 v := (bc4.block _ fbW).trans FX.out.1
              have hrow4 : wc4.ownsRow wx.heap.size 35 2 v pre.length (itVals t h (pre.map (·.1))) := ownsRow_below FX.out.2.1.drew bc4
              refine step_append_lies _ (by rfl) (.tmp 39) (.tmp 52) 116 (by rfl) wx.heap.size 35 i0 _ 2 16 Try.underlying116 hi0 hz0 hz1 hz2 rfl (by decide) v pre.length _ (by rfl) hrow4 ⟨wc3.heap.size, 0, none⟩ 1 1 [.int .i64 (itLo t (plc t.us.xs x.1.1 h) (plc t.vs.xs x.1.2 h)), .int .i64 (itHi t (plc t.us.xs x.1.1 h) (plc t.vs.xs x.1.2 h))] (by rfl) (by rfl) (fun j u hj => ?_) (by simp [Value.oneCell']) (by decide) q1 q2 (Nat.le_trans szW bc4.size) _ rfl ?_
              · match j, hj with | 0, hj => (cases hj; exact nc0) | 1, hj => (cases hj; exact nc1)
              intro g cap w5 hown5 hgrow5 hg5 hlt5
              have hob := own_base hrow4
              have hk5 : ∀ k, k < wx.heap.size → w5.heap[k]? = W.heap[k]? := fun k hk => (hgrow5.block k (Nat.lt_of_lt_of_le hk (Nat.le_trans szW bc4.size)) (fun e => by have := hob k e.symm; omega)).trans (bc4.block k (Nat.lt_of_lt_of_le hk szW))
              have hv5 : Boxed w5 (w.heap.size + 1 + 1 + 1 + 1 + 1 + 1) 116 v := (hk5 _ hfx).trans FX.out.1
              have hv5c := hv5.cell
              have hv5f := hv5.frozen
              refine hK.out _ _ (KS.out w5 (fun k hk => hk5 k (by omega))) (fun hHeld => ?_)
              clear hK K
              (try simp only [Act.put, List.setIfInBounds_toArray, List.set_cons_zero, List.set_cons_succ])
              refine wpAnyH_ready (rs := [15]) (by kernel_rfl) (by simp) ?_
              refine AllReadyH.cons (o := { dst := none, op := Op.store 116 (Operand.tmp 9) (Operand.tmp 53), type := 0, pos := "intensity.go:48", after := #[{ on := 14, ground := Ground.data }, { on := 14, ground := Ground.chain }, { on := 0, ground := Ground.phase }, { on := 1, ground := Ground.phase }, { on := 2, ground := Ground.phase }, { on := 3, ground := Ground.phase }, { on := 4, ground := Ground.phase }, { on := 5, ground := Ground.phase }, { on := 6, ground := Ground.phase }, { on := 7, ground := Ground.phase }, { on := 8, ground := Ground.phase }, { on := 9, ground := Ground.phase }, { on := 10, ground := Ground.phase }, { on := 11, ground := Ground.phase }, { on := 12, ground := Ground.phase }, { on := 13, ground := Ground.phase }, { on := 14, ground := Ground.phase }], guard := none }) rfl (fun K hK => ?_) AllReadyH.nil
              go_simp
              refine hK.out _ _ (KS.out _ (fun k hk => ((grownBy_setCell' w5 _ _).block k (by have := hv5.lt; omega) (by intro e; injection e with e; omega)).trans (hk5 k (by omega)))) (fun hHeld => ?_)
              refine wpAnyH_done (by kernel_rfl) ?_ _
              exact round_end (x := x) (n1 := W0.heap.size) (n2 := wq.heap.size + 1 + 1) FX.out.1 FX.out.2.1 FX.out.2.2 (bW0.trans bc4) hgrow5 hown5 hfb sX hfx
            exact AllReadyH.nil
          exact AllReadyH.nil
        exact AllReadyH.nil
      refine AllReadyH.cons (o := { dst := some 50, op := Op.call { callee := Callee.value (Operand.func 85), args := #[Operand.tmp 47, Operand.tmp 48, Operand.tmp 49], argTypes := #[58, 3, 3] }, type := 123, pos := "intensity.go:48", after := #[{ on := 8, ground := Ground.data }, { on := 9, ground := Ground.data }, { on := 10, ground := Ground.data }, { on := 6, ground := Ground.chain }], guard := none }) rfl (fun K hK => ?_) ?_
      · skip
        go_simp
        refine (CV.out _ bc1).mono ?_
        rintro e wc2 ⟨rfl, oc2⟩
        have bc2 : Below W.drew.heap.size W.drew wc2 := bc1.trans (oc2.below.mono bc1.size)
        go_wp2_with fail
        refine hK.out _ _ (KT.out _ bc2) (fun hHeld => ?_)
        clear hK K
        (try simp only [Act.put, List.setIfInBounds_toArray, List.set_cons_zero, List.set_cons_succ])
        refine wpAnyH_ready (rs := [0, 12]) (by kernel_rfl) (by simp) ?_
        refine AllReadyH.cons (o := { dst := some 39, op := Op.load 116 (Operand.tmp 9), type := 116, pos := "intensity.go:48", after := #[], guard := none }) rfl (fun K hK => ?_) ?_
        · have lc := CL.out _ bc2
          go_simp
          refine hK.out _ _ (KT.out _ bc2) (fun hHeld => ?_)
          clear hK K
          (try simp only [Act.put, List.setIfInBounds_toArray, List.set_cons_zero, List.set_cons_succ])
          refine wpAnyH_ready (rs := [12]) (by kernel_rfl) (by simp) ?_
          refine AllReadyH.cons (o := { dst := some 51, op := Op.call { callee := Callee.value (Operand.func 84), args := #[Operand.tmp 40, Operand.tmp 45, Operand.tmp 50], argTypes := #[61, 123, 123] }, type := 35, pos := "intensity.go:48", after := #[{ on := 1, ground := Ground.data }, { on := 6, ground := Ground.data }, { on := 11, ground := Ground.data }, { on := 11, ground := Ground.chain }], guard := none }) rfl (fun K hK => ?_) ?_
          · skip
            go_simp
            refine (CI.out _ bc2).mono ?_
            rintro e wc3 ⟨rfl, oc3⟩
            have bc3 : Below W.drew.heap.size W.drew wc3 := bc2.trans (oc3.below.mono bc2.size)
            go_wp2_with fail
            refine hK.out _ _ (KT.out _ bc3) (fun hHeld => ?_)
            clear hK K
            (try simp only [Act.put, List.setIfInBounds_toArray, List.set_cons_zero, List.set_cons_succ])
            refine wpAnyH_ready (rs := [13]) (by kernel_rfl) (by simp) ?_
            refine AllReadyH.cons (o := { dst := some 52, op := Op.buildSlice 116 1 #[(0, Operand.tmp 51)], type := 116, pos := "intensity.go:48", after := #[{ on := 12, ground := Ground.data }], guard := none }) rfl (fun K hK => ?_) ?_
            · skip
              have bc4 : Below W.drew.heap.size W.drew (wc3.alloc (.cells #[.int .i64 (itLo t (plc t.us.xs x.1.1 h) (plc t.vs.xs x.1.2 h)), .int .i64 (itHi t (plc t.us.xs x.1.1 h) (plc t.vs.xs x.1.2 h))] 35)) := bc3.alloc bc3.size _
              have nc0 : (wc3.alloc (.cells #[.int .i64 (itLo t (plc t.us.xs x.1.1 h) (plc t.vs.xs x.1.2 h)), .int .i64 (itHi t (plc t.us.xs x.1.1 h) (plc t.vs.xs x.1.2 h))] 35)).cell? ⟨wc3.heap.size, 0, none⟩ = some (.int .i64 (itLo t (plc t.us.xs x.1.1 h) (plc t.vs.xs x.1.2 h))) := by simp [go_sem]
              have nc1 : (wc3.alloc (.cells #[.int .i64 (itLo t (plc t.us.xs x.1.1 h) (plc t.vs.xs x.1.2 h)), .int .i64 (itHi t (plc t.us.xs x.1.1 h) (plc t.vs.xs x.1.2 h))] 35)).cell? ⟨wc3.heap.size, 1, none⟩ = some (.int .i64 (itHi t (plc t.us.xs x.1.1 h) (plc t.vs.xs x.1.2 h))) := by simp [go_sem]
              have ne4 : (wc3.alloc (.cells #[.int .i64 (itLo t (plc t.us.xs x.1.1 h) (plc t.vs.xs x.1.2 h)), .int .i64 (itHi t (plc t.us.xs x.1.1 h) (plc t.vs.xs x.1.2 h))] 35)).heap.size = wc3.heap.size + 1 := by simp
              go_simp
              refine hK.out _ _ (KT.out _ bc4) (fun hHeld => ?_)
              clear hK K
              (try simp only [Act.put, List.setIfInBounds_toArray, List.set_cons_zero, List.set_cons_succ])
              generalize (wc3.alloc (.cells #[.int .i64 (itLo t (plc t.us.xs x.1.1 h) (plc t.vs.xs x.1.2 h)), .int .i64 (itHi t (plc t.us.xs x.1.1 h) (plc t.vs.xs x.1.2 h))] 35)) = wc4 at *
              refine wpAnyH_ready (rs := [14]) (by kernel_rfl) (by simp) ?_
              refine AllReadyH.cons (o := { dst := some 53, op := Op.call { callee := Callee.builtin Builtin.append, args := #[Operand.tmp 39, Operand.tmp 52], argTypes := #[116, 116] }, type := 116, pos := "intensity.go:48", after := #[{ on := 0, ground := Ground.data }, { on := 13, ground := Ground.data }, { on := 12, ground := Ground.chain }], guard := none }) rfl (fun K hK => ?_) AllReadyH.nil
              have hv4 : Boxed wc4 (w.heap.size + 1 + 1 + 1 + 1 + 1 + 1) 116 v := (bc4.block _ fbW).trans FX.out.1
              have hrow4 : wc4.ownsRow wx.heap.size 35 2 v pre.length (itVals t h (pre.map (·.1))) := ownsRow_below FX.out.2.1.drew bc4
              refine step_append_lies _ (by rfl) (.tmp 39) (.tmp 52) 116 (by rfl) wx.heap.size 35 i0 _ 2 16 Try.underlying116 hi0 hz0 hz1 hz2 rfl (by decide) v pre.length _ (by rfl) hrow4 ⟨wc3.heap.size, 0, none⟩ 1 1 [.int .i64 (itLo t (plc t.us.xs x.1.1 h) (plc t.vs.xs x.1.2 h)), .int .i64 (itHi t (plc t.us.xs x.1.1 h) (plc t.vs.xs x.1.2 h))] (by rfl) (by rfl) (fun j u hj => ?_) (by simp [Value.oneCell']) (by decide) q1 q2 (Nat.le_trans szW bc4.size) _ rfl ?_
              · match j, hj with | 0, hj => (cases hj; exact nc0) | 1, hj => (cases hj; exact nc1)
              intro g cap w5 hown5 hgrow5 hg5 hlt5
              have hob := own_base hrow4
              have hk5 : ∀ k, k < wx.heap.size → w5.heap[k]? = W.heap[k]? := fun k hk => (hgrow5.block k (Nat.lt_of_lt_of_le hk (Nat.le_trans szW bc4.size)) (fun e => by have := hob k e.symm; omega)).trans (bc4.block k (Nat.lt_of_lt_of_le hk szW))
              have hv5 : Boxed w5 (w.heap.size + 1 + 1 + 1 + 1 + 1 + 1) 116 v := (hk5 _ hfx).trans FX.out.1
              have hv5c := hv5.cell
              have hv5f := hv5.frozen
              refine hK.out _ _ (KS.out w5 (fun k hk => hk5 k (by omega))) (fun hHeld => ?_)
              clear hK K
              (try simp only [Act.put, List.setIfInBounds_toArray, List.set_cons_zero, List.set_cons_succ])
              refine wpAnyH_ready (rs := [15]) (by kernel_rfl) (by simp) ?_
              refine AllReadyH.cons (o := { dst := none, op := Op.store 116 (Operand.tmp 9) (Operand.tmp 53), type := 0, pos := "intensity.go:48", after := #[{ on := 14, ground := Ground.data }, { on := 14, ground := Ground.chain }, { on := 0, ground := Ground.phase }, { on := 1, ground := Ground.phase }, { on := 2, ground := Ground.phase }, { on := 3, ground := Ground.phase }, { on := 4, ground := Ground.phase }, { on := 5, ground := Ground.phase }, { on := 6, ground := Ground.phase }, { on := 7, ground := Ground.phase }, { on := 8, ground := Ground.phase }, { on := 9, ground := Ground.phase }, { on := 10, ground := Ground.phase }, { on := 11, ground := Ground.phase }, { on := 12, ground := Ground.phase }, { on := 13, ground := Ground.phase }, { on := 14, ground := Ground.phase }], guard := none }) rfl (fun K hK => ?_) AllReadyH.nil
              go_simp
              refine hK.out _ _ (KS.out _ (fun k hk => ((grownBy_setCell' w5 _ _).block k (by have := hv5.lt; omega) (by intro e; injection e with e; omega)).trans (hk5 k (by omega)))) (fun hHeld => ?_)
              refine wpAnyH_done (by kernel_rfl) ?_ _
              exact round_end (x := x) (n1 := W0.heap.size) (n2 := wq.heap.size + 1 + 1) FX.out.1 FX.out.2.1 FX.out.2.2 (bW0.trans bc4) hgrow5 hown5 hfb sX hfx
            exact AllReadyH.nil
          exact AllReadyH.nil
        refine AllReadyH.cons (o := { dst := some 51, op := Op.call { callee := Callee.value (Operand.func 84), args := #[Operand.tmp 40, Operand.tmp 45, Operand.tmp 50], argTypes := #[61, 123, 123] }, type := 35, pos := "intensity.go:48", after := #[{ on := 1, ground := Ground.data }, { on := 6, ground := Ground.data }, { on := 11, ground := Ground.data }, { on := 11, ground := Ground.chain }], guard := none }) rfl (fun K hK => ?_) ?_
        · skip
          go_simp
          refine (CI.out _ bc2).mono ?_
          rintro e wc3 ⟨rfl, oc3⟩
          have bc3 : Below W.drew.heap.size W.drew wc3 := bc2.trans (oc3.below.mono bc2.size)
          go_wp2_with fail
          refine hK.out _ _ (KT.out _ bc3) (fun hHeld => ?_)
          clear hK K
          (try simp only [Act.put, List.setIfInBounds_toArray, List.set_cons_zero, List.set_cons_succ])
          refine wpAnyH_ready (rs := [0, 13]) (by kernel_rfl) (by simp) ?_
          refine AllReadyH.cons (o := { dst := some 39, op := Op.load 116 (Operand.tmp 9), type := 116, pos := "intensity.go:48", after := #[], guard := none }) rfl (fun K hK => ?_) ?_
          · have lc := CL.out _ bc3
            go_simp
            refine hK.out _ _ (KT.out _ bc3) (fun hHeld => ?_)
            clear hK K
            (try simp only [Act.put, List.setIfInBounds_toArray, List.set_cons_zero, List.set_cons_succ])
            refine wpAnyH_ready (rs := [13]) (by kernel_rfl) (by simp) ?_
            refine AllReadyH.cons (o := { dst := some 52, op := Op.buildSlice 116 1 #[(0, Operand.tmp 51)], type := 116, pos := "intensity.go:48", after := #[{ on := 12, ground := Ground.data }], guard := none }) rfl (fun K hK => ?_) ?_
            · skip
              have bc4 : Below W.drew.heap.size W.drew (wc3.alloc (.cells #[.int .i64 (itLo t (plc t.us.xs x.1.1 h) (plc t.vs.xs x.1.2 h)), .int .i64 (itHi t (plc t.us.xs x.1.1 h) (plc t.vs.xs x.1.2 h))] 35)) := bc3.alloc bc3.size _
              have nc0 : (wc3.alloc (.cells #[.int .i64 (itLo t (plc t.us.xs x.1.1 h) (plc t.vs.xs x.1.2 h)), .int .i64 (itHi t (plc t.us.xs x.1.1 h) (plc t.vs.xs x.1.2 h))] 35)).cell? ⟨wc3.heap.size, 0, none⟩ = some (.int .i64 (itLo t (plc t.us.xs x.1.1 h) (plc t.vs.xs x.1.2 h))) := by simp [go_sem]
              have nc1 : (wc3.alloc (.cells #[.int .i64 (itLo t (plc t.us.xs x.1.1 h) (plc t.vs.xs x.1.2 h)), .int .i64 (itHi t (plc t.us.xs x.1.1 h) (plc t.vs.xs x.1.2 h))] 35)).cell? ⟨wc3.heap.size, 1, none⟩ = some (.int .i64 (itHi t (plc t.us.xs x.1.1 h) (plc t.vs.xs x.1.2 h))) := by simp [go_sem]
              have ne4 : (wc3.alloc (.cells #[.int .i64 (itLo t (plc t.us.xs x.1.1 h) (plc t.vs.xs x.1.2 h)), .int .i64 (itHi t (plc t.us.xs x.1.1 h) (plc t.vs.xs x.1.2 h))] 35)).heap.size = wc3.heap.size + 1 := by simp
              go_simp
              refine hK.out _ _ (KT.out _ bc4) (fun hHeld => ?_)
              clear hK K
              (try simp only [Act.put, List.setIfInBounds_toArray, List.set_cons_zero, List.set_cons_succ])
              generalize (wc3.alloc (.cells #[.int .i64 (itLo t (plc t.us.xs x.1.1 h) (plc t.vs.xs x.1.2 h)), .int .i64 (itHi t (plc t.us.xs x.1.1 h) (plc t.vs.xs x.1.2 h))] 35)) = wc4 at *
              refine wpAnyH_ready (rs := [14]) (by kernel_rfl) (by simp) ?_
              refine AllReadyH.cons (o := { dst := some 53, op := Op.call { callee := Callee.builtin Builtin.append, args := #[Operand.tmp 39, Operand.tmp 52], argTypes := #[116, 116] }, type := 116, pos := "intensity.go:48", after := #[{ on := 0, ground := Ground.data }, { on := 13, ground := Ground.data }, { on := 12, ground := Ground.chain }], guard := none }) rfl (fun K hK => ?_) AllReadyH.nil
              have hv4 : Boxed wc4 (w.heap.size + 1 + 1 + 1 + 1 + 1 + 1) 116 v := (bc4.block _ fbW).trans FX.out.1
              have hrow4 : wc4.ownsRow wx.heap.size 35 2 v pre.length (itVals t h (pre.map (·.1))) := ownsRow_below FX.out.2.1.drew bc4
              refine step_append_lies _ (by rfl) (.tmp 39) (.tmp 52) 116 (by rfl) wx.heap.size 35 i0 _ 2 16 Try.underlying116 hi0 hz0 hz1 hz2 rfl (by decide) v pre.length _ (by rfl) hrow4 ⟨wc3.heap.size, 0, none⟩ 1 1 [.int .i64 (itLo t (plc t.us.xs x.1.1 h) (plc t.vs.xs x.1.2 h)), .int .i64 (itHi t (plc t.us.xs x.1.1 h) (plc t.vs.xs x.1.2 h))] (by rfl) (by rfl) (fun j u hj => ?_) (by simp [Value.oneCell']) (by decide) q1 q2 (Nat.le_trans szW bc4.size) _ rfl ?_
              · match j, hj with | 0, hj => (cases hj; exact nc0) | 1, hj => (cases hj; exact nc1)
              intro g cap w5 hown5 hgrow5 hg5 hlt5
              have hob := own_base hrow4
              have hk5 : ∀ k, k < wx.heap.size → w5.heap[k]? = W.heap[k]? := fun k hk => (hgrow5.block k (Nat.lt_of_lt_of_le hk (Nat.le_trans szW bc4.size)) (fun e => by have := hob k e.symm; omega)).trans (bc4.block k (Nat.lt_of_lt_of_le hk szW))
              have hv5 : Boxed w5 (w.heap.size + 1 + 1 + 1 + 1 + 1 + 1) 116 v := (hk5 _ hfx).trans FX.out.1
              have hv5c := hv5.cell
              have hv5f := hv5.frozen
              refine hK.out _ _ (KS.out w5 (fun k hk => hk5 k (by omega))) (fun hHeld => ?_)
              clear hK K
              (try simp only [Act.put, List.setIfInBounds_toArray, List.set_cons_zero, List.set_cons_succ])
              refine wpAnyH_ready (rs := [15]) (by kernel_rfl) (by simp) ?_
              refine AllReadyH.cons (o := { dst := none, op := Op.store 116 (Operand.tmp 9) (Operand.tmp 53), type := 0, pos := "intensity.go:48", after := #[{ on := 14, ground := Ground.data }, { on := 14, ground := Ground.chain }, { on := 0, ground := Ground.phase }, { on := 1, ground := Ground.phase }, { on := 2, ground := Ground.phase }, { on := 3, ground := Ground.phase }, { on := 4, ground := Ground.phase }, { on := 5, ground := Ground.phase }, { on := 6, ground := Ground.phase }, { on := 7, ground := Ground.phase }, { on := 8, ground := Ground.phase }, { on := 9, ground := Ground.phase }, { on := 10, ground := Ground.phase }, { on := 11, ground := Ground.phase }, { on := 12, ground := Ground.phase }, { on := 13, ground := Ground.phase }, { on := 14, ground := Ground.phase }], guard := none }) rfl (fun K hK => ?_) AllReadyH.nil
              go_simp
              refine hK.out _ _ (KS.out _ (fun k hk => ((grownBy_setCell' w5 _ _).block k (by have := hv5.lt; omega) (by intro e; injection e with e; omega)).trans (hk5 k (by omega)))) (fun hHeld => ?_)
              refine wpAnyH_done (by kernel_rfl) ?_ _
              exact round_end (x := x) (n1 := W0.heap.size) (n2 := wq.heap.size + 1 + 1) FX.out.1 FX.out.2.1 FX.out.2.2 (bW0.trans bc4) hgrow5 hown5 hfb sX hfx
            exact AllReadyH.nil
          refine AllReadyH.cons (o := { dst := some 52, op := Op.buildSlice 116 1 #[(0, Operand.tmp 51)], type := 116, pos := "intensity.go:48", after := #[{ on := 12, ground := Ground.data }], guard := none }) rfl (fun K hK => ?_) ?_
          · skip
            have bc4 : Below W.drew.heap.size W.drew (wc3.alloc (.cells #[.int .i64 (itLo t (plc t.us.xs x.1.1 h) (plc t.vs.xs x.1.2 h)), .int .i64 (itHi t (plc t.us.xs x.1.1 h) (plc t.vs.xs x.1.2 h))] 35)) := bc3.alloc bc3.size _
            have nc0 : (wc3.alloc (.cells #[.int .i64 (itLo t (plc t.us.xs x.1.1 h) (plc t.vs.xs x.1.2 h)), .int .i64 (itHi t (plc t.us.xs x.1.1 h) (plc t.vs.xs x.1.2 h))] 35)).cell? ⟨wc3.heap.size, 0, none⟩ = some (.int .i64 (itLo t (plc t.us.xs x.1.1 h) (plc t.vs.xs x.1.2 h))) := by simp [go_sem]
            have nc1 : (wc3.alloc (.cells #[.int .i64 (itLo t (plc t.us.xs x.1.1 h) (plc t.vs.xs x.1.2 h)), .int .i64 (itHi t (plc t.us.xs x.1.1 h) (plc t.vs.xs x.1.2 h))] 35)).cell? ⟨wc3.heap.size, 1, none⟩ = some (.int .i64 (itHi t (plc t.us.xs x.1.1 h) (plc t.vs.xs x.1.2 h))) := by simp [go_sem]
            have ne4 : (wc3.alloc (.cells #[.int .i64 (itLo t (plc t.us.xs x.1.1 h) (plc t.vs.xs x.1.2 h)), .int .i64 (itHi t (plc t.us.xs x.1.1 h) (plc t.vs.xs x.1.2 h))] 35)).heap.size = wc3.heap.size + 1 := by simp
            go_simp
            refine hK.out _ _ (KT.out _ bc4) (fun hHeld => ?_)
            clear hK K
            (try simp only [Act.put, List.setIfInBounds_toArray, List.set_cons_zero, List.set_cons_succ])
            generalize (wc3.alloc (.cells #[.int .i64 (itLo t (plc t.us.xs x.1.1 h) (plc t.vs.xs x.1.2 h)), .int .i64 (itHi t (plc t.us.xs x.1.1 h) (plc t.vs.xs x.1.2 h))] 35)) = wc4 at *
            refine wpAnyH_ready (rs := [0]) (by kernel_rfl) (by simp) ?_
            refine AllReadyH.cons (o := { dst := some 39, op := Op.load 116 (Operand.tmp 9), type := 116, pos := "intensity.go:48", after := #[], guard := none }) rfl (fun K hK => ?_) ?_
            · have lc := CL.out _ bc4
              go_simp
              refine hK.out _ _ (KT.out _ bc4) (fun hHeld => ?_)
              clear hK K
              (try simp only [Act.put, List.setIfInBounds_toArray, List.set_cons_zero, List.set_cons_succ])
              refine wpAnyH_ready (rs := [14]) (by kernel_rfl) (by simp) ?_
              refine AllReadyH.cons (o := { dst := some 53, op := Op.call { callee := Callee.builtin Builtin.append, args := #[Operand.tmp 39, Operand.tmp 52], argTypes := #[116, 116] }, type := 116, pos := "intensity.go:48", after := #[{ on := 0, ground := Ground.data }, { on := 13, ground := Ground.data }, { on := 12, ground := Ground.chain }], guard := none }) rfl (fun K hK => ?_) AllReadyH.nil
              have hv4 : Boxed wc4 (w.heap.size + 1 + 1 + 1 + 1 + 1 + 1) 116 v := (bc4.block _ fbW).trans FX.out.1
              have hrow4 : wc4.ownsRow wx.heap.size 35 2 v pre.length (itVals t h (pre.map (·.1))) := ownsRow_below FX.out.2.1.drew bc4
              refine step_append_lies _ (by rfl) (.tmp 39) (.tmp 52) 116 (by rfl) wx.heap.size 35 i0 _ 2 16 Try.underlying116 hi0 hz0 hz1 hz2 rfl (by decide) v pre.length _ (by rfl) hrow4 ⟨wc3.heap.size, 0, none⟩ 1 1 [.int .i64 (itLo t (plc t.us.xs x.1.1 h) (plc t.vs.xs x.1.2 h)), .int .i64 (itHi t (plc t.us.xs x.1.1 h) (plc t.vs.xs x.1.2 h))] (by rfl) (by rfl) (fun j u hj => ?_) (by simp [Value.oneCell']) (by decide) q1 q2 (Nat.le_trans szW bc4.size) _ rfl ?_
              · match j, hj with | 0, hj => (cases hj; exact nc0) | 1, hj => (cases hj; exact nc1)
              intro g cap w5 hown5 hgrow5 hg5 hlt5
              have hob := own_base hrow4
              have hk5 : ∀ k, k < wx.heap.size → w5.heap[k]? = W.heap[k]? := fun k hk => (hgrow5.block k (Nat.lt_of_lt_of_le hk (Nat.le_trans szW bc4.size)) (fun e => by have := hob k e.symm; omega)).trans (bc4.block k (Nat.lt_of_lt_of_le hk szW))
              have hv5 : Boxed w5 (w.heap.size + 1 + 1 + 1 + 1 + 1 + 1) 116 v := (hk5 _ hfx).trans FX.out.1
              have hv5c := hv5.cell
              have hv5f := hv5.frozen
              refine hK.out _ _ (KS.out w5 (fun k hk => hk5 k (by omega))) (fun hHeld => ?_)
              clear hK K
              (try simp only [Act.put, List.setIfInBounds_toArray, List.set_cons_zero, List.set_cons_succ])
              refine wpAnyH_ready (rs := [15]) (by kernel_rfl) (by simp) ?_
              refine AllReadyH.cons (o := { dst := none, op := Op.store 116 (Operand.tmp 9) (Operand.tmp 53), type := 0, pos := "intensity.go:48", after := #[{ on := 14, ground := Ground.data }, { on := 14, ground := Ground.chain }, { on := 0, ground := Ground.phase }, { on := 1, ground := Ground.phase }, { on := 2, ground := Ground.phase }, { on := 3, ground := Ground.phase }, { on := 4, ground := Ground.phase }, { on := 5, ground := Ground.phase }, { on := 6, ground := Ground.phase }, { on := 7, ground := Ground.phase }, { on := 8, ground := Ground.phase }, { on := 9, ground := Ground.phase }, { on := 10, ground := Ground.phase }, { on := 11, ground := Ground.phase }, { on := 12, ground := Ground.phase }, { on := 13, ground := Ground.phase }, { on := 14, ground := Ground.phase }], guard := none }) rfl (fun K hK => ?_) AllReadyH.nil
              go_simp
              refine hK.out _ _ (KS.out _ (fun k hk => ((grownBy_setCell' w5 _ _).block k (by have := hv5.lt; omega) (by intro e; injection e with e; omega)).trans (hk5 k (by omega)))) (fun hHeld => ?_)
              refine wpAnyH_done (by kernel_rfl) ?_ _
              exact round_end (x := x) (n1 := W0.heap.size) (n2 := wq.heap.size + 1 + 1) FX.out.1 FX.out.2.1 FX.out.2.2 (bW0.trans bc4) hgrow5 hown5 hfb sX hfx
            exact AllReadyH.nil
          exact AllReadyH.nil
        exact AllReadyH.nil
      exact AllReadyH.nil
    exact AllReadyH.nil
  case done =>
    rintro D xs W hD hS ⟨⟨v, hv, hrow, _⟩, hg⟩ hK
    have kb : ∀ k, k < w.heap.size + 1 + 1 + 1 + 1 + 1 + 1 → W.heap[k]? = W0.heap[k]? := fun k hk => (hg.block k (by omega) (by intro e; injection e with e; omega)).trans (bb.block k (by omega))
    have kW := KV.out.blocks kb
    have r0 := (World.cell?_of_block (a := ⟨w.heap.size + 1 + 1 + 1, 0, none⟩) (kb _ (by show w.heap.size + 1 + 1 + 1 < _; omega))).trans RR.out.1
    have r1 := (World.cell?_of_block (a := ⟨w.heap.size + 1 + 1 + 1, 1, none⟩) (kb _ (by show w.heap.size + 1 + 1 + 1 < _; omega))).trans RR.out.2.1
    have g0 := (World.frozen?_of_block (a := ⟨w.heap.size + 1 + 1 + 1, 0, none⟩) (kb _ (by show w.heap.size + 1 + 1 + 1 < _; omega))).trans RR.out.2.2.1
    have g1 := (World.frozen?_of_block (a := ⟨w.heap.size + 1 + 1 + 1, 1, none⟩) (kb _ (by show w.heap.size + 1 + 1 + 1 < _; omega))).trans RR.out.2.2.2.1
    have bW : Below w.heap.size W0 W := (bb.mono (by rw [SZ.out]; omega)).trans (grown_below hg (by rw [SX.out]; omega) (by omega))
    have sfb : w.heap.size + 1 + 1 + 1 + 1 + 1 + 1 < W.heap.size := hv.lt
    have sB : w.heap.size ≤ W.heap.size := by omega
    have hfx : w.heap.size + 1 + 1 + 1 + 1 + 1 + 1 < wx.heap.size := by omega
    have szW := hg.size
    have C1 := Lib.hid (fun (Wz : World) (hb : Below W.heap.size W Wz) => isIn_any t.us.a t.us.c t.us.xs (1000 * x0) (1000 * x1) h Wz ((HU.out.keep (bW.trans (hb.mono sB)) (Nat.le_refl _)).more (Nat.le_trans sB hb.size)) ok.us h0 h1)
    have C2 := Lib.hid (fun (Wz : World) (hb : Below W.heap.size W Wz) => isIn_any t.vs.a t.vs.c t.vs.xs (1000 * y0) (1000 * y1) h Wz ((HV.out.keep (bW.trans (hb.mono sB)) (Nat.le_refl _)).more (Nat.le_trans sB hb.size)) ok.vs h0 h1)
    have F := Lib.hid (And.intro r0 (And.intro r1 (And.intro g0 (And.intro g1 (And.intro hv (And.intro hrow (And.intro hK bW)))))))
    have KW2 := Lib.hid kW
    clear r0 r1 g0 g1 hrow hK hv bW
    obtain ⟨c0, c1', c2', c3, c4, c5, c6, c7, c8, c9, c10⟩ := kW
    go_wp2_with fail
    refine (C1.out _ (Below.refl _ _)).mono ?_
    rintro e wa ⟨rfl, oa⟩
    clear c0 c1' c2' c3 c4 c5 c6 c7 c8 c9 c10
    obtain ⟨c0, c1', c2', c3, c4, c5, c6, c7, c8, c9, c10⟩ := KW2.out.blocks (fun k hk => oa.below.block k (by omega))
    cases hiu : inB2 t.us.xs h (1000 * x0) (1000 * x1)
    · have BOTH : (inB2 t.us.xs h (1000 * x0) (1000 * x1) && inB2 t.vs.xs h (1000 * y0) (1000 * y1)) = false := by rw [hiu]; rfl
      have bl : Below W.heap.size W wa := oa.below
      have hvl : Boxed wa (w.heap.size + 1 + 1 + 1 + 1 + 1 + 1) 116 v := (bl.block _ sfb).trans F.out.2.2.2.2.1
      have hrl : wa.ownsRow wx.heap.size 35 2 v xs.length (itVals t h (xs.map (·.1))) := ownsRow_below F.out.2.2.2.2.2.1 bl
      have hDl : wa.heap[D]? = some (.deferred (some [])) := (bl.block D (Array.getElem?_eq_some_iff.1 F.out.2.2.2.2.2.2.1).1).trans F.out.2.2.2.2.2.2.1
      have hvc := hvl.cell
      have hvf := hvl.frozen
      have hf : fnd t x0 x1 y0 y1 h = (xs.map (·.1)).map (fun p => (itLo2 t h p, itHi2 t h p)) ++ [(0, t.side)] := by unfold fnd; rw [hS, BOTH]; rfl
      have lxs2 : xs.length ≤ 196 := by
        have lxs : xs.length = (prs (stopsL t.us.xs (1000 * x0) (1000 * x1) h) (stopsL t.vs.xs (1000 * y0) (1000 * y1) h)).length := by rw [← hS, List.length_map]
        rw [lxs, prs_length]; exact Nat.mul_le_mul lu lv
      have q1 : xs.length + 1 ≤ maxLen := by unfold maxLen; omega
      have q2 : (xs.length + 1) * 16 ≤ 140737488355328 := by omega
      have q3 : wx.heap.size ≤ (wa.alloc (.cells #[.int .i64 0, .int .i64 t.side] 35)).heap.size := by have := bl.size; simp; omega
      go_wp2_with (at_builtin; refine wpList_append_own _ rfl (.tmp 68) (.tmp 72) 116 rfl wx.heap.size 35 i0 _ 2 16 Try.underlying116 hi0 hz0 hz1 hz2 rfl (by decide) _ _ _ rfl (hrl.alloc _) ⟨wa.heap.size, 0, none⟩ 1 1 [.int .i64 0, .int .i64 t.side] rfl rfl (news2 _ _ _ _) (by simp [Value.oneCell']) q1 q2 q3 ?_; intro v2 w2 hown2 hgrow2 _; obtain ⟨g2, cap2, rfl, hown2⟩ := own_slice hown2; have hv2 : Boxed w2 (w.heap.size + 1 + 1 + 1 + 1 + 1 + 1) 116 v := (grown_low hrl hgrow2 _ hfx hvl.lt).trans hvl; have hv2c := hv2.cell; have hv2f := hv2.frozen)
      obtain ⟨kf, hvF, rowF, DF, bFl⟩ := append_end (D := D) hvl hrl hgrow2 hv2 hown2 hDl
      have kF : ∀ k, k < w.heap.size + 1 + 1 + 1 + 1 + 1 + 1 → (World.heap (w2.setCell ⟨w.heap.size + 1 + 1 + 1 + 1 + 1 + 1, 0, none⟩ (.slice (some ⟨g2, 0, none⟩) (xs.length + 1) cap2)))[k]? = W.heap[k]? := fun k hk => (kf k (by omega) (by have := bl.size; omega) (by omega)).trans (bl.block k (by omega))
      have bF := (bl.mono sB).trans (bFl w.heap.size (by omega) (by omega) (by have := bl.size; omega))
      have hlen : (fnd t x0 x1 y0 y1 h).length = xs.length + 1 := by rw [hf]; simp
      have hrowF : itVals t h (xs.map (·.1)) ++ [.int .i64 0, .int .i64 t.side] = flatV (fnd t x0 x1 y0 y1 h) := by rw [hf, flatV_it]; unfold flatV; rw [List.flatMap_append]; rfl
      rw [hrowF] at rowF
      have hm : xs.length ≤ 999999 := by omega
      clear bFl kf hown2 hgrow2 hv2c hv2f hv2 hvl hrl hDl hrowF lxs2 q1 q2 q3 hf
      generalize (w2.setCell ⟨w.heap.size + 1 + 1 + 1 + 1 + 1 + 1, 0, none⟩ (.slice (some ⟨g2, 0, none⟩) (xs.length + 1) cap2)) = wf at *
      generalize (Value.slice (some ⟨g2, 0, none⟩) (xs.length + 1) cap2) = vf at *
      have hNN : xs.length + 1 ≤ 1000000 := by omega
      have hN1 : 1 ≤ xs.length + 1 := by omega
      clear hm
      generalize xs.length + 1 = N at *
      obtain ⟨g, cap, rfl, hc0, hc1, hg1, hg2, hcell⟩ := row_cells rowF hlen hN1
      unfold maxLen at hc1
      have n1 : (1 : Int) ≤ (N : Int) := by omega
      have n2 : (N : Int) ≤ (cap : Int) := by omega
      have n3 : (0 : Int) < (N : Int) := by omega
      have n4 : 0 < N := by omega
      have n5 : N ≤ cap := hc0
      have k0 : wf.cell? ⟨g, 0, none⟩ = some (.int .i64 (pLo (fnd t x0 x1 y0 y1 h) 0)) := by simpa using (hcell 0 (by omega)).1
      have k1 : wf.cell? ⟨g, 1, none⟩ = some (.int .i64 (pHi (fnd t x0 x1 y0 y1 h) 0)) := by simpa using (hcell 0 (by omega)).2
      have KF := Lib.hid (fun (Wz : World) (hk : ∀ k, k < wf.heap.size → k ≠ w.heap.size + 1 + 1 + 1 → Wz.heap[k]? = wf.heap[k]?) => And.intro ((World.cell?_of_block (a := ⟨w.heap.size + 1 + 1 + 1 + 1 + 1 + 1, 0, none⟩) (hk _ hvF.lt (by show w.heap.size + 1 + 1 + 1 + 1 + 1 + 1 ≠ _; omega))).trans hvF.cell) (And.intro ((World.cell?_of_block (a := ⟨g, 0, none⟩) (hk _ hg1 (by show g ≠ _; omega))).trans k0) ((World.cell?_of_block (a := ⟨g, 1, none⟩) (hk _ hg1 (by show g ≠ _; omega))).trans k1)))
      have JO : Calls Try.prog 87 #[.agg #[.int .i64 (pLo (fnd t x0 x1 y0 y1 h) 0), .int .i64 (pHi (fnd t x0 x1 y0 y1 h) 0)], .slice (if cap = 1 then some ⟨g, 0, none⟩ else some ⟨g, 2, none⟩) (N - 1) (cap - 1)] wf.drew fun e w' => e = .returned (encl (hullLo (fnd t x0 x1 y0 y1 h)) (hullHi (fnd t x0 x1 y0 y1 h))) ∧ Own wf.drew.heap.size wf.drew w' := by
        unfold hullLo hullHi
        rw [hlen]
        split
        · exact join_off (pLo (fnd t x0 x1 y0 y1 h) 0) (pHi (fnd t x0 x1 y0 y1 h) 0) (N - 1) (cap - 1) g 0 (fun j => pLo (fnd t x0 x1 y0 y1 h) (j + 1)) (fun j => pHi (fnd t x0 x1 y0 y1 h) (j + 1)) wf.drew (by omega) hg1 (fun j hj => by omega) (fun j hj => by omega)
        · exact join_off (pLo (fnd t x0 x1 y0 y1 h) 0) (pHi (fnd t x0 x1 y0 y1 h) 0) (N - 1) (cap - 1) g 2 (fun j => pLo (fnd t x0 x1 y0 y1 h) (j + 1)) (fun j => pHi (fnd t x0 x1 y0 y1 h) (j + 1)) wf.drew (by omega) hg1 (fun j hj => by have := (hcell (j + 1) (by omega)).1; rw [show (j + 1) * 2 = 2 + j * 2 by omega] at this; exact this) (fun j hj => by have := (hcell (j + 1) (by omega)).2; rw [show (j + 1) * 2 = 2 + j * 2 by omega] at this; exact this)
      have JO := Lib.hid JO
      have sF : w.heap.size + 1 + 1 + 1 < wf.heap.size := by have := bF.size; omega
      have Z := Lib.hid (fun (Wz : World) (hk : Wz.heap[w.heap.size + 1 + 1 + 1]? = wf.heap[w.heap.size + 1 + 1 + 1]?) => And.intro ((World.cell?_of_block (a := ⟨w.heap.size + 1 + 1 + 1, 0, none⟩) (hk.trans (kF _ (by omega)))).trans F.out.1) (And.intro ((World.cell?_of_block (a := ⟨w.heap.size + 1 + 1 + 1, 1, none⟩) (hk.trans (kF _ (by omega)))).trans F.out.2.1) (And.intro ((World.frozen?_of_block (a := ⟨w.heap.size + 1 + 1 + 1, 0, none⟩) (hk.trans (kF _ (by omega)))).trans F.out.2.2.1) ((World.frozen?_of_block (a := ⟨w.heap.size + 1 + 1 + 1, 1, none⟩) (hk.trans (kF _ (by omega)))).trans F.out.2.2.2.1))))
      clear hcell k0 k1
      go_region_held3 (fun w' => w'.cell? ⟨w.heap.size + 1 + 1 + 1 + 1 + 1 + 1, 0, none⟩ = some (.slice (some ⟨g, 0, none⟩) N cap) ∧ w'.cell? ⟨g, 0, none⟩ = some (.int .i64 (pLo (fnd t x0 x1 y0 y1 h) 0)) ∧ w'.cell? ⟨g, 1, none⟩ = some (.int .i64 (pHi (fnd t x0 x1 y0 y1 h) 0))) (first | exact KF.out _ (fun _ _ _ => rfl) | exact KF.out _ (fun k hk _ => oj.below.block k hk) | exact KF.out _ (fun k hk hne => (Below.heap_setCell _ _ _ k hne).trans ((Below.heap_setCell _ _ _ k hne).trans (oj.below.block k hk))))
        (first | (go_at_call 87; (with_reducible refine JO.out.mono ?_); rintro e wj ⟨rfl, oj⟩; obtain ⟨z0, z1, z2, z3⟩ := Z.out wj (oj.below.block _ sF); dsimp only))
      have DJ : wj.heap[D]? = some (.deferred (some [])) := (oj.below.block D (Array.getElem?_eq_some_iff.1 DF).1).trans DF
      have sJ : w.heap.size + 1 + 1 + 1 < wj.heap.size := by have := oj.below.size; have e : wf.drew.heap.size = wf.heap.size := rfl; omega
      generalize (if cap = 1 then some (⟨g, 0, none⟩ : Addr) else some ⟨g, 2, none⟩) = ad at *
      have LF := leave_set (a := .int .i64 (hullLo (fnd t x0 x1 y0 y1 h))) (b := .int .i64 (hullHi (fnd t x0 x1 y0 y1 h))) (wj := wj) (s := w.heap.size + 1 + 1 + 1) (D := D) DJ z0 z1
      generalize ((wj.setCell ⟨w.heap.size + 1 + 1 + 1, 0, none⟩ (.int .i64 (hullLo (fnd t x0 x1 y0 y1 h)))).setCell ⟨w.heap.size + 1 + 1 + 1, 1, none⟩ (.int .i64 (hullHi (fnd t x0 x1 y0 y1 h)))) = wz at *
      obtain ⟨l0, l1, l2, l3⟩ := LF
      go_wp2_with fail
      refine ⟨by simp, .inl ⟨_, _, rfl, run_takeDeferred l2, ?_⟩⟩
      refine ⟨encl (hullLo (fnd t x0 x1 y0 y1 h)) (hullHi (fnd t x0 x1 y0 y1 h)), ?_, rfl, ?_⟩
      · generalize wz.putObj D (.deferred none) = we at *
        simp [results, Try.f51, go_sem, l0, l1]
      · exact (bw0.trans (F.out.2.2.2.2.2.2.2.trans (bF.drew.trans ((oj.below.mono (Nat.le_trans sB bF.size)).trans (l3 _ (by omega) (by omega))))))
      
    go_wp2_with fail
    refine (C2.out _ oa.below).mono ?_
    rintro e wb ⟨rfl, ob⟩
    clear c0 c1' c2' c3 c4 c5 c6 c7 c8 c9 c10
    have oab := oa.below.trans (ob.below.mono oa.below.size)
    obtain ⟨c0, c1', c2', c3, c4, c5, c6, c7, c8, c9, c10⟩ := KW2.out.blocks (fun k hk => oab.block k (by omega))
    cases hiv : inB2 t.vs.xs h (1000 * y0) (1000 * y1)
    · have BOTH : (inB2 t.us.xs h (1000 * x0) (1000 * x1) && inB2 t.vs.xs h (1000 * y0) (1000 * y1)) = false := by rw [hiu, hiv]; rfl
      have bl : Below W.heap.size W wb := oab
      have hvl : Boxed wb (w.heap.size + 1 + 1 + 1 + 1 + 1 + 1) 116 v := (bl.block _ sfb).trans F.out.2.2.2.2.1
      have hrl : wb.ownsRow wx.heap.size 35 2 v xs.length (itVals t h (xs.map (·.1))) := ownsRow_below F.out.2.2.2.2.2.1 bl
      have hDl : wb.heap[D]? = some (.deferred (some [])) := (bl.block D (Array.getElem?_eq_some_iff.1 F.out.2.2.2.2.2.2.1).1).trans F.out.2.2.2.2.2.2.1
      have hvc := hvl.cell
      have hvf := hvl.frozen
      have hf : fnd t x0 x1 y0 y1 h = (xs.map (·.1)).map (fun p => (itLo2 t h p, itHi2 t h p)) ++ [(0, t.side)] := by unfold fnd; rw [hS, BOTH]; rfl
      have lxs2 : xs.length ≤ 196 := by
        have lxs : xs.length = (prs (stopsL t.us.xs (1000 * x0) (1000 * x1) h) (stopsL t.vs.xs (1000 * y0) (1000 * y1) h)).length := by rw [← hS, List.length_map]
        rw [lxs, prs_length]; exact Nat.mul_le_mul lu lv
      have q1 : xs.length + 1 ≤ maxLen := by unfold maxLen; omega
      have q2 : (xs.length + 1) * 16 ≤ 140737488355328 := by omega
      have q3 : wx.heap.size ≤ (wb.alloc (.cells #[.int .i64 0, .int .i64 t.side] 35)).heap.size := by have := bl.size; simp; omega
      go_wp2_with (at_builtin; refine wpList_append_own _ rfl (.tmp 68) (.tmp 72) 116 rfl wx.heap.size 35 i0 _ 2 16 Try.underlying116 hi0 hz0 hz1 hz2 rfl (by decide) _ _ _ rfl (hrl.alloc _) ⟨wb.heap.size, 0, none⟩ 1 1 [.int .i64 0, .int .i64 t.side] rfl rfl (news2 _ _ _ _) (by simp [Value.oneCell']) q1 q2 q3 ?_; intro v2 w2 hown2 hgrow2 _; obtain ⟨g2, cap2, rfl, hown2⟩ := own_slice hown2; have hv2 : Boxed w2 (w.heap.size + 1 + 1 + 1 + 1 + 1 + 1) 116 v := (grown_low hrl hgrow2 _ hfx hvl.lt).trans hvl; have hv2c := hv2.cell; have hv2f := hv2.frozen)
      obtain ⟨kf, hvF, rowF, DF, bFl⟩ := append_end (D := D) hvl hrl hgrow2 hv2 hown2 hDl
      have kF : ∀ k, k < w.heap.size + 1 + 1 + 1 + 1 + 1 + 1 → (World.heap (w2.setCell ⟨w.heap.size + 1 + 1 + 1 + 1 + 1 + 1, 0, none⟩ (.slice (some ⟨g2, 0, none⟩) (xs.length + 1) cap2)))[k]? = W.heap[k]? := fun k hk => (kf k (by omega) (by have := bl.size; omega) (by omega)).trans (bl.block k (by omega))
      have bF := (bl.mono sB).trans (bFl w.heap.size (by omega) (by omega) (by have := bl.size; omega))
      have hlen : (fnd t x0 x1 y0 y1 h).length = xs.length + 1 := by rw [hf]; simp
      have hrowF : itVals t h (xs.map (·.1)) ++ [.int .i64 0, .int .i64 t.side] = flatV (fnd t x0 x1 y0 y1 h) := by rw [hf, flatV_it]; unfold flatV; rw [List.flatMap_append]; rfl
      rw [hrowF] at rowF
      have hm : xs.length ≤ 999999 := by omega
      clear bFl kf hown2 hgrow2 hv2c hv2f hv2 hvl hrl hDl hrowF lxs2 q1 q2 q3 hf
      generalize (w2.setCell ⟨w.heap.size + 1 + 1 + 1 + 1 + 1 + 1, 0, none⟩ (.slice (some ⟨g2, 0, none⟩) (xs.length + 1) cap2)) = wf at *
      generalize (Value.slice (some ⟨g2, 0, none⟩) (xs.length + 1) cap2) = vf at *
      have hNN : xs.length + 1 ≤ 1000000 := by omega
      have hN1 : 1 ≤ xs.length + 1 := by omega
      clear hm
      generalize xs.length + 1 = N at *
      obtain ⟨g, cap, rfl, hc0, hc1, hg1, hg2, hcell⟩ := row_cells rowF hlen hN1
      unfold maxLen at hc1
      have n1 : (1 : Int) ≤ (N : Int) := by omega
      have n2 : (N : Int) ≤ (cap : Int) := by omega
      have n3 : (0 : Int) < (N : Int) := by omega
      have n4 : 0 < N := by omega
      have n5 : N ≤ cap := hc0
      have k0 : wf.cell? ⟨g, 0, none⟩ = some (.int .i64 (pLo (fnd t x0 x1 y0 y1 h) 0)) := by simpa using (hcell 0 (by omega)).1
      have k1 : wf.cell? ⟨g, 1, none⟩ = some (.int .i64 (pHi (fnd t x0 x1 y0 y1 h) 0)) := by simpa using (hcell 0 (by omega)).2
      have KF := Lib.hid (fun (Wz : World) (hk : ∀ k, k < wf.heap.size → k ≠ w.heap.size + 1 + 1 + 1 → Wz.heap[k]? = wf.heap[k]?) => And.intro ((World.cell?_of_block (a := ⟨w.heap.size + 1 + 1 + 1 + 1 + 1 + 1, 0, none⟩) (hk _ hvF.lt (by show w.heap.size + 1 + 1 + 1 + 1 + 1 + 1 ≠ _; omega))).trans hvF.cell) (And.intro ((World.cell?_of_block (a := ⟨g, 0, none⟩) (hk _ hg1 (by show g ≠ _; omega))).trans k0) ((World.cell?_of_block (a := ⟨g, 1, none⟩) (hk _ hg1 (by show g ≠ _; omega))).trans k1)))
      have JO : Calls Try.prog 87 #[.agg #[.int .i64 (pLo (fnd t x0 x1 y0 y1 h) 0), .int .i64 (pHi (fnd t x0 x1 y0 y1 h) 0)], .slice (if cap = 1 then some ⟨g, 0, none⟩ else some ⟨g, 2, none⟩) (N - 1) (cap - 1)] wf.drew fun e w' => e = .returned (encl (hullLo (fnd t x0 x1 y0 y1 h)) (hullHi (fnd t x0 x1 y0 y1 h))) ∧ Own wf.drew.heap.size wf.drew w' := by
        unfold hullLo hullHi
        rw [hlen]
        split
        · exact join_off (pLo (fnd t x0 x1 y0 y1 h) 0) (pHi (fnd t x0 x1 y0 y1 h) 0) (N - 1) (cap - 1) g 0 (fun j => pLo (fnd t x0 x1 y0 y1 h) (j + 1)) (fun j => pHi (fnd t x0 x1 y0 y1 h) (j + 1)) wf.drew (by omega) hg1 (fun j hj => by omega) (fun j hj => by omega)
        · exact join_off (pLo (fnd t x0 x1 y0 y1 h) 0) (pHi (fnd t x0 x1 y0 y1 h) 0) (N - 1) (cap - 1) g 2 (fun j => pLo (fnd t x0 x1 y0 y1 h) (j + 1)) (fun j => pHi (fnd t x0 x1 y0 y1 h) (j + 1)) wf.drew (by omega) hg1 (fun j hj => by have := (hcell (j + 1) (by omega)).1; rw [show (j + 1) * 2 = 2 + j * 2 by omega] at this; exact this) (fun j hj => by have := (hcell (j + 1) (by omega)).2; rw [show (j + 1) * 2 = 2 + j * 2 by omega] at this; exact this)
      have JO := Lib.hid JO
      have sF : w.heap.size + 1 + 1 + 1 < wf.heap.size := by have := bF.size; omega
      have Z := Lib.hid (fun (Wz : World) (hk : Wz.heap[w.heap.size + 1 + 1 + 1]? = wf.heap[w.heap.size + 1 + 1 + 1]?) => And.intro ((World.cell?_of_block (a := ⟨w.heap.size + 1 + 1 + 1, 0, none⟩) (hk.trans (kF _ (by omega)))).trans F.out.1) (And.intro ((World.cell?_of_block (a := ⟨w.heap.size + 1 + 1 + 1, 1, none⟩) (hk.trans (kF _ (by omega)))).trans F.out.2.1) (And.intro ((World.frozen?_of_block (a := ⟨w.heap.size + 1 + 1 + 1, 0, none⟩) (hk.trans (kF _ (by omega)))).trans F.out.2.2.1) ((World.frozen?_of_block (a := ⟨w.heap.size + 1 + 1 + 1, 1, none⟩) (hk.trans (kF _ (by omega)))).trans F.out.2.2.2.1))))
      clear hcell k0 k1
      go_region_held3 (fun w' => w'.cell? ⟨w.heap.size + 1 + 1 + 1 + 1 + 1 + 1, 0, none⟩ = some (.slice (some ⟨g, 0, none⟩) N cap) ∧ w'.cell? ⟨g, 0, none⟩ = some (.int .i64 (pLo (fnd t x0 x1 y0 y1 h) 0)) ∧ w'.cell? ⟨g, 1, none⟩ = some (.int .i64 (pHi (fnd t x0 x1 y0 y1 h) 0))) (first | exact KF.out _ (fun _ _ _ => rfl) | exact KF.out _ (fun k hk _ => oj.below.block k hk) | exact KF.out _ (fun k hk hne => (Below.heap_setCell _ _ _ k hne).trans ((Below.heap_setCell _ _ _ k hne).trans (oj.below.block k hk))))
        (first | (go_at_call 87; (with_reducible refine JO.out.mono ?_); rintro e wj ⟨rfl, oj⟩; obtain ⟨z0, z1, z2, z3⟩ := Z.out wj (oj.below.block _ sF); dsimp only))
      have DJ : wj.heap[D]? = some (.deferred (some [])) := (oj.below.block D (Array.getElem?_eq_some_iff.1 DF).1).trans DF
      have sJ : w.heap.size + 1 + 1 + 1 < wj.heap.size := by have := oj.below.size; have e : wf.drew.heap.size = wf.heap.size := rfl; omega
      generalize (if cap = 1 then some (⟨g, 0, none⟩ : Addr) else some ⟨g, 2, none⟩) = ad at *
      have LF := leave_set (a := .int .i64 (hullLo (fnd t x0 x1 y0 y1 h))) (b := .int .i64 (hullHi (fnd t x0 x1 y0 y1 h))) (wj := wj) (s := w.heap.size + 1 + 1 + 1) (D := D) DJ z0 z1
      generalize ((wj.setCell ⟨w.heap.size + 1 + 1 + 1, 0, none⟩ (.int .i64 (hullLo (fnd t x0 x1 y0 y1 h)))).setCell ⟨w.heap.size + 1 + 1 + 1, 1, none⟩ (.int .i64 (hullHi (fnd t x0 x1 y0 y1 h)))) = wz at *
      obtain ⟨l0, l1, l2, l3⟩ := LF
      go_wp2_with fail
      refine ⟨by simp, .inl ⟨_, _, rfl, run_takeDeferred l2, ?_⟩⟩
      refine ⟨encl (hullLo (fnd t x0 x1 y0 y1 h)) (hullHi (fnd t x0 x1 y0 y1 h)), ?_, rfl, ?_⟩
      · generalize wz.putObj D (.deferred none) = we at *
        simp [results, Try.f51, go_sem, l0, l1]
      · exact (bw0.trans (F.out.2.2.2.2.2.2.2.trans (bF.drew.trans ((oj.below.mono (Nat.le_trans sB bF.size)).trans (l3 _ (by omega) (by omega))))))
      
    have bl : Below W.heap.size W wb := oab
    have hvl : Boxed wb (w.heap.size + 1 + 1 + 1 + 1 + 1 + 1) 116 v := (bl.block _ sfb).trans F.out.2.2.2.2.1
    have hrl : wb.ownsRow wx.heap.size 35 2 v xs.length (itVals t h (xs.map (·.1))) := ownsRow_below F.out.2.2.2.2.2.1 bl
    have hDl : wb.heap[D]? = some (.deferred (some [])) := (bl.block D (Array.getElem?_eq_some_iff.1 F.out.2.2.2.2.2.2.1).1).trans F.out.2.2.2.2.2.2.1
    have hf : fnd t x0 x1 y0 y1 h = (xs.map (·.1)).map (fun p => (itLo2 t h p, itHi2 t h p)) := by unfold fnd; rw [hS, hiu, hiv]; simp
    have lxs2 : xs.length ≤ 196 ∧ 0 < xs.length := by
      have lxs : xs.length = (prs (stopsL t.us.xs (1000 * x0) (1000 * x1) h) (stopsL t.vs.xs (1000 * y0) (1000 * y1) h)).length := by rw [← hS, List.length_map]
      rw [lxs, prs_length]; exact ⟨Nat.mul_le_mul lu lv, Nat.mul_pos (stops_ne hiu (by omega)) (stops_ne hiv (by omega))⟩
    go_wp2_with fail
    have hvF := hvl
    have rowF := hrl
    have DF := hDl
    have kF : ∀ k, k < w.heap.size + 1 + 1 + 1 + 1 + 1 + 1 → wb.heap[k]? = W.heap[k]? := fun k hk => bl.block k (by omega)
    have bF := bl.mono sB
    have hlen : (fnd t x0 x1 y0 y1 h).length = xs.length := by rw [hf]; simp
    have hrowF : itVals t h (xs.map (·.1)) = flatV (fnd t x0 x1 y0 y1 h) := by rw [hf, flatV_it]
    rw [hrowF] at rowF
    have hNN : xs.length ≤ 1000000 := by omega
    have hN1 : 1 ≤ xs.length := lxs2.2
    clear hrl hvl hDl hrowF lxs2 hf
    generalize xs.length = N at *
    generalize v = vf at *
    obtain ⟨g, cap, rfl, hc0, hc1, hg1, hg2, hcell⟩ := row_cells rowF hlen hN1
    unfold maxLen at hc1
    have n1 : (1 : Int) ≤ (N : Int) := by omega
    have n2 : (N : Int) ≤ (cap : Int) := by omega
    have n3 : (0 : Int) < (N : Int) := by omega
    have n4 : 0 < N := by omega
    have n5 : N ≤ cap := hc0
    have k0 : wb.cell? ⟨g, 0, none⟩ = some (.int .i64 (pLo (fnd t x0 x1 y0 y1 h) 0)) := by simpa using (hcell 0 (by omega)).1
    have k1 : wb.cell? ⟨g, 1, none⟩ = some (.int .i64 (pHi (fnd t x0 x1 y0 y1 h) 0)) := by simpa using (hcell 0 (by omega)).2
    have KF := Lib.hid (fun (Wz : World) (hk : ∀ k, k < wb.heap.size → k ≠ w.heap.size + 1 + 1 + 1 → Wz.heap[k]? = wb.heap[k]?) => And.intro ((World.cell?_of_block (a := ⟨w.heap.size + 1 + 1 + 1 + 1 + 1 + 1, 0, none⟩) (hk _ hvF.lt (by show w.heap.size + 1 + 1 + 1 + 1 + 1 + 1 ≠ _; omega))).trans hvF.cell) (And.intro ((World.cell?_of_block (a := ⟨g, 0, none⟩) (hk _ hg1 (by show g ≠ _; omega))).trans k0) ((World.cell?_of_block (a := ⟨g, 1, none⟩) (hk _ hg1 (by show g ≠ _; omega))).trans k1)))
    have JO : Calls Try.prog 87 #[.agg #[.int .i64 (pLo (fnd t x0 x1 y0 y1 h) 0), .int .i64 (pHi (fnd t x0 x1 y0 y1 h) 0)], .slice (if cap = 1 then some ⟨g, 0, none⟩ else some ⟨g, 2, none⟩) (N - 1) (cap - 1)] wb.drew fun e w' => e = .returned (encl (hullLo (fnd t x0 x1 y0 y1 h)) (hullHi (fnd t x0 x1 y0 y1 h))) ∧ Own wb.drew.heap.size wb.drew w' := by
      unfold hullLo hullHi
      rw [hlen]
      split
      · exact join_off (pLo (fnd t x0 x1 y0 y1 h) 0) (pHi (fnd t x0 x1 y0 y1 h) 0) (N - 1) (cap - 1) g 0 (fun j => pLo (fnd t x0 x1 y0 y1 h) (j + 1)) (fun j => pHi (fnd t x0 x1 y0 y1 h) (j + 1)) wb.drew (by omega) hg1 (fun j hj => by omega) (fun j hj => by omega)
      · exact join_off (pLo (fnd t x0 x1 y0 y1 h) 0) (pHi (fnd t x0 x1 y0 y1 h) 0) (N - 1) (cap - 1) g 2 (fun j => pLo (fnd t x0 x1 y0 y1 h) (j + 1)) (fun j => pHi (fnd t x0 x1 y0 y1 h) (j + 1)) wb.drew (by omega) hg1 (fun j hj => by have := (hcell (j + 1) (by omega)).1; rw [show (j + 1) * 2 = 2 + j * 2 by omega] at this; exact this) (fun j hj => by have := (hcell (j + 1) (by omega)).2; rw [show (j + 1) * 2 = 2 + j * 2 by omega] at this; exact this)
    have JO := Lib.hid JO
    have sF : w.heap.size + 1 + 1 + 1 < wb.heap.size := by have := bF.size; omega
    have Z := Lib.hid (fun (Wz : World) (hk : Wz.heap[w.heap.size + 1 + 1 + 1]? = wb.heap[w.heap.size + 1 + 1 + 1]?) => And.intro ((World.cell?_of_block (a := ⟨w.heap.size + 1 + 1 + 1, 0, none⟩) (hk.trans (kF _ (by omega)))).trans F.out.1) (And.intro ((World.cell?_of_block (a := ⟨w.heap.size + 1 + 1 + 1, 1, none⟩) (hk.trans (kF _ (by omega)))).trans F.out.2.1) (And.intro ((World.frozen?_of_block (a := ⟨w.heap.size + 1 + 1 + 1, 0, none⟩) (hk.trans (kF _ (by omega)))).trans F.out.2.2.1) ((World.frozen?_of_block (a := ⟨w.heap.size + 1 + 1 + 1, 1, none⟩) (hk.trans (kF _ (by omega)))).trans F.out.2.2.2.1))))
    clear hcell k0 k1
    go_region_held3 (fun w' => w'.cell? ⟨w.heap.size + 1 + 1 + 1 + 1 + 1 + 1, 0, none⟩ = some (.slice (some ⟨g, 0, none⟩) N cap) ∧ w'.cell? ⟨g, 0, none⟩ = some (.int .i64 (pLo (fnd t x0 x1 y0 y1 h) 0)) ∧ w'.cell? ⟨g, 1, none⟩ = some (.int .i64 (pHi (fnd t x0 x1 y0 y1 h) 0))) (first | exact KF.out _ (fun _ _ _ => rfl) | exact KF.out _ (fun k hk _ => oj.below.block k hk) | exact KF.out _ (fun k hk hne => (Below.heap_setCell _ _ _ k hne).trans ((Below.heap_setCell _ _ _ k hne).trans (oj.below.block k hk))))
      (first | (go_at_call 87; (with_reducible refine JO.out.mono ?_); rintro e wj ⟨rfl, oj⟩; obtain ⟨z0, z1, z2, z3⟩ := Z.out wj (oj.below.block _ sF); dsimp only))
    have DJ : wj.heap[D]? = some (.deferred (some [])) := (oj.below.block D (Array.getElem?_eq_some_iff.1 DF).1).trans DF
    have sJ : w.heap.size + 1 + 1 + 1 < wj.heap.size := by have := oj.below.size; have e : wb.drew.heap.size = wb.heap.size := rfl; omega
    generalize (if cap = 1 then some (⟨g, 0, none⟩ : Addr) else some ⟨g, 2, none⟩) = ad at *
    have LF := leave_set (a := .int .i64 (hullLo (fnd t x0 x1 y0 y1 h))) (b := .int .i64 (hullHi (fnd t x0 x1 y0 y1 h))) (wj := wj) (s := w.heap.size + 1 + 1 + 1) (D := D) DJ z0 z1
    generalize ((wj.setCell ⟨w.heap.size + 1 + 1 + 1, 0, none⟩ (.int .i64 (hullLo (fnd t x0 x1 y0 y1 h)))).setCell ⟨w.heap.size + 1 + 1 + 1, 1, none⟩ (.int .i64 (hullHi (fnd t x0 x1 y0 y1 h)))) = wz at *
    obtain ⟨l0, l1, l2, l3⟩ := LF
    go_wp2_with fail
    refine ⟨by simp, .inl ⟨_, _, rfl, run_takeDeferred l2, ?_⟩⟩
    refine ⟨encl (hullLo (fnd t x0 x1 y0 y1 h)) (hullHi (fnd t x0 x1 y0 y1 h)), ?_, rfl, ?_⟩
    · generalize wz.putObj D (.deferred none) = we at *
      simp [results, Try.f51, go_sem, l0, l1]
    · exact (bw0.trans (F.out.2.2.2.2.2.2.2.trans (bF.drew.trans ((oj.below.mono (Nat.le_trans sB bF.size)).trans (l3 _ (by omega) (by omega))))))
    
end Go.Proofs.Ytgmpipciinphiaa
