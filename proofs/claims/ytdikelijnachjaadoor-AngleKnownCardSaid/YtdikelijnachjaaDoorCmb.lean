/- Ends that are combined: Plus, Minus, Times, Over of the code. -/
import Derived.Test.YtdikelijnachjaaDoorCol
import Derived.Test.YtdikelijnachjaaDoorBox
import Derived.Test.YtdikelijnachjaaDoorWawk
namespace Go.Proofs.YtdikelijnachjaaDoor
set_option linter.unusedSimpArgs false
set_option linter.unusedVariables false
open Go.RowKit SineNear

set_option maxHeartbeats 1000000 in
theorem join_off (l h : Int) (n c b d : Nat) (f g : Nat → Int) (w : World) (hn : n ≤ 10) (hb : b < w.heap.size)
    (hf : ∀ j, j < n → w.cell? ⟨b, d + j*2, none⟩ = some (.int .i64 (f j))) (hg : ∀ j, j < n → w.cell? ⟨b, d + j*2+1, none⟩ = some (.int .i64 (g j))) :
    Calls Tryd.prog 55 #[encl l h, .slice (some ⟨b, d, none⟩) n c] w fun e w' => e = .returned (encl (jLo l f n) (jHi h g n)) ∧ Own w.heap.size w w' := by
  go_enter Tryd.func55, Tryd.ntmps55
  go_wp2_with fail
  go_loopw [9] (fun i wr => ∃ k : Nat, k ≤ n ∧ i = .int .i64 k ∧ Own w.heap.size w wr ∧ w.heap.size + 1 < wr.heap.size ∧
      wr.cell? ⟨w.heap.size, 0, none⟩ = some (.int .i64 (jLo l f k)) ∧ wr.cell? ⟨w.heap.size, 1, none⟩ = some (.int .i64 (jHi h g k)) ∧
      wr.frozen? ⟨w.heap.size, 0, none⟩ = false ∧ wr.frozen? ⟨w.heap.size, 1, none⟩ = false ∧
      wr.cell? ⟨w.heap.size+1, 0, none⟩ = some (.int .i64 0) ∧ wr.cell? ⟨w.heap.size+1, 1, none⟩ = some (.int .i64 0) ∧
      wr.frozen? ⟨w.heap.size+1, 0, none⟩ = false ∧ wr.frozen? ⟨w.heap.size+1, 1, none⟩ = false) (fun i _ => n - (intOf i).toNat)
  case atStart =>
    refine ⟨0, by omega, rfl, ?_, ?_, ?_⟩
    · exact ((Own.refl _ _).alloc (Nat.le_refl _) _).alloc (by simp) _
    · simp
    · simp [jLo, jHi, go_sem]
  case round =>
    obtain ⟨k, hk, rfl, hbw, hsz, c0, c1, z0, z1, d0, d1, y0, y1⟩ := hrel
    have hz : w.heap.size < wr.heap.size := by omega
    have hz1 : w.heap.size + 1 < wr.heap.size := by omega
    by_cases hlt : k < n
    · have e1 : wr.cell? ⟨b, d + k*2, none⟩ = some (.int .i64 (f k)) := by rw [hbw.cell (p := ⟨b, d + k*2, none⟩) hb]; exact hf k hlt
      have e2 : wr.cell? ⟨b, d + k*2+1, none⟩ = some (.int .i64 (g k)) := by rw [hbw.cell (p := ⟨b, d + k*2+1, none⟩) hb]; exact hg k hlt
      have hb2 : b < wr.heap.size := by omega
      clear hf hg
      go_wp2
      go_roundw
      case rel =>
        refine ⟨k + 1, by omega, by go_num, ?_, ?_, ?_⟩
        · refine Own.alloc (Own.setCell (Own.setCell hbw ?_ _) ?_ _) ?_ _ <;> first | exact Nat.le_refl _ | (simp; omega)
        · simp; omega
        · simp [jLo, jHi, go_sem, c0, c1, z0, z1, d0, d1, y0, y1, hz, hz1]
          try (refine ⟨?_, ?_⟩ <;> (split <;> omega))
      case measure => simp [intOf]; omega
    · obtain rfl : k = n := by omega
      go_wp2
      refine bodyPost_ret (v := encl _ _) (by simp [results, Tryd.results55, go_sem, d0, d1]) rfl ⟨rfl, ?_⟩
      refine Own.setCell (Own.setCell hbw ?_ _) ?_ _ <;> simp

set_option maxHeartbeats 1000000 in
theorem combine_no (x0 x1 y0 y1 : Int) (op : FuncId) (w : World) (h : valB x0 x1 = false ∨ valB y0 y1 = false) :
    Calls Tryd.prog 60 #[encl x0 x1, encl y0 y1, .func (.func op) #[] #[]] w fun e w' => e = .returned (enclE 0 0 7) ∧ Own w.heap.size w w' := by
  cases hx : valB x0 x1
  · clear h
    go_enter Tryd.func60, Tryd.ntmps60
    go_wp2_with fail
    refine (isValues_any x0 x1 _).mono ?_
    rintro e w1 ⟨rfl, hb1⟩
    obtain ⟨hc, hf⟩ := bcell hb1
    have hz1 : w.heap.size + 3 < w1.heap.size := by have := hb1.size; simp at this; omega
    have hbw : Own w.heap.size w w1 := (((((Own.refl _ _).alloc (Nat.le_refl _) _).alloc (by simp) _).alloc (by simp; omega) _).alloc (by simp; omega) _).trans (hb1.mono (by simp; omega))
    rw [hx]
    go_wp2_with fail
    refine bodyPost_ret (v := enclE 0 0 7) (by simp [results, Tryd.results60, go_sem, hc]) rfl ⟨rfl, ?_⟩
    repeat' (first | exact hbw | exact Nat.le_refl _ | refine Own.setCell ?_ ?_ _ | refine Own.alloc ?_ ?_ _)
    all_goals (first | (simp; done) | (simp; omega))
  · have hy : valB y0 y1 = false := by rcases h with h | h; rw [hx] at h; cases h; exact h
    clear h
    go_enter Tryd.func60, Tryd.ntmps60
    go_wp2_with fail
    refine (isValues_any x0 x1 _).mono ?_
    rintro e w1 ⟨rfl, hb1⟩
    obtain ⟨hc, hf⟩ := bcell hb1
    have hz1 : w.heap.size + 3 < w1.heap.size := by have := hb1.size; simp at this; omega
    have hbw : Own w.heap.size w w1 := (((((Own.refl _ _).alloc (Nat.le_refl _) _).alloc (by simp) _).alloc (by simp; omega) _).alloc (by simp; omega) _).trans (hb1.mono (by simp; omega))
    rw [hx]
    go_wp2_with fail
    refine (isValues_any y0 y1 _).mono ?_
    rintro e w2 ⟨rfl, hb2⟩
    obtain ⟨hc2, hf2⟩ := bcell hb2
    have hz2 : w.heap.size + 3 < w2.heap.size := by have := hb2.size; omega
    have q3 : w.heap.size + 1 + 1 + 1 < w1.heap.size := by omega
    have hbw2 : Own w.heap.size w w2 := hbw.trans (hb2.mono (by omega))
    rw [hy]
    go_wp2_with fail
    refine bodyPost_ret (v := enclE 0 0 7) (by simp [results, Tryd.results60, go_sem, hc, hc2, q3]) rfl ⟨rfl, ?_⟩
    repeat' (first | exact hbw2 | exact Nat.le_refl _ | refine Own.setCell ?_ ?_ _ | refine Own.alloc ?_ ?_ _)
    all_goals (first | (simp; done) | (simp; omega))

/-- the arguments in their boxes, and the box of the result -/
def KqF (s : Nat) (x0 x1 y0 y1 : Int) (o : Value) (w : World) : Prop :=
  w.cell? ⟨s, 0, none⟩ = some (.int .i64 x0) ∧ w.cell? ⟨s, 1, none⟩ = some (.int .i64 x1) ∧ w.cell? ⟨s + 1, 0, none⟩ = some (.int .i64 y0) ∧ w.cell? ⟨s + 1, 1, none⟩ = some (.int .i64 y1) ∧
  w.cell? ⟨s + 1 + 1, 0, none⟩ = some o ∧ w.cell? ⟨s + 1 + 1 + 1, 0, none⟩ = some (.int .i64 0) ∧ w.cell? ⟨s + 1 + 1 + 1, 1, none⟩ = some (.int .i64 0) ∧ w.frozen? ⟨s + 1 + 1 + 1, 0, none⟩ = false ∧ w.frozen? ⟨s + 1 + 1 + 1, 1, none⟩ = false ∧ s + 1 + 1 + 1 < w.heap.size
theorem KqF.below {s b : Nat} {x0 x1 y0 y1 : Int} {o : Value} {w w1 : World} (k : KqF s x0 x1 y0 y1 o w) (hs : s + 1 + 1 + 1 < b) (hb : Below b w w1) : KqF s x0 x1 y0 y1 o w1 := by
  obtain ⟨k0, k1, k2, k3, k4, k5, k6, k7, k8, k9⟩ := k
  have hz := hb.size
  refine ⟨?_, ?_, ?_, ?_, ?_, ?_, ?_, ?_, ?_, by omega⟩
  · rw [hb.cell (p := ⟨s, 0, none⟩) (by show s < b; omega)]; exact k0
  · rw [hb.cell (p := ⟨s, 1, none⟩) (by show s < b; omega)]; exact k1
  · rw [hb.cell (p := ⟨s + 1, 0, none⟩) (by show s + 1 < b; omega)]; exact k2
  · rw [hb.cell (p := ⟨s + 1, 1, none⟩) (by show s + 1 < b; omega)]; exact k3
  · rw [hb.cell (p := ⟨s + 1 + 1, 0, none⟩) (by show s + 1 + 1 < b; omega)]; exact k4
  · rw [hb.cell (p := ⟨s + 1 + 1 + 1, 0, none⟩) hs]; exact k5
  · rw [hb.cell (p := ⟨s + 1 + 1 + 1, 1, none⟩) hs]; exact k6
  · rw [hb.frozen (p := ⟨s + 1 + 1 + 1, 0, none⟩) hs]; exact k7
  · rw [hb.frozen (p := ⟨s + 1 + 1 + 1, 1, none⟩) hs]; exact k8

theorem ends_new (w : World) : Ends w.heap.size 0 [] (w.alloc (.cells #[.slice none 0 0] 75)) :=
  ⟨by simp, .slice none 0 0, by simp [go_sem], by simp [go_sem], World.ownsRow_nil _ _ _ _⟩

/-- what the region reads, and leaves -/
def KqG (W : World) (bE g : Nat) (v : Value) (l h : Int) (w : World) : Prop :=
  w.cell? ⟨bE, 0, none⟩ = some v ∧ w.cell? ⟨g, 0, none⟩ = some (.int .i64 l) ∧ w.cell? ⟨g, 1, none⟩ = some (.int .i64 h) ∧ (bE < W.heap.size ∧ g < W.heap.size) ∧ Below W.heap.size W w
theorem KqG.call {W w w1 : World} {bE g : Nat} {v : Value} {l h : Int} (k : KqG W bE g v l h w) (hb : Below w.heap.size w w1) : KqG W bE g v l h w1 := by
  obtain ⟨k0, k1, k2, ⟨k3, k4⟩, k5⟩ := k
  have hz := k5.size
  refine ⟨?_, ?_, ?_, ⟨k3, k4⟩, k5.trans (hb.mono hz)⟩
  · rw [hb.cell (p := ⟨bE, 0, none⟩) (by show bE < _; omega)]; exact k0
  · rw [hb.cell (p := ⟨g, 0, none⟩) (by show g < _; omega)]; exact k1
  · rw [hb.cell (p := ⟨g, 1, none⟩) (by show g < _; omega)]; exact k2
theorem KqG.set {W w : World} {bE g b : Nat} {v : Value} {l h : Int} (k : KqG W bE g v l h w) (hb : W.heap.size ≤ b) (x y : Value) : KqG W bE g v l h ((w.setCell ⟨b, 0, none⟩ x).setCell ⟨b, 1, none⟩ y) := by
  obtain ⟨k0, k1, k2, ⟨k3, k4⟩, k5⟩ := k
  have n1 : bE ≠ b := by omega
  have n2 : g ≠ b := by omega
  refine ⟨?_, ?_, ?_, ⟨k3, k4⟩, (k5.setCell hb _).setCell hb _⟩
  · simp [go_sem, k0, n1, Ne.symm n1]
  · simp [go_sem, k1, n2, Ne.symm n2]
  · simp [go_sem, k2, n2, Ne.symm n2]
attribute [local go_sem ↓] Go.wp_at_zero Go.wp_at_succ

theorem row_f {w w' : World} {base g cap : Nat} {l1 h1 l2 h2 l3 h3 l4 h4 : Int} {e : TypeId} (h : w.ownsRow base e 2 (.slice (some ⟨g, 0, none⟩) 4 cap) 4 [.int .i64 l1, .int .i64 h1, .int .i64 l2, .int .i64 h2, .int .i64 l3, .int .i64 h3, .int .i64 l4, .int .i64 h4]) (hg : g < w.heap.size) (hb : Below w.heap.size w w') :
    (∀ j, j < 3 → w'.cell? ⟨g, 2 + j*2, none⟩ = some (.int .i64 (match j with | 0 => l2 | 1 => l3 | _ => l4))) ∧ (∀ j, j < 3 → w'.cell? ⟨g, 2 + j*2+1, none⟩ = some (.int .i64 (match j with | 0 => h2 | 1 => h3 | _ => h4))) := by
  have c := h.cellAt
  refine ⟨fun j hj => ?_, fun j hj => ?_⟩
  · rw [hb.cell (p := ⟨g, 2 + j*2, none⟩) hg, c _ (by omega)]
    have : j = 0 ∨ j = 1 ∨ j = 2 := by omega
    rcases this with rfl | rfl | rfl <;> rfl
  · rw [hb.cell (p := ⟨g, 2 + j*2+1, none⟩) hg, c _ (by omega)]
    have : j = 0 ∨ j = 1 ∨ j = 2 := by omega
    rcases this with rfl | rfl | rfl <;> rfl

/-- the least of four, and the greatest -/
def lo4 (a b c d : Int) : Int := min (min (min a b) c) d
def hi4 (a b c d : Int) : Int := max (max (max a b) c) d
theorem jLo3 (a b c d : Int) : jLo a (fun j => match j with | 0 => b | 1 => c | _ => d) 3 = lo4 a b c d := by
  simp only [jLo, lo4]; repeat' split <;> omega
theorem jHi3 (a b c d : Int) : jHi a (fun j => match j with | 0 => b | 1 => c | _ => d) 3 = hi4 a b c d := by
  simp only [jHi, hi4]; repeat' split <;> omega

theorem join_row {w w' : World} {base g cap c : Nat} {l1 h1 l2 h2 l3 h3 l4 h4 : Int} {e : TypeId} (h : w.ownsRow base e 2 (.slice (some ⟨g, 0, none⟩) 4 cap) 4 [.int .i64 l1, .int .i64 h1, .int .i64 l2, .int .i64 h2, .int .i64 l3, .int .i64 h3, .int .i64 l4, .int .i64 h4]) (hg : g < w.heap.size) (hb : Below w.heap.size w w') :
    Calls Tryd.prog 55 #[encl l1 h1, .slice (some ⟨g, 2, none⟩) 3 c] w' fun e w1 => e = .returned (encl (lo4 l1 l2 l3 l4) (hi4 h1 h2 h3 h4)) ∧ Own w'.heap.size w' w1 := by
  obtain ⟨f1, f2⟩ := row_f h hg hb
  rw [← jLo3, ← jHi3]
  exact join_off l1 h1 3 c g 2 _ _ w' (by omega) (by have := hb.size; omega) f1 f2

/-- an enclosure, or an error -/
def vLo (l h : Int) : Int := if valB l h then l else 0
def vHi (l h : Int) : Int := if valB l h then h else 0
def vE (l h : Int) : Int := if valB l h then 0 else 7
abbrev resE (l h : Int) : Value := enclE (vLo l h) (vHi l h) (vE l h)

set_option maxRecDepth 100000 in
set_option maxHeartbeats 4000000 in
theorem combine_yes (x0 x1 y0 y1 l1 h1 l2 h2 l3 h3 l4 h4 : Int) (op : FuncId) (w : World) (hx : valB x0 x1 = true) (hy : valB y0 y1 = true)
    (eg : ∀ args w, (callFunc op args).run Tryd.prog w = .ok (.enter op args) w) (C1 : Ret1 op #[.int .i64 x0, .int .i64 y0] (encl l1 h1)) (C2 : Ret1 op #[.int .i64 x0, .int .i64 y1] (encl l2 h2)) (C3 : Ret1 op #[.int .i64 x1, .int .i64 y0] (encl l3 h3)) (C4 : Ret1 op #[.int .i64 x1, .int .i64 y1] (encl l4 h4)) :
    Calls Tryd.prog 60 #[encl x0 x1, encl y0 y1, .func (.func op) #[] #[]] w fun e w' => e = .returned (resE (lo4 l1 l2 l3 l4) (hi4 h1 h2 h3 h4)) ∧ Below w.heap.size w w' := by
  have HX := Lib.hid hx
  have HY := Lib.hid hy
  have EG := Lib.hid eg
  clear hx hy eg
  go_enter Tryd.func60, Tryd.ntmps60
  go_wp2_with fail
  have k0 : KqF w.heap.size x0 x1 y0 y1 (.func (.func op) #[] #[]) ((((w.alloc (.cells #[.int .i64 x0, .int .i64 x1] 23)).alloc (.cells #[.int .i64 y0, .int .i64 y1] 23)).alloc (.cells #[.func (.func op) #[] #[]] 44)).alloc (.cells #[.int .i64 0, .int .i64 0] 23)) := by
    refine ⟨?_, ?_, ?_, ?_, ?_, ?_, ?_, ?_, ?_, ?_⟩ <;> simp [go_sem]
  have o0 : Below w.heap.size w ((((w.alloc (.cells #[.int .i64 x0, .int .i64 x1] 23)).alloc (.cells #[.int .i64 y0, .int .i64 y1] 23)).alloc (.cells #[.func (.func op) #[] #[]] 44)).alloc (.cells #[.int .i64 0, .int .i64 0] 23)) :=
    ((((Below.refl _ _).alloc (Nat.le_refl _) _).alloc (by simp) _).alloc (by simp; omega) _).alloc (by simp; omega) _
  refine (isValues_any x0 x1 _).mono ?_
  rintro e w1 ⟨rfl, hb1⟩
  have k1 := k0.below k0.2.2.2.2.2.2.2.2.2 hb1.below
  have o1 := o0.trans (hb1.below.mono (by simp; omega))
  clear k0 o0 hb1
  rw [HX.out]
  have K1 := Lib.hid k1
  obtain ⟨a0, a1, a2, a3, a4, a5, a6, a7, a8, a9⟩ := k1
  go_wp2_with fail
  refine (isValues_any y0 y1 _).mono ?_
  rintro e w2 ⟨rfl, hb2⟩
  have k2 := K1.out.below a9 hb2.below
  have o2 := o1.trans (hb2.below.mono (by omega))
  clear K1 a0 a1 a2 a3 a4 a5 a6 a7 a8 a9 o1 hb2
  rw [HY.out]
  have z2 := k2.2.2.2.2.2.2.2.2.2
  have k3 := k2.below z2 ((Below.refl w2.heap.size w2).alloc (Nat.le_refl _) (.cells #[.slice none 0 0] 75))
  have o3 := o2.alloc (by omega) (.cells #[.slice none 0 0] 75)
  have n3 := ends_new w2
  have K3 := Lib.hid k3
  clear k2
  obtain ⟨a0, a1, a2, a3, a4, a5, a6, a7, a8, a9⟩ := k3
  go_wp2_with fail
  refine (collect_any w2.heap.size (w.heap.size + 1 + 1) 0 op x0 y0 l1 h1 [] _ n3 (by omega) a4 (by omega) EG.out C1).mono ?_
  rintro e w4 ⟨rfl, n4, b4⟩
  have k4 := K3.out.below z2 b4
  have o4 := o3.trans (b4.mono (by omega))
  have K4 := Lib.hid k4
  clear K3 a0 a1 a2 a3 a4 a5 a6 a7 a8 a9 o3 n3 b4
  obtain ⟨a0, a1, a2, a3, a4, a5, a6, a7, a8, a9⟩ := k4
  go_wp2_with fail
  refine (collect_any w2.heap.size (w.heap.size + 1 + 1) 1 op x0 y1 l2 h2 [.int .i64 l1, .int .i64 h1] _ n4 (by omega) a4 (by omega) EG.out C2).mono ?_
  rintro e w5 ⟨rfl, n5, b5⟩
  have k5 := K4.out.below z2 b5
  have o5 := o4.trans (b5.mono (by omega))
  have K5 := Lib.hid k5
  clear K4 a0 a1 a2 a3 a4 a5 a6 a7 a8 a9 o4 n4 b5
  obtain ⟨a0, a1, a2, a3, a4, a5, a6, a7, a8, a9⟩ := k5
  go_wp2_with fail
  refine (collect_any w2.heap.size (w.heap.size + 1 + 1) 2 op x1 y0 l3 h3 [.int .i64 l1, .int .i64 h1, .int .i64 l2, .int .i64 h2] _ n5 (by omega) a4 (by omega) EG.out C3).mono ?_
  rintro e w6 ⟨rfl, n6, b6⟩
  have k6 := K5.out.below z2 b6
  have o6 := o5.trans (b6.mono (by omega))
  have K6 := Lib.hid k6
  clear K5 a0 a1 a2 a3 a4 a5 a6 a7 a8 a9 o5 n5 b6
  obtain ⟨a0, a1, a2, a3, a4, a5, a6, a7, a8, a9⟩ := k6
  go_wp2_with fail
  refine (collect_any w2.heap.size (w.heap.size + 1 + 1) 3 op x1 y1 l4 h4 [.int .i64 l1, .int .i64 h1, .int .i64 l2, .int .i64 h2, .int .i64 l3, .int .i64 h3] _ n6 (by omega) a4 (by omega) EG.out C4).mono ?_
  rintro e w7 ⟨rfl, n7, b7⟩
  have k7 := K6.out.below z2 b7
  have o7 := o6.trans (b7.mono (by omega))
  have K7 := Lib.hid k7
  clear K6 a0 a1 a2 a3 a4 a5 a6 a7 a8 a9 o6 n6 b7
  obtain ⟨a0, a1, a2, a3, a4, a5, a6, a7, a8, a9⟩ := k7
  go_wp2_with fail
  obtain ⟨hbE, v, hE, hF, hown⟩ := n7
  obtain ⟨g, cap, rfl, hg, hglt⟩ := hown.form (by omega)
  have e0 := hown.cellAt 0 (by omega)
  have e1 := hown.cellAt 1 (by omega)
  simp only [List.cons_append, List.nil_append] at hown
  have hcap : 4 ≤ cap := by
    rcases hown.2 with ⟨h, _⟩ | ⟨g', cap', cur, hv, _, _, h4, _⟩
    · cases h
    · cases hv; omega
  have hS : KqG w7 w2.heap.size g (.slice (some ⟨g, 0, none⟩) 4 cap) l1 h1 w7 := ⟨hE, e0, e1, ⟨hbE, hglt⟩, Below.refl _ _⟩
  have c1 : (1 : Int) ≤ (cap : Int) := by omega
  have c2 : (4 : Int) ≤ (cap : Int) := by omega
  have c3 : ¬ cap = 1 := by omega
  clear e0 e1 hE hF a0 a1 a2 a3 a4 a5 a6 a7 a8 a9 C1 C2 C3 C4 EG
  go_region_held3 (fun w' => w'.cell? ⟨w2.heap.size, 0, none⟩ = some (.slice (some ⟨g, 0, none⟩) 4 cap) ∧ w'.cell? ⟨g, 0, none⟩ = some (.int .i64 l1) ∧ w'.cell? ⟨g, 1, none⟩ = some (.int .i64 h1) ∧ (w2.heap.size < w7.heap.size ∧ g < w7.heap.size) ∧ Below w7.heap.size w7 w')
    (first | exact KqG.call hS (Below.refl _ _).drew | exact KqG.call hS ((Below.refl _ _).alloc (Nat.le_refl _) _).drew | (refine KqG.call ?_ hbq.below; assumption) | exact (KqG.call (KqG.call hS (Below.refl _ _).drew) hbq.below).call ((Below.refl _ _).alloc (Nat.le_refl _) _) | (refine KqG.call ?_ ((Below.refl _ _).alloc (Nat.le_refl _) _); assumption) | (refine KqG.set ?_ (Nat.le_refl _) _ _; assumption) | (refine KqG.set ?_ (show w7.heap.size ≤ wq.heap.size from hbq.below.size) _ _; assumption))
    (first | ((with_reducible refine (join_row hown hglt ?_).mono ?_); exact (show KqG w7 w2.heap.size g (.slice (some ⟨g, 0, none⟩) 4 cap) l1 h1 _ by assumption).2.2.2.2; rintro e wq ⟨rfl, hbq⟩; have hcq := (bcell hbq).1; have hfq := (bcell hbq).2))
  all_goals go_wp2_with fail
  · have kg : KqG w7 w2.heap.size g (.slice (some ⟨g, 0, none⟩) 4 cap) l1 h1 (wq.alloc (.cells #[.int .i64 (lo4 l1 l2 l3 l4), .int .i64 (hi4 h1 h2 h3 h4)] 23)) := by assumption
    have bx := Box.fresh wq (lo4 l1 l2 l3 l4) (hi4 h1 h2 h3 h4) 23
    have kx := K7.out.below K7.out.2.2.2.2.2.2.2.2.2 kg.2.2.2.2
    have ox := o7.trans (kg.2.2.2.2.mono o7.size)
    have hbq' : w7.heap.size ≤ wq.heap.size := hbq.below.size
    clear kg hcq hfq hbq
    obtain ⟨X, hX⟩ : ∃ X, X = wq.alloc (.cells #[.int .i64 (lo4 l1 l2 l3 l4), .int .i64 (hi4 h1 h2 h3 h4)] 23) := ⟨_, rfl⟩
    rw [← hX] at kx ox bx ⊢
    have hval := isValues_any (lo4 l1 l2 l3 l4) (hi4 h1 h2 h3 h4) X
    cases hv : valB (lo4 l1 l2 l3 l4) (hi4 h1 h2 h3 h4)
    · rw [hv] at hval
      refine hval.mono ?_
      rintro e w9 ⟨rfl, hb9⟩
      have k9 := kx.below (by have := kx.2.2.2.2.2.2.2.2.2; omega) hb9.below
      have o9 := ox.trans (hb9.below.mono ox.size)
      clear kx ox hval hX bx hb9 hown hS
      obtain ⟨a0, a1, a2, a3, a4, a5, a6, a7, a8, a9⟩ := k9
      go_wp2_with fail
      refine bodyPost_ret (v := enclE 0 0 7) (by simp [results, Tryd.results60, go_sem, a5, a6, a7, a8]) rfl ⟨by simp [resE, vLo, vHi, vE, hv], ?_⟩
      exact (o9.setCell (by simp; omega) _).setCell (by simp; omega) _
    · rw [hv] at hval
      refine hval.mono ?_
      rintro e w9 ⟨rfl, hb9⟩
      have k9 := kx.below (by have := kx.2.2.2.2.2.2.2.2.2; omega) hb9.below
      have o9 := ox.trans (hb9.below.mono ox.size)
      have b9 := bx.below hb9.below
      clear kx ox hval hX bx hb9 hown hS
      obtain ⟨a0, a1, a2, a3, a4, a5, a6, a7, a8, a9⟩ := k9
      obtain ⟨g0, g1, g2, g3, g4⟩ := b9
      go_wp2_with fail
      refine bodyPost_ret (v := enclE (lo4 l1 l2 l3 l4) (hi4 h1 h2 h3 h4) 0) (by simp [results, Tryd.results60, go_sem, a5, a6, a7, a8]) rfl ⟨by simp [resE, vLo, vHi, vE, hv], ?_⟩
      exact (o9.setCell (by simp; omega) _).setCell (by simp; omega) _
  · have kg : KqG w7 w2.heap.size g (.slice (some ⟨g, 0, none⟩) 4 cap) l1 h1 ((wq.setCell ⟨w7.heap.size, 0, none⟩ (.int .i64 (lo4 l1 l2 l3 l4))).setCell ⟨w7.heap.size, 1, none⟩ (.int .i64 (hi4 h1 h2 h3 h4))) := by assumption
    have bx := ((Box.fresh w7 0 0 23).drew.below hbq.below).set (lo4 l1 l2 l3 l4) (hi4 h1 h2 h3 h4)
    have kx := K7.out.below K7.out.2.2.2.2.2.2.2.2.2 kg.2.2.2.2
    have ox := o7.trans (kg.2.2.2.2.mono o7.size)
    clear kg hcq hfq hbq
    obtain ⟨X, hX⟩ : ∃ X, X = (wq.setCell ⟨w7.heap.size, 0, none⟩ (.int .i64 (lo4 l1 l2 l3 l4))).setCell ⟨w7.heap.size, 1, none⟩ (.int .i64 (hi4 h1 h2 h3 h4)) := ⟨_, rfl⟩
    rw [← hX] at kx ox bx ⊢
    have hval := isValues_any (lo4 l1 l2 l3 l4) (hi4 h1 h2 h3 h4) X
    cases hv : valB (lo4 l1 l2 l3 l4) (hi4 h1 h2 h3 h4)
    · rw [hv] at hval
      refine hval.mono ?_
      rintro e w9 ⟨rfl, hb9⟩
      have k9 := kx.below (by have := kx.2.2.2.2.2.2.2.2.2; omega) hb9.below
      have o9 := ox.trans (hb9.below.mono ox.size)
      clear kx ox hval hX bx hb9 hown hS
      obtain ⟨a0, a1, a2, a3, a4, a5, a6, a7, a8, a9⟩ := k9
      go_wp2_with fail
      refine bodyPost_ret (v := enclE 0 0 7) (by simp [results, Tryd.results60, go_sem, a5, a6, a7, a8]) rfl ⟨by simp [resE, vLo, vHi, vE, hv], ?_⟩
      exact (o9.setCell (by simp; omega) _).setCell (by simp; omega) _
    · rw [hv] at hval
      refine hval.mono ?_
      rintro e w9 ⟨rfl, hb9⟩
      have k9 := kx.below (by have := kx.2.2.2.2.2.2.2.2.2; omega) hb9.below
      have o9 := ox.trans (hb9.below.mono ox.size)
      have b9 := bx.below hb9.below
      clear kx ox hval hX bx hb9 hown hS
      obtain ⟨a0, a1, a2, a3, a4, a5, a6, a7, a8, a9⟩ := k9
      obtain ⟨g0, g1, g2, g3, g4⟩ := b9
      go_wp2_with fail
      refine bodyPost_ret (v := enclE (lo4 l1 l2 l3 l4) (hi4 h1 h2 h3 h4) 0) (by simp [results, Tryd.results60, go_sem, a5, a6, a7, a8]) rfl ⟨by simp [resE, vLo, vHi, vE, hv], ?_⟩
      exact (o9.setCell (by simp; omega) _).setCell (by simp; omega) _
end Go.Proofs.YtdikelijnachjaaDoor
