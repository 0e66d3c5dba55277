/- Over of the code. -/
import Derived.Test.YtgmpipciinphiaaOvr
import Derived.Test.YtgmpipciinphiaaRec
namespace Go.Proofs.Ytgmpipciinphiaa
set_option linter.unusedSimpArgs false
set_option linter.unusedVariables false
open Go.RowKit Go.Shelf
attribute [local go_sem ↓] Go.wp_at_zero Go.wp_at_succ

/-- what Over answers -/
def ovE (c : Cat) (n x0 x1 y0 y1 h : Int) : Int := if errOf c n c.tabs.length ≠ 0 then errOf c n c.tabs.length else rectE x0 x1 y0 y1 h
def ovLo (c : Cat) (n x0 x1 y0 y1 h : Int) : Int := if ovE c n x0 x1 y0 y1 h ≠ 0 then 0 else hullLo (fnd (tabAt c.tabs n.toNat) x0 x1 y0 y1 h)
def ovHi (c : Cat) (n x0 x1 y0 y1 h : Int) : Int := if ovE c n x0 x1 y0 y1 h ≠ 0 then 0 else hullHi (fnd (tabAt c.tabs n.toNat) x0 x1 y0 y1 h)

theorem tabAt_cells {B : Nat} {c : Cat} {w : World} (h : CatIn B c w) {n : Nat} (hn : n < c.tabs.length) : ∃ b o, c.ta = some ⟨b, o, none⟩ ∧ b < B ∧ TabIn B b (o + n * 6) (tabAt c.tabs n) w := by
  obtain ⟨b, o, ha, hb, hc⟩ := h.tabs.2 (by omega)
  exact ⟨b, o, ha, hb, hc n hn⟩

set_option maxRecDepth 100000 in
set_option maxHeartbeats 2000000 in
theorem Over_any (c : Cat) (n x0 x1 y0 y1 h : Int) (w : World) (hc : CatIn w.heap.size c w) :
    Calls Try.prog 23 #[.agg #[c.tv, c.lv], .int .i64 n, .agg #[.int .i64 x0, .int .i64 x1, .int .i64 y0, .int .i64 y1], .int .i64 h] w fun e w' => e = .returned (enclE (ovLo c n x0 x1 y0 y1 h) (ovHi c n x0 x1 y0 y1 h) (ovE c n x0 x1 y0 y1 h)) ∧ Below w.heap.size w w' := by
  have bw0 : Below w.heap.size w (((w.alloc (.cells #[c.tv, c.lv] 25)).alloc (.cells #[.int .i64 x0, .int .i64 x1, .int .i64 y0, .int .i64 y1] 40)).alloc (.cells #[.int .i64 0, .int .i64 0] 35)) := (((Below.refl _ _).alloc (Nat.le_refl _) _).alloc (by simp) _).alloc (by simp; omega) _
  have sz0 : (((w.alloc (.cells #[c.tv, c.lv] 25)).alloc (.cells #[.int .i64 x0, .int .i64 x1, .int .i64 y0, .int .i64 y1] 40)).alloc (.cells #[.int .i64 0, .int .i64 0] 35)).heap.size = w.heap.size + 1 + 1 + 1 := by simp
  have hml := hc.tabs.1
  have HC := Lib.hid ((hc.keep bw0 (Nat.le_refl _)))
  clear hc
  unfold Cat.tv Cat.lv at *
  have t0 : (((w.alloc (.cells #[.slice c.ta c.tabs.length c.tc, .slice c.la c.lamps.length c.lc] 25)).alloc (.cells #[.int .i64 x0, .int .i64 x1, .int .i64 y0, .int .i64 y1] 40)).alloc (.cells #[.int .i64 0, .int .i64 0] 35)).cell? ⟨w.heap.size, 0, none⟩ = some (.slice c.ta c.tabs.length c.tc) := by simp [go_sem]
  have t1 : (((w.alloc (.cells #[.slice c.ta c.tabs.length c.tc, .slice c.la c.lamps.length c.lc] 25)).alloc (.cells #[.int .i64 x0, .int .i64 x1, .int .i64 y0, .int .i64 y1] 40)).alloc (.cells #[.int .i64 0, .int .i64 0] 35)).cell? ⟨w.heap.size, 1, none⟩ = some (.slice c.la c.lamps.length c.lc) := by simp [go_sem]
  have p0 : (((w.alloc (.cells #[.slice c.ta c.tabs.length c.tc, .slice c.la c.lamps.length c.lc] 25)).alloc (.cells #[.int .i64 x0, .int .i64 x1, .int .i64 y0, .int .i64 y1] 40)).alloc (.cells #[.int .i64 0, .int .i64 0] 35)).cell? ⟨w.heap.size + 1, 0, none⟩ = some (.int .i64 x0) := by simp [go_sem]
  have p1 : (((w.alloc (.cells #[.slice c.ta c.tabs.length c.tc, .slice c.la c.lamps.length c.lc] 25)).alloc (.cells #[.int .i64 x0, .int .i64 x1, .int .i64 y0, .int .i64 y1] 40)).alloc (.cells #[.int .i64 0, .int .i64 0] 35)).cell? ⟨w.heap.size + 1, 1, none⟩ = some (.int .i64 x1) := by simp [go_sem]
  have p2 : (((w.alloc (.cells #[.slice c.ta c.tabs.length c.tc, .slice c.la c.lamps.length c.lc] 25)).alloc (.cells #[.int .i64 x0, .int .i64 x1, .int .i64 y0, .int .i64 y1] 40)).alloc (.cells #[.int .i64 0, .int .i64 0] 35)).cell? ⟨w.heap.size + 1, 2, none⟩ = some (.int .i64 y0) := by simp [go_sem]
  have p3 : (((w.alloc (.cells #[.slice c.ta c.tabs.length c.tc, .slice c.la c.lamps.length c.lc] 25)).alloc (.cells #[.int .i64 x0, .int .i64 x1, .int .i64 y0, .int .i64 y1] 40)).alloc (.cells #[.int .i64 0, .int .i64 0] 35)).cell? ⟨w.heap.size + 1, 3, none⟩ = some (.int .i64 y1) := by simp [go_sem]
  have z0 : (((w.alloc (.cells #[.slice c.ta c.tabs.length c.tc, .slice c.la c.lamps.length c.lc] 25)).alloc (.cells #[.int .i64 x0, .int .i64 x1, .int .i64 y0, .int .i64 y1] 40)).alloc (.cells #[.int .i64 0, .int .i64 0] 35)).cell? ⟨w.heap.size + 1 + 1, 0, none⟩ = some (.int .i64 0) := by simp [go_sem]
  have z1 : (((w.alloc (.cells #[.slice c.ta c.tabs.length c.tc, .slice c.la c.lamps.length c.lc] 25)).alloc (.cells #[.int .i64 x0, .int .i64 x1, .int .i64 y0, .int .i64 y1] 40)).alloc (.cells #[.int .i64 0, .int .i64 0] 35)).cell? ⟨w.heap.size + 1 + 1, 1, none⟩ = some (.int .i64 0) := by simp [go_sem]
  have z2 : (((w.alloc (.cells #[.slice c.ta c.tabs.length c.tc, .slice c.la c.lamps.length c.lc] 25)).alloc (.cells #[.int .i64 x0, .int .i64 x1, .int .i64 y0, .int .i64 y1] 40)).alloc (.cells #[.int .i64 0, .int .i64 0] 35)).frozen? ⟨w.heap.size + 1 + 1, 0, none⟩ = false := by simp [go_sem]
  have z3 : (((w.alloc (.cells #[.slice c.ta c.tabs.length c.tc, .slice c.la c.lamps.length c.lc] 25)).alloc (.cells #[.int .i64 x0, .int .i64 x1, .int .i64 y0, .int .i64 y1] 40)).alloc (.cells #[.int .i64 0, .int .i64 0] 35)).frozen? ⟨w.heap.size + 1 + 1, 1, none⟩ = false := by simp [go_sem]
  generalize hW0 : (((w.alloc (.cells #[.slice c.ta c.tabs.length c.tc, .slice c.la c.lamps.length c.lc] 25)).alloc (.cells #[.int .i64 x0, .int .i64 x1, .int .i64 y0, .int .i64 y1] 40)).alloc (.cells #[.int .i64 0, .int .i64 0] 35)) = W0 at *
  have CB := Lib.hid (show ∀ Wz : World, (∀ k, k < w.heap.size + 1 + 1 → Wz.heap[k]? = W0.heap[k]?) → (Wz.cell? ⟨w.heap.size, 0, none⟩ = some (.slice c.ta c.tabs.length c.tc) ∧ Wz.cell? ⟨w.heap.size, 1, none⟩ = some (.slice c.la c.lamps.length c.lc) ∧ Wz.cell? ⟨w.heap.size + 1, 0, none⟩ = some (.int .i64 x0) ∧ Wz.cell? ⟨w.heap.size + 1, 1, none⟩ = some (.int .i64 x1) ∧ Wz.cell? ⟨w.heap.size + 1, 2, none⟩ = some (.int .i64 y0) ∧ Wz.cell? ⟨w.heap.size + 1, 3, none⟩ = some (.int .i64 y1)) from fun Wz hk => by
    have e : ∀ p : Addr, p.block < w.heap.size + 1 + 1 → Wz.cell? p = W0.cell? p := fun p hp => World.cell?_of_block (hk _ hp)
    refine ⟨?_, ?_, ?_, ?_, ?_, ?_⟩
    · rw [e _ (by show w.heap.size < _; omega)]; exact t0
    · rw [e _ (by show w.heap.size < _; omega)]; exact t1
    · rw [e _ (by show w.heap.size + 1 < _; omega)]; exact p0
    · rw [e _ (by show w.heap.size + 1 < _; omega)]; exact p1
    · rw [e _ (by show w.heap.size + 1 < _; omega)]; exact p2
    · rw [e _ (by show w.heap.size + 1 < _; omega)]; exact p3)
  have CZ := Lib.hid (show ∀ Wz : World, Wz.heap[w.heap.size + 1 + 1]? = W0.heap[w.heap.size + 1 + 1]? → (Wz.cell? ⟨w.heap.size + 1 + 1, 0, none⟩ = some (.int .i64 0) ∧ Wz.cell? ⟨w.heap.size + 1 + 1, 1, none⟩ = some (.int .i64 0) ∧ Wz.frozen? ⟨w.heap.size + 1 + 1, 0, none⟩ = false ∧ Wz.frozen? ⟨w.heap.size + 1 + 1, 1, none⟩ = false) from fun Wz hk =>
    ⟨(World.cell?_of_block (a := ⟨w.heap.size + 1 + 1, 0, none⟩) hk).trans z0, (World.cell?_of_block (a := ⟨w.heap.size + 1 + 1, 1, none⟩) hk).trans z1, (World.frozen?_of_block (a := ⟨w.heap.size + 1 + 1, 0, none⟩) hk).trans z2, (World.frozen?_of_block (a := ⟨w.heap.size + 1 + 1, 1, none⟩) hk).trans z3⟩)
  have SZ := Lib.hid sz0
  clear t0 t1 p0 p1 p2 p3 z0 z1 z2 z3 sz0
  have K := Lib.hid (errorOf_any c n c.tabs.length W0 (HC.out.more (by rw [SZ.out]; omega)) hml)
  unfold Cat.tv Cat.lv at K
  have HE : Hid (ovE c n x0 x1 y0 y1 h = if errOf c n c.tabs.length ≠ 0 then errOf c n c.tabs.length else rectE x0 x1 y0 y1 h) := rfl
  have HL : Hid (ovLo c n x0 x1 y0 y1 h = if ovE c n x0 x1 y0 y1 h ≠ 0 then 0 else hullLo (fnd (tabAt c.tabs n.toNat) x0 x1 y0 y1 h)) := rfl
  have HH : Hid (ovHi c n x0 x1 y0 y1 h = if ovE c n x0 x1 y0 y1 h ≠ 0 then 0 else hullHi (fnd (tabAt c.tabs n.toNat) x0 x1 y0 y1 h)) := rfl
  unfold maxLen at hml
  by_cases hz : errOf c n c.tabs.length = 0
  case neg =>
    have HF : Hid (ovE c n x0 x1 y0 y1 h = errOf c n c.tabs.length) := HE.out.trans (if_pos hz)
    have HF1 : Hid (ovLo c n x0 x1 y0 y1 h = 0) := HL.out.trans (if_pos (by rw [HF.out]; exact hz))
    have HF2 : Hid (ovHi c n x0 x1 y0 y1 h = 0) := HH.out.trans (if_pos (by rw [HF.out]; exact hz))
    have b2 : (errOf c n c.tabs.length != 0) = true := by simpa using hz
    clear hz
    obtain ⟨t0, t1, p0, p1, p2, p3⟩ := CB.out W0 (fun _ _ => rfl)
    go_enter Try.func23, Try.ntmps23
    go_wp2_with fail
    (try rw [hW0])
    refine K.out.mono ?_
    rintro e w1 ⟨rfl, hb1⟩
    clear t0 t1 p0 p1 p2 p3
    obtain ⟨z0, z1, z2, z3⟩ := CZ.out w1 (hb1.below.block _ (by rw [SZ.out]; omega))
    go_wp2_with fail
    refine bodyPost_ret (v := enclE 0 0 (errOf c n c.tabs.length)) (by simp [results, Try.results23, go_sem, z0, z1]) rfl ⟨by rw [HF.out, HF1.out, HF2.out], ?_⟩
    exact bw0.trans ((hb1.below.mono (by rw [SZ.out]; omega)).trans (((Below.refl _ _).setCell (p := ⟨w.heap.size + 1 + 1, 0, none⟩) (by show w.heap.size ≤ w.heap.size + 1 + 1; omega) _).setCell (p := ⟨w.heap.size + 1 + 1, 1, none⟩) (by show w.heap.size ≤ w.heap.size + 1 + 1; omega) _))
  case pos =>
    obtain ⟨ok, hn0, hn1⟩ := errOf_ok hz
    have HZ := Lib.hid hz
    have HE2 : Hid (ovE c n x0 x1 y0 y1 h = rectE x0 x1 y0 y1 h) := HE.out.trans (if_neg (fun hh => hh hz))
    clear hz HE
    obtain ⟨m, rfl⟩ := Int.eq_ofNat_of_zero_le hn0
    have hm : m < c.tabs.length := by omega
    by_cases hr : rectE x0 x1 y0 y1 h = 0
    case neg =>
      have HF1 : Hid (ovLo c m x0 x1 y0 y1 h = 0) := HL.out.trans (if_pos (by rw [HE2.out]; exact hr))
      have HF2 : Hid (ovHi c m x0 x1 y0 y1 h = 0) := HH.out.trans (if_pos (by rw [HE2.out]; exact hr))
      have b2 : (rectE x0 x1 y0 y1 h != 0) = true := by simpa using hr
      clear hr
      obtain ⟨t0, t1, p0, p1, p2, p3⟩ := CB.out W0 (fun _ _ => rfl)
      go_enter Try.func23, Try.ntmps23
      go_wp2_with fail
      (try rw [hW0])
      refine K.out.mono ?_
      rintro e w1 ⟨rfl, hb1⟩
      clear t0 t1 p0 p1 p2 p3
      rw [HZ.out]
      obtain ⟨t0, t1, p0, p1, p2, p3⟩ := CB.out w1 (fun k hk => hb1.below.block k (by rw [SZ.out]; omega))
      go_wp2_with fail
      refine (rectError_any _ _ _ _ _ _).mono ?_
      rintro e w2 ⟨rfl, hb2⟩
      have hb12 := hb1.below.trans (hb2.below.mono hb1.below.size)
      obtain ⟨z0, z1, z2, z3⟩ := CZ.out w2 (hb12.block _ (by rw [SZ.out]; omega))
      go_wp2_with fail
      refine bodyPost_ret (v := enclE 0 0 (rectE x0 x1 y0 y1 h)) (by simp [results, Try.results23, go_sem, z0, z1]) rfl ⟨by rw [HE2.out, HF1.out, HF2.out], ?_⟩
      exact bw0.trans ((hb12.mono (by rw [SZ.out]; omega)).trans (((Below.refl _ _).setCell (p := ⟨w.heap.size + 1 + 1, 0, none⟩) (by show w.heap.size ≤ w.heap.size + 1 + 1; omega) _).setCell (p := ⟨w.heap.size + 1 + 1, 1, none⟩) (by show w.heap.size ≤ w.heap.size + 1 + 1; omega) _))
    case pos =>
      obtain ⟨b0, b1, b2, b3, b4, b5, b6, b7⟩ := rectE_ok hr
      have HR := Lib.hid hr
      have HF1 : Hid (ovLo c m x0 x1 y0 y1 h = hullLo (fnd (tabAt c.tabs m) x0 x1 y0 y1 h)) := HL.out.trans (if_neg (by rw [HE2.out]; exact fun hh => hh hr))
      have HF2 : Hid (ovHi c m x0 x1 y0 y1 h = hullHi (fnd (tabAt c.tabs m) x0 x1 y0 y1 h)) := HH.out.trans (if_neg (by rw [HE2.out]; exact fun hh => hh hr))
      clear hr
      have okt := ok.tab m hm
      obtain ⟨t0, t1, p0, p1, p2, p3⟩ := CB.out W0 (fun _ _ => rfl)
      go_enter Try.func23, Try.ntmps23
      go_wp2_with fail
      (try rw [hW0])
      refine K.out.mono ?_
      rintro e w1 ⟨rfl, hb1⟩
      clear t0 t1 p0 p1 p2 p3
      rw [HZ.out]
      obtain ⟨t0, t1, p0, p1, p2, p3⟩ := CB.out w1 (fun k hk => hb1.below.block k (by rw [SZ.out]; omega))
      go_wp2_with fail
      refine (rectError_any _ _ _ _ _ _).mono ?_
      rintro e w2 ⟨rfl, hb2⟩
      rw [HR.out]
      clear t0 t1 p0 p1 p2 p3
      have hb12 := hb1.below.trans (hb2.below.mono hb1.below.size)
      have hk2 : ∀ k, k < w.heap.size + 1 + 1 + 1 → w2.heap[k]? = W0.heap[k]? := fun k hk => hb12.block k (by rw [SZ.out]; omega)
      obtain ⟨t0, t1, p0, p1, p2, p3⟩ := CB.out w2 (fun k hk => hk2 k (by omega))
      have HC2 := HC.out.keep (hb12.mono (by rw [SZ.out]; omega)) (Nat.le_refl w.heap.size)
      obtain ⟨b, o, ha, hb, ht⟩ := tabAt_cells HC2 hm
      have q0 := ht.c0
      have q1 := ht.c1
      have q2 := ht.c2
      have q3 := ht.c3
      have q4 := ht.c4
      have q5 := ht.c5
      unfold Ints.val at q1 q2
      have s2 : w.heap.size + 1 + 1 < w2.heap.size := by have := hb12.size; rw [SZ.out] at this; omega
      have OV := Lib.hid (over_any (tabAt c.tabs m) x0 x1 y0 y1 h w2.drew okt (ht.us.more (by show w.heap.size ≤ w2.heap.size; omega)) (ht.vs.more (by show w.heap.size ≤ w2.heap.size; omega)) (ht.rows.more (by show w.heap.size ≤ w2.heap.size; omega)) b0 b1 b2 b3 b4 b5 b6 b7)
      rw [ha] at t0
      have KF := Lib.hid (show ∀ Wz : World, (∀ k, k < w.heap.size + 1 + 1 → Wz.heap[k]? = w2.heap[k]?) → (Wz.cell? ⟨w.heap.size, 0, none⟩ = some (.slice (some ⟨b, o, none⟩) c.tabs.length c.tc) ∧ Wz.cell? ⟨w.heap.size + 1, 0, none⟩ = some (.int .i64 x0) ∧ Wz.cell? ⟨w.heap.size + 1, 1, none⟩ = some (.int .i64 x1) ∧ Wz.cell? ⟨w.heap.size + 1, 2, none⟩ = some (.int .i64 y0) ∧ Wz.cell? ⟨w.heap.size + 1, 3, none⟩ = some (.int .i64 y1) ∧
          Wz.cell? ⟨b, o + m * 6, none⟩ = some (.string (tabAt c.tabs m).name) ∧ Wz.cell? ⟨b, o + m * 6 + 1, none⟩ = some (.slice (tabAt c.tabs m).us.a (tabAt c.tabs m).us.xs.length (tabAt c.tabs m).us.c) ∧ Wz.cell? ⟨b, o + m * 6 + 2, none⟩ = some (.slice (tabAt c.tabs m).vs.a (tabAt c.tabs m).vs.xs.length (tabAt c.tabs m).vs.c) ∧ Wz.cell? ⟨b, o + m * 6 + 3, none⟩ = some (.slice (tabAt c.tabs m).ra (tabAt c.tabs m).rows.length (tabAt c.tabs m).rc) ∧ Wz.cell? ⟨b, o + m * 6 + 4, none⟩ = some (.int .i64 (tabAt c.tabs m).side) ∧ Wz.cell? ⟨b, o + m * 6 + 5, none⟩ = some (.int .i64 (tabAt c.tabs m).sky)) from fun Wz hk => by
        have e : ∀ p : Addr, p.block < w.heap.size + 1 + 1 → Wz.cell? p = w2.cell? p := fun p hp => World.cell?_of_block (hk _ hp)
        refine ⟨?_, ?_, ?_, ?_, ?_, ?_, ?_, ?_, ?_, ?_, ?_⟩
        · rw [e _ (by show w.heap.size < _; omega)]; exact t0
        · rw [e _ (by show w.heap.size + 1 < _; omega)]; exact p0
        · rw [e _ (by show w.heap.size + 1 < _; omega)]; exact p1
        · rw [e _ (by show w.heap.size + 1 < _; omega)]; exact p2
        · rw [e _ (by show w.heap.size + 1 < _; omega)]; exact p3
        · rw [e _ (by show b < _; omega)]; exact q0
        · rw [e _ (by show b < _; omega)]; exact q1
        · rw [e _ (by show b < _; omega)]; exact q2
        · rw [e _ (by show b < _; omega)]; exact q3
        · rw [e _ (by show b < _; omega)]; exact q4
        · rw [e _ (by show b < _; omega)]; exact q5)
      have n1 : (0 : Int) ≤ (m : Int) := by omega
      have n2 : (m : Int) < (c.tabs.length : Int) := by omega
      have n3 : m < c.tabs.length := hm
      clear t0 t1 p0 p1 p2 p3 q0 q1 q2 q3 q4 q5 ht ha
      go_wp2_with fail
      go_region_held3 (fun w' => w'.cell? ⟨w.heap.size, 0, none⟩ = some (.slice (some ⟨b, o, none⟩) c.tabs.length c.tc) ∧ w'.cell? ⟨w.heap.size + 1, 0, none⟩ = some (.int .i64 x0) ∧ w'.cell? ⟨w.heap.size + 1, 1, none⟩ = some (.int .i64 x1) ∧ w'.cell? ⟨w.heap.size + 1, 2, none⟩ = some (.int .i64 y0) ∧ w'.cell? ⟨w.heap.size + 1, 3, none⟩ = some (.int .i64 y1) ∧
          w'.cell? ⟨b, o + m * 6, none⟩ = some (.string (tabAt c.tabs m).name) ∧ w'.cell? ⟨b, o + m * 6 + 1, none⟩ = some (.slice (tabAt c.tabs m).us.a (tabAt c.tabs m).us.xs.length (tabAt c.tabs m).us.c) ∧ w'.cell? ⟨b, o + m * 6 + 2, none⟩ = some (.slice (tabAt c.tabs m).vs.a (tabAt c.tabs m).vs.xs.length (tabAt c.tabs m).vs.c) ∧ w'.cell? ⟨b, o + m * 6 + 3, none⟩ = some (.slice (tabAt c.tabs m).ra (tabAt c.tabs m).rows.length (tabAt c.tabs m).rc) ∧ w'.cell? ⟨b, o + m * 6 + 4, none⟩ = some (.int .i64 (tabAt c.tabs m).side) ∧ w'.cell? ⟨b, o + m * 6 + 5, none⟩ = some (.int .i64 (tabAt c.tabs m).sky))
        (first | exact KF.out _ (fun _ _ => rfl) | exact KF.out _ (fun k hk => hbq.block k (by show k < w2.heap.size; omega)) | exact KF.out _ (fun k hk => (Below.heap_setCell _ _ _ k (by show k ≠ w.heap.size + 1 + 1; omega)).trans ((Below.heap_setCell _ _ _ k (by show k ≠ w.heap.size + 1 + 1; omega)).trans (hbq.block k (by show k < w2.heap.size; omega)))))
        (first | (go_at_call 51; (with_reducible refine OV.out.mono ?_); rintro e wq ⟨rfl, hbq⟩; obtain ⟨z0, z1, z2, z3⟩ := CZ.out wq ((hbq.block _ (by show w.heap.size + 1 + 1 < w2.heap.size; omega)).trans (hk2 _ (by omega))); dsimp only))
      go_wp2_with fail
      refine bodyPost_ret (v := enclE (hullLo (fnd (tabAt c.tabs m) x0 x1 y0 y1 h)) (hullHi (fnd (tabAt c.tabs m) x0 x1 y0 y1 h)) 0) (by simp [results, Try.results23, go_sem, z0, z1]) rfl ⟨by rw [HE2.out, HF1.out, HF2.out, HR.out], ?_⟩
      exact bw0.trans ((hb12.mono (by rw [SZ.out]; omega)).drew.trans ((hbq.mono (by show w.heap.size ≤ w2.heap.size; omega)).trans (((Below.refl _ _).setCell (p := ⟨w.heap.size + 1 + 1, 0, none⟩) (by show w.heap.size ≤ w.heap.size + 1 + 1; omega) _).setCell (p := ⟨w.heap.size + 1 + 1, 1, none⟩) (by show w.heap.size ≤ w.heap.size + 1 + 1; omega) _)))
end Go.Proofs.Ytgmpipciinphiaa
