/- The walk of LampLevels. -/
import Derived.Test.YthmelkakgbchbaaAwk
namespace Go.Proofs.Ythmelkakgbchbaa
set_option linter.unusedSimpArgs false
set_option linter.unusedVariables false
open Go.RowKit
attribute [local go_sem ↓] Go.wp_at_zero Go.wp_at_succ

theorem lvl_facts (c : Cat) (m : Nat) (w0 w1 : Int) (d0 : 0 ≤ (lmpAt c.lamps m).dim) (d1 : (lmpAt c.lamps m).dim ≤ 1000) :
    lvl c m (lvl c m w0) = lvl c m w0 ∧ (w0 ≤ 0 → lvl c m w0 = 0) ∧ (0 < w0 → 0 < lvl c m w0 ∧ (lmpAt c.lamps m).dim ≤ lvl c m w0 ∧ lvl c m w0 ≤ 1000) ∧ (w0 ≤ w1 → lvl c m w0 ≤ lvl c m w1) := by
  have e : (m : Int).toNat = m := rfl
  unfold lvl
  rw [e]
  generalize (lmpAt c.lamps m).dim = d at *
  refine ⟨?_, ?_, ?_, ?_⟩
  · split
    · simp
    · split <;> omega
  · intro h; rw [if_pos h]
  · intro h; rw [if_neg (by omega)]; omega
  · intro h; split <;> split <;> omega

set_option maxRecDepth 100000 in
set_option maxHeartbeats 2000000 in
theorem levels_any (c : Cat) (n w0 w1 : Int) (w : World) (hc : CatIn w.heap.size c w) :
    Calls Try.prog 15 #[.agg #[c.tv, c.lv], .int .i64 n, .agg #[.int .i64 w0, .int .i64 w1]] w fun e w' => e = .returned (.bool true) ∧ Below w.heap.size w w' := by
  have hml := hc.lamps.1
  have hc0 := Lib.hid hc
  have LV := Lib.hid (fun (want : Int) (Wz : World) (h : CatIn Wz.heap.size c Wz) => level_any c n want Wz h)
  unfold Cat.tv Cat.lv at *
  have own0 : Own w.heap.size w ((w.alloc (.cells #[.slice c.ta c.tabs.length c.tc, .slice c.la c.lamps.length c.lc] 25)).alloc (.cells #[.int .i64 w0, .int .i64 w1] 80)) := ((Own.refl _ _).alloc (Nat.le_refl _) _).alloc (by simp) _
  have sz0 : ((w.alloc (.cells #[.slice c.ta c.tabs.length c.tc, .slice c.la c.lamps.length c.lc] 25)).alloc (.cells #[.int .i64 w0, .int .i64 w1] 80)).heap.size = w.heap.size + 1 + 1 := by simp
  have HC := Lib.hid ((hc0.out.keep own0.below (Nat.le_refl _)))
  clear hc hc0
  have CB : ∀ Wz : World, (∀ k, k < w.heap.size + 1 + 1 → Wz.heap[k]? = ((w.alloc (.cells #[.slice c.ta c.tabs.length c.tc, .slice c.la c.lamps.length c.lc] 25)).alloc (.cells #[.int .i64 w0, .int .i64 w1] 80)).heap[k]?) → (Wz.cell? ⟨w.heap.size, 0, none⟩ = some (.slice c.ta c.tabs.length c.tc) ∧ Wz.cell? ⟨w.heap.size, 1, none⟩ = some (.slice c.la c.lamps.length c.lc) ∧ Wz.cell? ⟨w.heap.size + 1, 0, none⟩ = some (.int .i64 w0) ∧ Wz.cell? ⟨w.heap.size + 1, 1, none⟩ = some (.int .i64 w1)) := fun Wz hk => by
    have e : ∀ p : Addr, p.block < w.heap.size + 1 + 1 → Wz.cell? p = World.cell? _ p := fun p hp => World.cell?_of_block (hk _ hp)
    refine ⟨?_, ?_, ?_, ?_⟩
    · rw [e _ (by show w.heap.size < _; omega)]; simp [go_sem]
    · rw [e _ (by show w.heap.size < _; omega)]; simp [go_sem]
    · rw [e _ (by show w.heap.size + 1 < _; omega)]; simp [go_sem]
    · rw [e _ (by show w.heap.size + 1 < _; omega)]; simp [go_sem]
  generalize hW0 : ((w.alloc (.cells #[.slice c.ta c.tabs.length c.tc, .slice c.la c.lamps.length c.lc] 25)).alloc (.cells #[.int .i64 w0, .int .i64 w1] 80)) = W0 at *
  have CB := Lib.hid CB
  have SZ := Lib.hid sz0
  clear sz0
  have HCz := Lib.hid (fun (Wz : World) (hb : Below W0.heap.size W0 Wz) => (HC.out.keep (hb.mono (by rw [SZ.out]; omega)) (Nat.le_refl w.heap.size)).more (show w.heap.size ≤ Wz.heap.size by have := hb.size; rw [SZ.out] at this; omega))
  have LZ := Lib.hid (fun (want : Int) (Wz : World) (hb : Below W0.heap.size W0 Wz) => LV.out want Wz (HCz.out Wz hb))
  have CZ := Lib.hid (fun (Wz : World) (hb : Below W0.heap.size W0 Wz) => CB.out Wz (fun k hk => hb.block k (by rw [SZ.out]; omega)))
  have AZ := Lib.hid (fun (Wz : World) (hb : Below W0.heap.size W0 Wz) => (show Calls Try.prog 20 #[] Wz (fun e w' => e = .returned (.bool true) ∧ Below W0.heap.size W0 w') from (awake_any Wz).mono (fun e w' hh => ⟨hh.1, hb.trans (hh.2.mono hb.size)⟩)))
  have PZ := Lib.hid (fun (Wz : World) (hb : Below W0.heap.size W0 Wz) => own0.below.trans (hb.mono (show w.heap.size ≤ W0.heap.size by rw [SZ.out]; omega)))
  have HL : ∀ want, Hid (lvlN c n want = if errOf c n c.lamps.length ≠ 0 then 0 else lvl c n want) := fun _ => rfl
  unfold maxLen at hml
  by_cases hz : errOf c n c.lamps.length = 0
  case neg =>
    have HN : Hid (lvlN c n w0 = 0) := (HL w0).out.trans (if_pos hz)
    have b2 : (errOf c n c.lamps.length != 0) = true := by simpa using hz
    clear hz HL
    obtain ⟨t0, t1, p0, p1⟩ := CZ.out W0 (Below.refl _ _)
    go_enter Try.func15, Try.ntmps15
    go_wp2_with fail
    (try rw [hW0])
    refine (LZ.out w0 W0 (Below.refl _ _)).mono ?_
    rintro e w1' ⟨rfl, o1⟩
    clear t0 t1 p0 p1
    rw [HN.out]
    go_wp2_with fail
    refine (AZ.out _ o1.below).mono ?_
    rintro e w2 ⟨rfl, b2'⟩
    go_wp2_with fail
    go_ret
    exact ⟨rfl, PZ.out _ b2'⟩
  case pos =>
    obtain ⟨ok, hn0, hn1⟩ := errOf_ok hz
    have HZ := Lib.hid hz
    have HL2 : ∀ want, Hid (lvlN c n want = lvl c n want) := fun want => (HL want).out.trans (if_neg (fun hh => hh hz))
    clear hz HL
    obtain ⟨m, rfl⟩ := Int.eq_ofNat_of_zero_le hn0
    have hm : m < c.lamps.length := by omega
    have okl := ok.lmp m hm
    obtain ⟨f1, f2, f3, _⟩ := lvl_facts c m w0 w1 okl.m0 okl.m1
    obtain ⟨_, _, _, f4⟩ := lvl_facts c m w0 w1 okl.m0 okl.m1
    obtain ⟨_, g2, g3, _⟩ := lvl_facts c m w1 w1 okl.m0 okl.m1
    have E1 := Lib.hid (show lvlN c m w0 = lvl c m w0 from (HL2 w0).out)
    have E2 := Lib.hid (show lvlN c m (lvl c m w0) = lvl c m w0 from (HL2 _).out.trans f1)
    have E3 := Lib.hid (show lvlN c m w1 = lvl c m w1 from (HL2 w1).out)
    obtain ⟨a, ha⟩ : ∃ a, lvl c m w0 = a := ⟨_, rfl⟩
    obtain ⟨b, hb⟩ : ∃ b, lvl c m w1 = b := ⟨_, rfl⟩
    rw [ha] at f1 f2 f3 f4 E1 E2
    rw [hb] at f4 g2 g3 E3
    clear f1 HL2
    have F := Lib.hid (And.intro f2 (And.intro f3 (And.intro f4 (And.intro g2 g3))))
    have n1 : (0 : Int) ≤ (m : Int) := by omega
    have n2 : (m : Int) < (c.lamps.length : Int) := by omega
    have n3 : m < c.lamps.length := hm
    have n4 : ¬ (m : Int) < 0 := by omega
    have n5 : ¬ (c.lamps.length : Int) ≤ (m : Int) := by omega
    have n6 : ¬ c.lamps.length ≤ m := by omega
    clear f2 f3 f4 g2 g3
    by_cases hw : w0 ≤ 0
    case pos =>
      have ha0 : a = 0 := F.out.1 hw
      subst ha0
      have hb0 : 0 ≤ b := by
        by_cases h : w1 ≤ 0
        · rw [F.out.2.2.2.1 h]; exact Int.le_refl _
        · have := (F.out.2.2.2.2 (by omega)).1; omega
      clear F
      obtain ⟨t0, t1, p0, p1⟩ := CZ.out W0 (Below.refl _ _)
      go_enter Try.func15, Try.ntmps15
      go_wp2_with fail
      (try rw [hW0])
      refine (LZ.out w0 W0 (Below.refl _ _)).mono ?_
      rintro e w1' ⟨rfl, o1⟩
      clear t0 t1 p0 p1
      obtain ⟨t0, t1, p0, p1⟩ := CZ.out w1' o1.below
      rw [E1.out, HZ.out]
      go_wp2_with fail
      refine (LZ.out 0 w1' o1.below).mono ?_
      rintro e w2 ⟨rfl, o2⟩
      clear t0 t1 p0 p1
      have o12 := o1.below.trans (o2.below.mono o1.below.size)
      obtain ⟨t0, t1, p0, p1⟩ := CZ.out w2 o12
      rw [E2.out, HZ.out]
      go_wp2_with fail
      refine (LZ.out w1 w2 o12).mono ?_
      rintro e w3 ⟨rfl, o3⟩
      clear t0 t1 p0 p1
      have o13 := o12.trans (o3.below.mono o12.size)
      obtain ⟨t0, t1, p0, p1⟩ := CZ.out w3 o13
      rw [E3.out, HZ.out]
      clear ha hb
      by_cases hg : w1 < w0
      · go_wp2_with fail
        refine (AZ.out _ o13).mono ?_
        rintro e w4 ⟨rfl, b4⟩
        go_wp2_with fail
        go_ret
        exact ⟨rfl, PZ.out _ b4⟩
      · go_wp2_with fail
        refine (AZ.out _ o13).mono ?_
        rintro e w4 ⟨rfl, b4⟩
        go_wp2_with fail
        go_ret
        exact ⟨rfl, PZ.out _ b4⟩
    case neg =>
      obtain ⟨h1, h2, h3⟩ := F.out.2.1 (by omega)
      have k1 : ¬ a = 0 := by omega
      have k2 : ¬ a < (lmpAt c.lamps m).dim := by omega
      have k3 : ¬ 1000 < a := by omega
      have k4 : (a != 0) = true := by simpa using k1
      have k5 : (a == 0) = false := by simpa using k1
      obtain ⟨t0, t1, p0, p1⟩ := CZ.out W0 (Below.refl _ _)
      go_enter Try.func15, Try.ntmps15
      go_wp2_with fail
      (try rw [hW0])
      refine (LZ.out w0 W0 (Below.refl _ _)).mono ?_
      rintro e w1' ⟨rfl, o1⟩
      clear t0 t1 p0 p1
      obtain ⟨t0, t1, p0, p1⟩ := CZ.out w1' o1.below
      rw [E1.out, HZ.out]
      go_wp2_with fail
      refine (LZ.out a w1' o1.below).mono ?_
      rintro e w2 ⟨rfl, o2⟩
      clear t0 t1 p0 p1
      have o12 := o1.below.trans (o2.below.mono o1.below.size)
      obtain ⟨t0, t1, p0, p1⟩ := CZ.out w2 o12
      rw [show lvlN c m a = a from ha ▸ E2.out, HZ.out]
      go_wp2_with fail
      refine (LZ.out w1 w2 o12).mono ?_
      rintro e w3 ⟨rfl, o3⟩
      clear t0 t1 p0 p1
      have o13 := o12.trans (o3.below.mono o12.size)
      obtain ⟨t0, t1, p0, p1⟩ := CZ.out w3 o13
      obtain ⟨bb, oo, hla, hbb, hl⟩ := lmpAt_cells (HCz.out w3 o13) hm
      have c12 := hl.c12
      rw [hla] at t1
      rw [E3.out, HZ.out]
      clear hl hla
      by_cases hg : w1 < w0
      · clear ha hb F
        go_wp2_with fail
        refine (AZ.out _ o13).mono ?_
        rintro e w4 ⟨rfl, b4⟩
        go_wp2_with fail
        go_ret
        exact ⟨rfl, PZ.out _ b4⟩
      · have hab : a ≤ b := F.out.2.2.1 (by omega)
        clear ha hb F
        go_wp2_with fail
        refine (AZ.out _ o13).mono ?_
        rintro e w4 ⟨rfl, b4⟩
        go_wp2_with fail
        go_ret
        exact ⟨rfl, PZ.out _ b4⟩
end Go.Proofs.Ythmelkakgbchbaa
