/- Power, of the code and of the reference. -/
import Derived.Test.YthmelkakgbchbaaRer
import Derived.Test.YthmelkakgbchbaaFlx
import Derived.StillTailTactics
namespace Go.Proofs.Ythmelkakgbchbaa
set_option linter.unusedSimpArgs false
set_option linter.unusedVariables false
open Go.RowKit
attribute [local go_sem ↓] Go.wp_at_zero Go.wp_at_succ

/-- the power of a lamp, in thousandths, without its tolerance -/
def pwT (l : Lmp) (v : Int) : Int := l.standing * 1000 + (l.power - l.standing) * v
def pwLo (l : Lmp) (v : Int) : Int := (pwT l v * (1000 - l.tol)) / 1000000
def pwHi (l : Lmp) (v : Int) : Int := upD (pwT l v * (1000 + l.tol)) 1000000
def pwE (c : Cat) (n v : Int) : Int := if errOf c n c.lamps.length ≠ 0 then errOf c n c.lamps.length else if inB v 0 1000 = true then 0 else 7
def pwLoN (c : Cat) (n v : Int) : Int := if pwE c n v ≠ 0 then 0 else pwLo (lmpAt c.lamps n.toNat) v
def pwHiN (c : Cat) (n v : Int) : Int := if pwE c n v ≠ 0 then 0 else pwHi (lmpAt c.lamps n.toNat) v
theorem isFrom_so {n a b : Int} {x : Bool} (h : inB n a b = x) (w : World) : Calls Try.prog 54 #[.int .i64 n, .int .i64 a, .int .i64 b] w fun e w' => e = .returned (.bool x) ∧ w = w' := by
  rw [← h]; exact isFrom_any n a b w

set_option maxRecDepth 100000 in
set_option maxHeartbeats 2000000 in
theorem Power_any (c : Cat) (n v : Int) (w : World) (hc : CatIn w.heap.size c w) :
    Calls Try.prog 29 #[.agg #[c.tv, c.lv], .int .i64 n, .int .i64 v] w fun e w' => e = .returned (enclE (pwLoN c n v) (pwHiN c n v) (pwE c n v)) ∧ Own w.heap.size w w' := by
  have hml := hc.lamps.1
  have hc0 := Lib.hid hc
  unfold Cat.tv Cat.lv at *
  have own0 : Own w.heap.size w ((w.alloc (.cells #[.slice c.ta c.tabs.length c.tc, .slice c.la c.lamps.length c.lc] 25)).alloc (.cells #[.int .i64 0, .int .i64 0] 35)) := ((Own.refl _ _).alloc (Nat.le_refl _) _).alloc (by simp) _
  have sz0 : ((w.alloc (.cells #[.slice c.ta c.tabs.length c.tc, .slice c.la c.lamps.length c.lc] 25)).alloc (.cells #[.int .i64 0, .int .i64 0] 35)).heap.size = w.heap.size + 1 + 1 := by simp
  have HC := Lib.hid (hc0.out.keep own0.below (Nat.le_refl _))
  clear hc hc0
  have t0 : ((w.alloc (.cells #[.slice c.ta c.tabs.length c.tc, .slice c.la c.lamps.length c.lc] 25)).alloc (.cells #[.int .i64 0, .int .i64 0] 35)).cell? ⟨w.heap.size, 0, none⟩ = some (.slice c.ta c.tabs.length c.tc) := by simp [go_sem]
  have t1 : ((w.alloc (.cells #[.slice c.ta c.tabs.length c.tc, .slice c.la c.lamps.length c.lc] 25)).alloc (.cells #[.int .i64 0, .int .i64 0] 35)).cell? ⟨w.heap.size, 1, none⟩ = some (.slice c.la c.lamps.length c.lc) := by simp [go_sem]
  have z0 : ((w.alloc (.cells #[.slice c.ta c.tabs.length c.tc, .slice c.la c.lamps.length c.lc] 25)).alloc (.cells #[.int .i64 0, .int .i64 0] 35)).cell? ⟨w.heap.size + 1, 0, none⟩ = some (.int .i64 0) := by simp [go_sem]
  have z1 : ((w.alloc (.cells #[.slice c.ta c.tabs.length c.tc, .slice c.la c.lamps.length c.lc] 25)).alloc (.cells #[.int .i64 0, .int .i64 0] 35)).cell? ⟨w.heap.size + 1, 1, none⟩ = some (.int .i64 0) := by simp [go_sem]
  have z2 : ((w.alloc (.cells #[.slice c.ta c.tabs.length c.tc, .slice c.la c.lamps.length c.lc] 25)).alloc (.cells #[.int .i64 0, .int .i64 0] 35)).frozen? ⟨w.heap.size + 1, 0, none⟩ = false := by simp [go_sem]
  have z3 : ((w.alloc (.cells #[.slice c.ta c.tabs.length c.tc, .slice c.la c.lamps.length c.lc] 25)).alloc (.cells #[.int .i64 0, .int .i64 0] 35)).frozen? ⟨w.heap.size + 1, 1, none⟩ = false := by simp [go_sem]
  generalize hW0 : ((w.alloc (.cells #[.slice c.ta c.tabs.length c.tc, .slice c.la c.lamps.length c.lc] 25)).alloc (.cells #[.int .i64 0, .int .i64 0] 35)) = W0 at *
  have T0 := Lib.hid t0
  have T1 := Lib.hid t1
  have CZ := Lib.hid (show ∀ (Wz : World), Own W0.heap.size W0 Wz → (Wz.cell? ⟨w.heap.size + 1, 0, none⟩ = some (.int .i64 0) ∧ Wz.cell? ⟨w.heap.size + 1, 1, none⟩ = some (.int .i64 0) ∧ Wz.frozen? ⟨w.heap.size + 1, 0, none⟩ = false ∧ Wz.frozen? ⟨w.heap.size + 1, 1, none⟩ = false) from fun Wz hk => by
    have hs : w.heap.size + 1 < W0.heap.size := by rw [sz0]; omega
    exact ⟨(hk.cell (p := ⟨w.heap.size + 1, 0, none⟩) hs).trans z0, (hk.cell (p := ⟨w.heap.size + 1, 1, none⟩) hs).trans z1, (hk.frozen (p := ⟨w.heap.size + 1, 0, none⟩) hs).trans z2, (hk.frozen (p := ⟨w.heap.size + 1, 1, none⟩) hs).trans z3⟩)
  have SZ := Lib.hid sz0
  clear z0 z1 z2 z3 sz0
  have K := Lib.hid (errorOf_any c n c.lamps.length W0 (HC.out.more (by rw [SZ.out]; omega)) hml)
  unfold Cat.tv Cat.lv at K
  have HE : Hid (pwE c n v = if errOf c n c.lamps.length ≠ 0 then errOf c n c.lamps.length else if inB v 0 1000 = true then 0 else 7) := rfl
  have HL : Hid (pwLoN c n v = if pwE c n v ≠ 0 then 0 else pwLo (lmpAt c.lamps n.toNat) v) := rfl
  have HH : Hid (pwHiN c n v = if pwE c n v ≠ 0 then 0 else pwHi (lmpAt c.lamps n.toNat) v) := rfl
  have OZ := Lib.hid (fun (Wz : World) (hb : Own W0.heap.size W0 Wz) => own0.trans (hb.mono (show w.heap.size ≤ W0.heap.size by rw [SZ.out]; omega)))
  unfold maxLen at hml
  by_cases hz : errOf c n c.lamps.length = 0
  case neg =>
    have HF : Hid (pwE c n v = errOf c n c.lamps.length) := HE.out.trans (if_pos hz)
    have HF1 : Hid (pwLoN c n v = 0) := HL.out.trans (if_pos (by rw [HF.out]; exact hz))
    have HF2 : Hid (pwHiN c n v = 0) := HH.out.trans (if_pos (by rw [HF.out]; exact hz))
    have b2 : (errOf c n c.lamps.length != 0) = true := by simpa using hz
    have b3 : (errOf c n c.lamps.length == 0) = false := by simpa using hz
    clear hz
    go_enter Try.func29, Try.ntmps29
    go_wp2_with fail
    (try rw [hW0])
    refine K.out.mono ?_
    rintro e w1 ⟨rfl, hb1⟩
    clear t0 t1
    obtain ⟨z0, z1, z2, z3⟩ := CZ.out w1 hb1
    go_wp2_with fail
    refine bodyPost_ret (v := enclE 0 0 (errOf c n c.lamps.length)) (by simp [results, Try.results29, go_sem, z0, z1]) rfl ⟨by rw [HF.out, HF1.out, HF2.out], ?_⟩
    exact ((OZ.out _ hb1).setCell (p := ⟨w.heap.size + 1, 0, none⟩) (by show w.heap.size ≤ w.heap.size + 1; omega) _).setCell (p := ⟨w.heap.size + 1, 1, none⟩) (by show w.heap.size ≤ w.heap.size + 1; omega) _
  case pos =>
    obtain ⟨ok, hn0, hn1⟩ := errOf_ok hz
    have HZ := Lib.hid hz
    have HE2 : Hid (pwE c n v = if inB v 0 1000 = true then 0 else 7) := HE.out.trans (if_neg (fun hh => hh hz))
    clear hz HE
    obtain ⟨k, rfl⟩ := Int.eq_ofNat_of_zero_le hn0
    have hm : k < c.lamps.length := by omega
    cases hr : inB v 0 1000
    case false =>
      have HE3 : Hid (pwE c k v = 7) := HE2.out.trans (if_neg (by rw [hr]; decide))
      have HF1 : Hid (pwLoN c k v = 0) := HL.out.trans (if_pos (by rw [HE3.out]; decide))
      have HF2 : Hid (pwHiN c k v = 0) := HH.out.trans (if_pos (by rw [HE3.out]; decide))
      have HR := Lib.hid hr
      clear hr
      go_enter Try.func29, Try.ntmps29
      go_wp2_with fail
      (try rw [hW0])
      refine K.out.mono ?_
      rintro e w1 ⟨rfl, hb1⟩
      clear t0 t1
      rw [HZ.out]
      obtain ⟨z0, z1, z2, z3⟩ := CZ.out w1 hb1
      go_wp2_with fail
      refine (isFrom_so HR.out _).mono ?_
      rintro e w2 ⟨rfl, rfl⟩
      go_wp2_with fail
      refine bodyPost_ret (v := enclE 0 0 7) (by simp [results, Try.results29, go_sem, z0, z1]) rfl ⟨by rw [HE3.out, HF1.out, HF2.out], ?_⟩
      exact ((OZ.out _ hb1).setCell (p := ⟨w.heap.size + 1, 0, none⟩) (by show w.heap.size ≤ w.heap.size + 1; omega) _).setCell (p := ⟨w.heap.size + 1, 1, none⟩) (by show w.heap.size ≤ w.heap.size + 1; omega) _
    case true =>
      have HE3 : Hid (pwE c k v = 0) := HE2.out.trans (if_pos hr)
      have HF1 : Hid (pwLoN c k v = pwLo (lmpAt c.lamps k) v) := HL.out.trans (if_neg (by rw [HE3.out]; exact fun hh => hh rfl))
      have HF2 : Hid (pwHiN c k v = pwHi (lmpAt c.lamps k) v) := HH.out.trans (if_neg (by rw [HE3.out]; exact fun hh => hh rfl))
      have okl := ok.lmp k hm
      have HR := Lib.hid hr
      obtain ⟨v0, v1⟩ := inB_iff.1 hr
      clear hr
      have s0 := okl.s0
      have s1 := okl.s1
      have p1 := okl.p1
      have o0 := okl.o0
      have o1 := okl.o1
      have M1 := mul_bd (x := (lmpAt c.lamps k).power - (lmpAt c.lamps k).standing) (X := 5000000) (y := v) (Y := 1000) (by omega) (by omega) v0 v1
      have e1 : IntKind.i64.wrap ((lmpAt c.lamps k).standing * 1000) = (lmpAt c.lamps k).standing * 1000 := IntWalk.i64_in _ (by omega)
      have e2 : IntKind.i64.wrap ((lmpAt c.lamps k).power - (lmpAt c.lamps k).standing) = (lmpAt c.lamps k).power - (lmpAt c.lamps k).standing := IntWalk.i64_in _ (by omega)
      have e3 : IntKind.i64.wrap (((lmpAt c.lamps k).power - (lmpAt c.lamps k).standing) * v) = ((lmpAt c.lamps k).power - (lmpAt c.lamps k).standing) * v := IntWalk.i64_in _ (by omega)
      obtain ⟨T, hT⟩ : ∃ T, T = (lmpAt c.lamps k).standing * 1000 + ((lmpAt c.lamps k).power - (lmpAt c.lamps k).standing) * v := ⟨_, rfl⟩
      have e4 : IntKind.i64.wrap ((lmpAt c.lamps k).standing * 1000 + ((lmpAt c.lamps k).power - (lmpAt c.lamps k).standing) * v) = T := by rw [hT]; exact IntWalk.i64_in _ (by omega)
      have T0' : 0 ≤ T ∧ T ≤ 10000000000 := by omega
      have e5 : IntKind.i64.wrap (1000 - (lmpAt c.lamps k).tol) = 1000 - (lmpAt c.lamps k).tol := IntWalk.i64_in _ (by omega)
      have e6 : IntKind.i64.wrap (1000 + (lmpAt c.lamps k).tol) = 1000 + (lmpAt c.lamps k).tol := IntWalk.i64_in _ (by omega)
      have M2 := mul_bd (y := 1000 - (lmpAt c.lamps k).tol) (Y := 1000) T0'.1 T0'.2 (by omega) (by omega)
      have M3 := mul_bd (y := 1000 + (lmpAt c.lamps k).tol) (Y := 2000) T0'.1 T0'.2 (by omega) (by omega)
      have e7 : IntKind.i64.wrap (T * (1000 - (lmpAt c.lamps k).tol)) = T * (1000 - (lmpAt c.lamps k).tol) := IntWalk.i64_in _ (by omega)
      have e8 : IntKind.i64.wrap (T * (1000 + (lmpAt c.lamps k).tol)) = T * (1000 + (lmpAt c.lamps k).tol) := IntWalk.i64_in _ (by omega)
      have DN := Lib.hid (fun W => down_any (T * (1000 - (lmpAt c.lamps k).tol)) 1000000 W (by omega) (by omega) (by omega) (by omega))
      have UP := Lib.hid (fun W => up_any (T * (1000 + (lmpAt c.lamps k).tol)) 1000000 W (by omega) (by omega) (by omega) (by omega))
      have HG1 : Hid (pwLo (lmpAt c.lamps k) v = (T * (1000 - (lmpAt c.lamps k).tol)) / 1000000) := by show pwLo _ v = _; unfold pwLo pwT; rw [hT]
      have HG2 : Hid (pwHi (lmpAt c.lamps k) v = upD (T * (1000 + (lmpAt c.lamps k).tol)) 1000000) := by show pwHi _ v = _; unfold pwHi pwT; rw [hT]
      clear M1 M2 M3 T0' s0 s1 p1 o0 o1
      have HT := Lib.hid hT
      clear hT
      go_enter Try.func29, Try.ntmps29
      go_wp2_with fail
      (try rw [hW0])
      refine K.out.mono ?_
      rintro e w1 ⟨rfl, hb1⟩
      rw [HZ.out]
      have s2 : w.heap.size < W0.heap.size := by rw [SZ.out]; omega
      have s3 := hb1.size
      obtain ⟨b, o, ha, hb, ht⟩ := lmpAt_cells (HC.out.keep hb1.below (by rw [SZ.out]; omega)) hm
      clear t0 t1
      have t1 := (hb1.cell (p := ⟨w.heap.size, 1, none⟩) s2).trans T1.out
      rw [ha] at t1
      have OW := Lib.hid (OZ.out _ hb1)
      obtain ⟨z0, z1, z2, z3⟩ := CZ.out w1 hb1
      obtain ⟨d0, d1, c0, c1, c2, c3, c4, c5, c6, c7, c8, c9, c10, c11, c12, c13⟩ := ht
      have ne1 : w.heap.size + 1 ≠ w1.heap.size := by have := SZ.out; omega
      have n1 : (0 : Int) ≤ (k : Int) := by omega
      have n2 : (k : Int) < (c.lamps.length : Int) := by omega
      clear ha d0
      go_wp2_with fail
      refine (isFrom_so HR.out _).mono ?_
      rintro e w2 ⟨rfl, rfl⟩
      go_wp2_with fail
      have hS6 : (w1.alloc (.cells #[.string (lmpAt c.lamps k).name, .int .i64 (lmpAt c.lamps k).table, .int .i64 (lmpAt c.lamps k).kind, .int .i64 (lmpAt c.lamps k).lumens, .int .i64 (lmpAt c.lamps k).power, .int .i64 (lmpAt c.lamps k).standing, .int .i64 (lmpAt c.lamps k).tol, .int .i64 (lmpAt c.lamps k).alo, .int .i64 (lmpAt c.lamps k).ahi, .int .i64 (lmpAt c.lamps k).dlo, .int .i64 (lmpAt c.lamps k).dhi, .int .i64 (lmpAt c.lamps k).life, .int .i64 (lmpAt c.lamps k).dim, .int .i64 (lmpAt c.lamps k).rest] 82)).cell? ⟨w1.heap.size, 6, none⟩ = some (.int .i64 (lmpAt c.lamps k).tol) := by simp [go_sem]
      have OW2 := Lib.hid (OW.out.alloc (OW.out.size) (.cells #[.string (lmpAt c.lamps k).name, .int .i64 (lmpAt c.lamps k).table, .int .i64 (lmpAt c.lamps k).kind, .int .i64 (lmpAt c.lamps k).lumens, .int .i64 (lmpAt c.lamps k).power, .int .i64 (lmpAt c.lamps k).standing, .int .i64 (lmpAt c.lamps k).tol, .int .i64 (lmpAt c.lamps k).alo, .int .i64 (lmpAt c.lamps k).ahi, .int .i64 (lmpAt c.lamps k).dlo, .int .i64 (lmpAt c.lamps k).dhi, .int .i64 (lmpAt c.lamps k).life, .int .i64 (lmpAt c.lamps k).dim, .int .i64 (lmpAt c.lamps k).rest] 82))
      have q0 := hb1.alloc hb1.size (.cells #[.string (lmpAt c.lamps k).name, .int .i64 (lmpAt c.lamps k).table, .int .i64 (lmpAt c.lamps k).kind, .int .i64 (lmpAt c.lamps k).lumens, .int .i64 (lmpAt c.lamps k).power, .int .i64 (lmpAt c.lamps k).standing, .int .i64 (lmpAt c.lamps k).tol, .int .i64 (lmpAt c.lamps k).alo, .int .i64 (lmpAt c.lamps k).ahi, .int .i64 (lmpAt c.lamps k).dlo, .int .i64 (lmpAt c.lamps k).dhi, .int .i64 (lmpAt c.lamps k).life, .int .i64 (lmpAt c.lamps k).dim, .int .i64 (lmpAt c.lamps k).rest] 82)
      have Q0 := Lib.hid q0
      clear c0 c1 c2 c3 c4 c5 c6 c7 c8 c9 c10 c11 c12 c13 z0 z1 z2 z3 q0 t1
      generalize w1.alloc (.cells #[.string (lmpAt c.lamps k).name, .int .i64 (lmpAt c.lamps k).table, .int .i64 (lmpAt c.lamps k).kind, .int .i64 (lmpAt c.lamps k).lumens, .int .i64 (lmpAt c.lamps k).power, .int .i64 (lmpAt c.lamps k).standing, .int .i64 (lmpAt c.lamps k).tol, .int .i64 (lmpAt c.lamps k).alo, .int .i64 (lmpAt c.lamps k).ahi, .int .i64 (lmpAt c.lamps k).dlo, .int .i64 (lmpAt c.lamps k).dhi, .int .i64 (lmpAt c.lamps k).life, .int .i64 (lmpAt c.lamps k).dim, .int .i64 (lmpAt c.lamps k).rest] 82) = W2 at *
      go_still_tail 13, (by kernel_rfl)
      still_call ((DN.out _).mono fun _ _ hh => ⟨hh.1, hh.2.symm⟩)
      repeat still_step
      still_call ((UP.out _).mono fun _ _ hh => ⟨hh.1, hh.2.symm⟩)
      repeat still_step
      refine wpStill_nil ?_
      have k9 := OW2.out.drew
      obtain ⟨z0, z1, z2, z3⟩ := CZ.out W2.drew Q0.out.drew
      change wpList _ _ _ _ _ W2.drew
      generalize W2.drew = W3 at *
      clear hS6
      go_wp2_with fail
      refine bodyPost_ret (v := enclE ((T * (1000 - (lmpAt c.lamps k).tol)) / 1000000) (upD (T * (1000 + (lmpAt c.lamps k).tol)) 1000000) 0) (by simp [results, Try.results29, go_sem, z0, z1]) rfl ⟨by rw [HE3.out, HF1.out, HF2.out, HG1.out, HG2.out], ?_⟩
      exact (k9.setCell (p := ⟨w.heap.size + 1, 0, none⟩) (by show w.heap.size ≤ w.heap.size + 1; omega) _).setCell (p := ⟨w.heap.size + 1, 1, none⟩) (by show w.heap.size ≤ w.heap.size + 1; omega) _

set_option maxRecDepth 100000 in
set_option maxHeartbeats 2000000 in
theorem rPower_any (c : Cat) (n v : Int) (w : World) (hc : CatIn w.heap.size c w) :
    Calls Try.prog 30 #[.agg #[c.tv, c.lv], .int .i64 n, .int .i64 v] w fun e w' => e = .returned (enclE (pwLoN c n v) (pwHiN c n v) (pwE c n v)) ∧ Own w.heap.size w w' := by
  have hml := hc.lamps.1
  have hc0 := Lib.hid hc
  unfold Cat.tv Cat.lv at *
  have own0 : Own w.heap.size w ((w.alloc (.cells #[.slice c.ta c.tabs.length c.tc, .slice c.la c.lamps.length c.lc] 25)).alloc (.cells #[.int .i64 0, .int .i64 0] 35)) := ((Own.refl _ _).alloc (Nat.le_refl _) _).alloc (by simp) _
  have sz0 : ((w.alloc (.cells #[.slice c.ta c.tabs.length c.tc, .slice c.la c.lamps.length c.lc] 25)).alloc (.cells #[.int .i64 0, .int .i64 0] 35)).heap.size = w.heap.size + 1 + 1 := by simp
  have HC := Lib.hid (hc0.out.keep own0.below (Nat.le_refl _))
  clear hc hc0
  have t0 : ((w.alloc (.cells #[.slice c.ta c.tabs.length c.tc, .slice c.la c.lamps.length c.lc] 25)).alloc (.cells #[.int .i64 0, .int .i64 0] 35)).cell? ⟨w.heap.size, 0, none⟩ = some (.slice c.ta c.tabs.length c.tc) := by simp [go_sem]
  have t1 : ((w.alloc (.cells #[.slice c.ta c.tabs.length c.tc, .slice c.la c.lamps.length c.lc] 25)).alloc (.cells #[.int .i64 0, .int .i64 0] 35)).cell? ⟨w.heap.size, 1, none⟩ = some (.slice c.la c.lamps.length c.lc) := by simp [go_sem]
  have z0 : ((w.alloc (.cells #[.slice c.ta c.tabs.length c.tc, .slice c.la c.lamps.length c.lc] 25)).alloc (.cells #[.int .i64 0, .int .i64 0] 35)).cell? ⟨w.heap.size + 1, 0, none⟩ = some (.int .i64 0) := by simp [go_sem]
  have z1 : ((w.alloc (.cells #[.slice c.ta c.tabs.length c.tc, .slice c.la c.lamps.length c.lc] 25)).alloc (.cells #[.int .i64 0, .int .i64 0] 35)).cell? ⟨w.heap.size + 1, 1, none⟩ = some (.int .i64 0) := by simp [go_sem]
  have z2 : ((w.alloc (.cells #[.slice c.ta c.tabs.length c.tc, .slice c.la c.lamps.length c.lc] 25)).alloc (.cells #[.int .i64 0, .int .i64 0] 35)).frozen? ⟨w.heap.size + 1, 0, none⟩ = false := by simp [go_sem]
  have z3 : ((w.alloc (.cells #[.slice c.ta c.tabs.length c.tc, .slice c.la c.lamps.length c.lc] 25)).alloc (.cells #[.int .i64 0, .int .i64 0] 35)).frozen? ⟨w.heap.size + 1, 1, none⟩ = false := by simp [go_sem]
  generalize hW0 : ((w.alloc (.cells #[.slice c.ta c.tabs.length c.tc, .slice c.la c.lamps.length c.lc] 25)).alloc (.cells #[.int .i64 0, .int .i64 0] 35)) = W0 at *
  have T0 := Lib.hid t0
  have T1 := Lib.hid t1
  have CZ := Lib.hid (show ∀ (Wz : World), Own W0.heap.size W0 Wz → (Wz.cell? ⟨w.heap.size + 1, 0, none⟩ = some (.int .i64 0) ∧ Wz.cell? ⟨w.heap.size + 1, 1, none⟩ = some (.int .i64 0) ∧ Wz.frozen? ⟨w.heap.size + 1, 0, none⟩ = false ∧ Wz.frozen? ⟨w.heap.size + 1, 1, none⟩ = false) from fun Wz hk => by
    have hs : w.heap.size + 1 < W0.heap.size := by rw [sz0]; omega
    exact ⟨(hk.cell (p := ⟨w.heap.size + 1, 0, none⟩) hs).trans z0, (hk.cell (p := ⟨w.heap.size + 1, 1, none⟩) hs).trans z1, (hk.frozen (p := ⟨w.heap.size + 1, 0, none⟩) hs).trans z2, (hk.frozen (p := ⟨w.heap.size + 1, 1, none⟩) hs).trans z3⟩)
  have SZ := Lib.hid sz0
  clear z0 z1 z2 z3 sz0
  have K := Lib.hid (rlamped_any c n W0 (HC.out.more (by rw [SZ.out]; omega)))
  unfold Cat.tv Cat.lv at K
  have HE : Hid (pwE c n v = if errOf c n c.lamps.length ≠ 0 then errOf c n c.lamps.length else if inB v 0 1000 = true then 0 else 7) := rfl
  have HL : Hid (pwLoN c n v = if pwE c n v ≠ 0 then 0 else pwLo (lmpAt c.lamps n.toNat) v) := rfl
  have HH : Hid (pwHiN c n v = if pwE c n v ≠ 0 then 0 else pwHi (lmpAt c.lamps n.toNat) v) := rfl
  have OZ := Lib.hid (fun (Wz : World) (hb : Own W0.heap.size W0 Wz) => own0.trans (hb.mono (show w.heap.size ≤ W0.heap.size by rw [SZ.out]; omega)))
  unfold maxLen at hml
  by_cases hz : errOf c n c.lamps.length = 0
  case neg =>
    have HF : Hid (pwE c n v = errOf c n c.lamps.length) := HE.out.trans (if_pos hz)
    have HF1 : Hid (pwLoN c n v = 0) := HL.out.trans (if_pos (by rw [HF.out]; exact hz))
    have HF2 : Hid (pwHiN c n v = 0) := HH.out.trans (if_pos (by rw [HF.out]; exact hz))
    have b2 : (errOf c n c.lamps.length != 0) = true := by simpa using hz
    have b3 : (errOf c n c.lamps.length == 0) = false := by simpa using hz
    clear hz
    go_enter Try.func30, Try.ntmps30
    go_wp2_with fail
    (try rw [hW0])
    refine K.out.mono ?_
    rintro e w1 ⟨rfl, hb1⟩
    clear t0 t1
    obtain ⟨z0, z1, z2, z3⟩ := CZ.out w1 hb1
    go_wp2_with fail
    refine bodyPost_ret (v := enclE 0 0 (errOf c n c.lamps.length)) (by simp [results, Try.results30, go_sem, z0, z1]) rfl ⟨by rw [HF.out, HF1.out, HF2.out], ?_⟩
    exact ((OZ.out _ hb1).setCell (p := ⟨w.heap.size + 1, 0, none⟩) (by show w.heap.size ≤ w.heap.size + 1; omega) _).setCell (p := ⟨w.heap.size + 1, 1, none⟩) (by show w.heap.size ≤ w.heap.size + 1; omega) _
  case pos =>
    obtain ⟨ok, hn0, hn1⟩ := errOf_ok hz
    have HZ := Lib.hid hz
    have HE2 : Hid (pwE c n v = if inB v 0 1000 = true then 0 else 7) := HE.out.trans (if_neg (fun hh => hh hz))
    clear hz HE
    obtain ⟨k, rfl⟩ := Int.eq_ofNat_of_zero_le hn0
    have hm : k < c.lamps.length := by omega
    cases hr : inB v 0 1000
    case false =>
      have HE3 : Hid (pwE c k v = 7) := HE2.out.trans (if_neg (by rw [hr]; decide))
      have HF1 : Hid (pwLoN c k v = 0) := HL.out.trans (if_pos (by rw [HE3.out]; decide))
      have HF2 : Hid (pwHiN c k v = 0) := HH.out.trans (if_pos (by rw [HE3.out]; decide))
      have HR := Lib.hid hr
      clear hr
      go_enter Try.func30, Try.ntmps30
      go_wp2_with fail
      (try rw [hW0])
      refine K.out.mono ?_
      rintro e w1 ⟨rfl, hb1⟩
      clear t0 t1
      rw [HZ.out]
      obtain ⟨z0, z1, z2, z3⟩ := CZ.out w1 hb1
      go_wp2_with fail
      refine (rin_is HR.out _).mono ?_
      rintro e w2 ⟨rfl, rfl⟩
      go_wp2_with fail
      refine bodyPost_ret (v := enclE 0 0 7) (by simp [results, Try.results30, go_sem, z0, z1]) rfl ⟨by rw [HE3.out, HF1.out, HF2.out], ?_⟩
      exact ((OZ.out _ hb1).setCell (p := ⟨w.heap.size + 1, 0, none⟩) (by show w.heap.size ≤ w.heap.size + 1; omega) _).setCell (p := ⟨w.heap.size + 1, 1, none⟩) (by show w.heap.size ≤ w.heap.size + 1; omega) _
    case true =>
      have HE3 : Hid (pwE c k v = 0) := HE2.out.trans (if_pos hr)
      have HF1 : Hid (pwLoN c k v = pwLo (lmpAt c.lamps k) v) := HL.out.trans (if_neg (by rw [HE3.out]; exact fun hh => hh rfl))
      have HF2 : Hid (pwHiN c k v = pwHi (lmpAt c.lamps k) v) := HH.out.trans (if_neg (by rw [HE3.out]; exact fun hh => hh rfl))
      have okl := ok.lmp k hm
      have HR := Lib.hid hr
      obtain ⟨v0, v1⟩ := inB_iff.1 hr
      clear hr
      have s0 := okl.s0
      have s1 := okl.s1
      have p1 := okl.p1
      have o0 := okl.o0
      have o1 := okl.o1
      have M1 := mul_bd (x := (lmpAt c.lamps k).power - (lmpAt c.lamps k).standing) (X := 5000000) (y := v) (Y := 1000) (by omega) (by omega) v0 v1
      have e1 : IntKind.i64.wrap (1000 * (lmpAt c.lamps k).standing) = 1000 * (lmpAt c.lamps k).standing := IntWalk.i64_in _ (by omega)
      have e2 : IntKind.i64.wrap ((lmpAt c.lamps k).power - (lmpAt c.lamps k).standing) = (lmpAt c.lamps k).power - (lmpAt c.lamps k).standing := IntWalk.i64_in _ (by omega)
      have e3 : IntKind.i64.wrap (((lmpAt c.lamps k).power - (lmpAt c.lamps k).standing) * v) = ((lmpAt c.lamps k).power - (lmpAt c.lamps k).standing) * v := IntWalk.i64_in _ (by omega)
      obtain ⟨T, hT⟩ : ∃ T, T = 1000 * (lmpAt c.lamps k).standing + ((lmpAt c.lamps k).power - (lmpAt c.lamps k).standing) * v := ⟨_, rfl⟩
      have e4 : IntKind.i64.wrap (1000 * (lmpAt c.lamps k).standing + ((lmpAt c.lamps k).power - (lmpAt c.lamps k).standing) * v) = T := by rw [hT]; exact IntWalk.i64_in _ (by omega)
      have T0' : 0 ≤ T ∧ T ≤ 10000000000 := by omega
      have e5 : IntKind.i64.wrap (1000 - (lmpAt c.lamps k).tol) = 1000 - (lmpAt c.lamps k).tol := IntWalk.i64_in _ (by omega)
      have e6 : IntKind.i64.wrap (1000 + (lmpAt c.lamps k).tol) = 1000 + (lmpAt c.lamps k).tol := IntWalk.i64_in _ (by omega)
      have M2 := mul_bd (y := 1000 - (lmpAt c.lamps k).tol) (Y := 1000) T0'.1 T0'.2 (by omega) (by omega)
      have M3 := mul_bd (y := 1000 + (lmpAt c.lamps k).tol) (Y := 2000) T0'.1 T0'.2 (by omega) (by omega)
      have e7 : IntKind.i64.wrap (T * (1000 - (lmpAt c.lamps k).tol)) = T * (1000 - (lmpAt c.lamps k).tol) := IntWalk.i64_in _ (by omega)
      have e8 : IntKind.i64.wrap (T * (1000 + (lmpAt c.lamps k).tol)) = T * (1000 + (lmpAt c.lamps k).tol) := IntWalk.i64_in _ (by omega)
      have DN := Lib.hid (fun W => rdown_any (T * (1000 - (lmpAt c.lamps k).tol)) 1000000 W (by omega) (by omega) (by omega) (by omega))
      have UP := Lib.hid (fun W => rup_any (T * (1000 + (lmpAt c.lamps k).tol)) 1000000 W (by omega) (by omega) (by omega) (by omega))
      have HG1 : Hid (pwLo (lmpAt c.lamps k) v = (T * (1000 - (lmpAt c.lamps k).tol)) / 1000000) := by show pwLo _ v = _; unfold pwLo pwT; rw [hT]; congr 3; exact Int.mul_comm _ _
      have HG2 : Hid (pwHi (lmpAt c.lamps k) v = upD (T * (1000 + (lmpAt c.lamps k).tol)) 1000000) := by show pwHi _ v = _; unfold pwHi pwT; rw [hT]; congr 3; exact Int.mul_comm _ _
      clear M1 M2 M3 T0' s0 s1 p1 o0 o1
      have HT := Lib.hid hT
      clear hT
      go_enter Try.func30, Try.ntmps30
      go_wp2_with fail
      (try rw [hW0])
      refine K.out.mono ?_
      rintro e w1 ⟨rfl, hb1⟩
      rw [HZ.out]
      have s2 : w.heap.size < W0.heap.size := by rw [SZ.out]; omega
      have s3 := hb1.size
      obtain ⟨b, o, ha, hb, ht⟩ := lmpAt_cells (HC.out.keep hb1.below (by rw [SZ.out]; omega)) hm
      clear t0 t1
      have t1 := (hb1.cell (p := ⟨w.heap.size, 1, none⟩) s2).trans T1.out
      rw [ha] at t1
      have OW := Lib.hid (OZ.out _ hb1)
      obtain ⟨z0, z1, z2, z3⟩ := CZ.out w1 hb1
      obtain ⟨d0, d1, c0, c1, c2, c3, c4, c5, c6, c7, c8, c9, c10, c11, c12, c13⟩ := ht
      have ne1 : w.heap.size + 1 ≠ w1.heap.size := by have := SZ.out; omega
      have n1 : (0 : Int) ≤ (k : Int) := by omega
      have n2 : (k : Int) < (c.lamps.length : Int) := by omega
      clear ha d0
      go_wp2_with fail
      refine (rin_is HR.out _).mono ?_
      rintro e w2 ⟨rfl, rfl⟩
      go_wp2_with fail
      have hS6 : (w1.alloc (.cells #[.string (lmpAt c.lamps k).name, .int .i64 (lmpAt c.lamps k).table, .int .i64 (lmpAt c.lamps k).kind, .int .i64 (lmpAt c.lamps k).lumens, .int .i64 (lmpAt c.lamps k).power, .int .i64 (lmpAt c.lamps k).standing, .int .i64 (lmpAt c.lamps k).tol, .int .i64 (lmpAt c.lamps k).alo, .int .i64 (lmpAt c.lamps k).ahi, .int .i64 (lmpAt c.lamps k).dlo, .int .i64 (lmpAt c.lamps k).dhi, .int .i64 (lmpAt c.lamps k).life, .int .i64 (lmpAt c.lamps k).dim, .int .i64 (lmpAt c.lamps k).rest] 82)).cell? ⟨w1.heap.size, 6, none⟩ = some (.int .i64 (lmpAt c.lamps k).tol) := by simp [go_sem]
      have OW2 := Lib.hid (OW.out.alloc (OW.out.size) (.cells #[.string (lmpAt c.lamps k).name, .int .i64 (lmpAt c.lamps k).table, .int .i64 (lmpAt c.lamps k).kind, .int .i64 (lmpAt c.lamps k).lumens, .int .i64 (lmpAt c.lamps k).power, .int .i64 (lmpAt c.lamps k).standing, .int .i64 (lmpAt c.lamps k).tol, .int .i64 (lmpAt c.lamps k).alo, .int .i64 (lmpAt c.lamps k).ahi, .int .i64 (lmpAt c.lamps k).dlo, .int .i64 (lmpAt c.lamps k).dhi, .int .i64 (lmpAt c.lamps k).life, .int .i64 (lmpAt c.lamps k).dim, .int .i64 (lmpAt c.lamps k).rest] 82))
      have q0 := hb1.alloc hb1.size (.cells #[.string (lmpAt c.lamps k).name, .int .i64 (lmpAt c.lamps k).table, .int .i64 (lmpAt c.lamps k).kind, .int .i64 (lmpAt c.lamps k).lumens, .int .i64 (lmpAt c.lamps k).power, .int .i64 (lmpAt c.lamps k).standing, .int .i64 (lmpAt c.lamps k).tol, .int .i64 (lmpAt c.lamps k).alo, .int .i64 (lmpAt c.lamps k).ahi, .int .i64 (lmpAt c.lamps k).dlo, .int .i64 (lmpAt c.lamps k).dhi, .int .i64 (lmpAt c.lamps k).life, .int .i64 (lmpAt c.lamps k).dim, .int .i64 (lmpAt c.lamps k).rest] 82)
      have Q0 := Lib.hid q0
      clear c0 c1 c2 c3 c4 c5 c6 c7 c8 c9 c10 c11 c12 c13 z0 z1 z2 z3 q0 t1
      generalize w1.alloc (.cells #[.string (lmpAt c.lamps k).name, .int .i64 (lmpAt c.lamps k).table, .int .i64 (lmpAt c.lamps k).kind, .int .i64 (lmpAt c.lamps k).lumens, .int .i64 (lmpAt c.lamps k).power, .int .i64 (lmpAt c.lamps k).standing, .int .i64 (lmpAt c.lamps k).tol, .int .i64 (lmpAt c.lamps k).alo, .int .i64 (lmpAt c.lamps k).ahi, .int .i64 (lmpAt c.lamps k).dlo, .int .i64 (lmpAt c.lamps k).dhi, .int .i64 (lmpAt c.lamps k).life, .int .i64 (lmpAt c.lamps k).dim, .int .i64 (lmpAt c.lamps k).rest] 82) = W2 at *
      go_still_tail 13, (by kernel_rfl)
      still_call ((DN.out _).mono fun _ _ hh => ⟨hh.1, hh.2.symm⟩)
      repeat still_step
      still_call ((UP.out _).mono fun _ _ hh => ⟨hh.1, hh.2.symm⟩)
      repeat still_step
      refine wpStill_nil ?_
      have k9 := OW2.out.drew
      obtain ⟨z0, z1, z2, z3⟩ := CZ.out W2.drew Q0.out.drew
      change wpList _ _ _ _ _ W2.drew
      generalize W2.drew = W3 at *
      clear hS6
      go_wp2_with fail
      refine bodyPost_ret (v := enclE ((T * (1000 - (lmpAt c.lamps k).tol)) / 1000000) (upD (T * (1000 + (lmpAt c.lamps k).tol)) 1000000) 0) (by simp [results, Try.results30, go_sem, z0, z1]) rfl ⟨by rw [HE3.out, HF1.out, HF2.out, HG1.out, HG2.out], ?_⟩
      exact (k9.setCell (p := ⟨w.heap.size + 1, 0, none⟩) (by show w.heap.size ≤ w.heap.size + 1; omega) _).setCell (p := ⟨w.heap.size + 1, 1, none⟩) (by show w.heap.size ≤ w.heap.size + 1; omega) _

end Go.Proofs.Ythmelkakgbchbaa
