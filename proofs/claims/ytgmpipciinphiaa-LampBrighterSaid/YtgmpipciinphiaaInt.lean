/- Intensity, of the code and of the reference. -/
import Derived.Test.YtgmpipciinphiaaRit
import Derived.Test.YtgmpipciinphiaaRer
import Derived.Test.YtgmpipciinphiaaOve
namespace Go.Proofs.Ytgmpipciinphiaa
set_option linter.unusedSimpArgs false
set_option linter.unusedVariables false
open Go.RowKit
attribute [local go_sem ↓] Go.wp_at_zero Go.wp_at_succ

/-- over a point there is nothing but the point -/
theorem stops_pt {us : List Int} (ok : ListOk us) {f h u : Int} (h0 : 1 ≤ h) (h1 : h ≤ 30000) (f0 : -200000000 ≤ f) (f1 : f ≤ 200000000) (hm : u ∈ stopsL us f f h) : u = f ∧ inB2 us h f f = true := by
  obtain ⟨hb, _, _⟩ := mem_stops ok h0 h1 f0 f1 f0 f1 hm
  have e : u = f := by
    unfold stopsL at hm
    rcases List.mem_append.1 hm with hm | hm
    · unfold endsL at hm
      rcases List.mem_append.1 hm with hm | hm
      · exact (mem_ends hm).1
      · exact (mem_ends hm).1
    · unfold mids at hm
      obtain ⟨v, hv, rfl⟩ := List.mem_map.1 hm
      obtain ⟨_, hv⟩ := List.mem_filter.1 hv
      have := inB_iff.1 hv
      omega
  subst e
  exact ⟨rfl, hb⟩
theorem fnd_point {t : Tab} (ok : TabOk t) {x y h : Int} (h0 : 1 ≤ h) (h1 : h ≤ 30000) (a0 : -200000 ≤ x) (a1 : x ≤ 200000) (b0 : -200000 ≤ y) (b1 : y ≤ 200000) :
    hullLo (fnd t x x y y h) = (rval t h (1000 * x) (1000 * y)).1 ∧ hullHi (fnd t x x y y h) = (rval t h (1000 * x) (1000 * y)).2 := by
  have hn := fnd_ne (t := t) (h := h) (Int.le_refl x) (Int.le_refl y)
  have key : ∀ p ∈ fnd t x x y y h, p = rval t h (1000 * x) (1000 * y) := fun p hp => by
    unfold rval insB
    rcases mem_fnd.1 hp with ⟨u, v, hu, hv, rfl⟩ | ⟨hi, rfl⟩
    · obtain ⟨rfl, k1⟩ := stops_pt ok.us h0 h1 (by omega) (by omega) hu
      obtain ⟨rfl, k2⟩ := stops_pt ok.vs h0 h1 (by omega) (by omega) hv
      rw [k1, k2]; rfl
    · rw [hi]; rfl
  obtain ⟨p, hp, e⟩ := hullLo_is hn
  obtain ⟨q, hq, e'⟩ := hullHi_is hn
  exact ⟨by rw [e, key p hp], by rw [e', key q hq]⟩

set_option maxRecDepth 100000 in
set_option maxHeartbeats 2000000 in
theorem Intensity_any (c : Cat) (n x y h : Int) (w : World) (hc : CatIn w.heap.size c w) :
    Calls Try.prog 21 #[.agg #[c.tv, c.lv], .int .i64 n, .int .i64 x, .int .i64 y, .int .i64 h] w fun e w' => e = .returned (enclE (ovLo c n x x y y h) (ovHi c n x x y y h) (ovE c n x x y y h)) ∧ Below w.heap.size w w' := by
  have HC := Lib.hid hc
  clear hc
  have OV := Lib.hid (fun W (g : CatIn W.heap.size c W) => Over_any c n x x y y h W g)
  unfold Cat.tv Cat.lv at *
  have bw0 : Below w.heap.size w ((w.alloc (.cells #[.slice c.ta c.tabs.length c.tc, .slice c.la c.lamps.length c.lc] 25)).alloc (.cells #[.int .i64 0, .int .i64 0] 35)) := ((Below.refl _ _).alloc (Nat.le_refl _) _).alloc (by simp) _
  have bz0 : Bq (w.heap.size + 1) 0 0 ((w.alloc (.cells #[.slice c.ta c.tabs.length c.tc, .slice c.la c.lamps.length c.lc] 25)).alloc (.cells #[.int .i64 0, .int .i64 0] 35)) := by constructor <;> simp [go_sem]
  have CI := Lib.hid (fun (W : World) (g : Below w.heap.size w W) => (HC.out.keep g (Nat.le_refl _)).more g.size)
  have BW0 := Lib.hid bw0
  have BZ0 := Lib.hid bz0
  clear bw0 bz0
  generalize ovLo c n x x y y h = f0 at *
  generalize ovHi c n x x y y h = f1 at *
  generalize ovE c n x x y y h = f2 at *
  go_enter Try.func21, Try.ntmps21
  go_wp2_with fail
  generalize ((w.alloc (.cells #[.slice c.ta c.tabs.length c.tc, .slice c.la c.lamps.length c.lc] 25)).alloc (.cells #[.int .i64 0, .int .i64 0] 35)) = W0 at *
  refine (OV.out _ (CI.out _ BW0.out)).mono ?_
  rintro e w1 ⟨rfl, o1⟩
  obtain ⟨z0, z1, z2, z3, _⟩ := BZ0.out.keep o1 BZ0.out.lt
  go_wp2_with fail
  refine bodyPost_ret (v := enclE f0 f1 f2) (by simp [results, Try.results21, go_sem, z0, z1]) rfl ⟨rfl, ?_⟩
  exact ((BW0.out.trans (o1.mono BW0.out.size)).setCell (p := ⟨w.heap.size + 1, 0, none⟩) (by show w.heap.size ≤ w.heap.size + 1; omega) _).setCell (p := ⟨w.heap.size + 1, 1, none⟩) (by show w.heap.size ≤ w.heap.size + 1; omega) _

theorem roffset_is {n : Int} {x : Bool} (hx : inB n (-200000) 200000 = x) (w : World) : Calls Try.prog 47 #[.int .i64 n] w fun e w' => e = .returned (.bool x) ∧ w = w' := by
  go_enter Try.func47, Try.ntmps47
  go_wp2_with fail
  refine (rin_is hx _).mono ?_
  rintro e w1 ⟨rfl, rfl⟩
  go_wp2_with fail
  go_ret
  exact ⟨rfl, rfl⟩

/-- a point's error -/
def ptB (x y h : Int) : Bool := inB h 1 30000 && (inB x (-200000) 200000 && inB y (-200000) 200000)
theorem ptB_rect (x y h : Int) : rectE x x y y h = if ptB x y h = true then 0 else 7 := by
  have e0 : (inB h 1 30000 && allB [x, x, y, y] (-200000) 200000) = ptB x y h := by
    unfold ptB allB
    simp only [List.all_cons, List.all_nil]
    cases inB h 1 30000 <;> cases inB x (-200000) 200000 <;> cases inB y (-200000) 200000 <;> rfl
  have e1 : decide (x < x) = false := decide_eq_false (by omega)
  have e2 : decide (y < y) = false := decide_eq_false (by omega)
  unfold rectE
  rw [e0, e1, e2]
  by_cases hp : ptB x y h = true
  · rw [if_neg (by rw [hp]; decide), if_neg (by decide), if_pos hp]
  · have hp' : ptB x y h = false := by simpa using hp
    rw [if_pos hp', if_neg hp]

set_option maxRecDepth 100000 in
set_option maxHeartbeats 4000000 in
theorem rIntensity_any (c : Cat) (n x y h : Int) (w : World) (hc : CatIn w.heap.size c w) :
    Calls Try.prog 22 #[.agg #[c.tv, c.lv], .int .i64 n, .int .i64 x, .int .i64 y, .int .i64 h] w fun e w' => e = .returned (enclE (ovLo c n x x y y h) (ovHi c n x x y y h) (ovE c n x x y y h)) ∧ Own w.heap.size w w' := by
  have HC := Lib.hid hc
  clear hc
  have hmt := HC.out.tabs.1
  unfold maxLen at hmt
  have TD := Lib.hid (fun W (g : CatIn W.heap.size c W) => rtabled_any c n W g)
  unfold Cat.tv Cat.lv at *
  have bw0 : Own w.heap.size w ((w.alloc (.cells #[.slice c.ta c.tabs.length c.tc, .slice c.la c.lamps.length c.lc] 25)).alloc (.cells #[.int .i64 0, .int .i64 0] 35)) := ((Own.refl _ _).alloc (Nat.le_refl _) _).alloc (by simp) _
  have bz0 : Bq (w.heap.size + 1) 0 0 ((w.alloc (.cells #[.slice c.ta c.tabs.length c.tc, .slice c.la c.lamps.length c.lc] 25)).alloc (.cells #[.int .i64 0, .int .i64 0] 35)) := by constructor <;> simp [go_sem]
  have t00 : ((w.alloc (.cells #[.slice c.ta c.tabs.length c.tc, .slice c.la c.lamps.length c.lc] 25)).alloc (.cells #[.int .i64 0, .int .i64 0] 35)).cell? ⟨w.heap.size, 0, none⟩ = some (.slice c.ta c.tabs.length c.tc) := by simp [go_sem]
  have CI := Lib.hid (fun (W : World) (g : Below w.heap.size w W) => (HC.out.keep g (Nat.le_refl _)).more g.size)
  have BW0 := Lib.hid bw0
  have BZ0 := Lib.hid bz0
  have T00 := Lib.hid t00
  clear bw0 bz0 t00
  have HE : Hid (ovE c n x x y y h = if errOf c n c.tabs.length ≠ 0 then errOf c n c.tabs.length else rectE x x y y h) := rfl
  have HL : Hid (ovLo c n x x y y h = if ovE c n x x y y h ≠ 0 then 0 else hullLo (fnd (tabAt c.tabs n.toNat) x x y y h)) := rfl
  have HH : Hid (ovHi c n x x y y h = if ovE c n x x y y h ≠ 0 then 0 else hullHi (fnd (tabAt c.tabs n.toNat) x x y y h)) := rfl
  by_cases hz : errOf c n c.tabs.length = 0
  case neg =>
    have HF : Hid (ovE c n x x y y h = errOf c n c.tabs.length) := HE.out.trans (if_pos hz)
    have HF1 : Hid (ovLo c n x x y y h = 0) := HL.out.trans (if_pos (by rw [HF.out]; exact hz))
    have HF2 : Hid (ovHi c n x x y y h = 0) := HH.out.trans (if_pos (by rw [HF.out]; exact hz))
    have b2 : (errOf c n c.tabs.length != 0) = true := by simpa using hz
    have b3 : (errOf c n c.tabs.length == 0) = false := by simpa using hz
    clear hz
    generalize errOf c n c.tabs.length = e0 at *
    go_enter Try.func22, Try.ntmps22
    go_wp2_with fail
    generalize ((w.alloc (.cells #[.slice c.ta c.tabs.length c.tc, .slice c.la c.lamps.length c.lc] 25)).alloc (.cells #[.int .i64 0, .int .i64 0] 35)) = W0 at *
    refine (TD.out _ (CI.out _ BW0.out.below)).mono ?_
    rintro e w1 ⟨rfl, o1⟩
    obtain ⟨z0, z1, z2, z3, _⟩ := BZ0.out.keep o1.below BZ0.out.lt
    go_wp2_with fail
    refine bodyPost_ret (v := enclE 0 0 e0) (by simp [results, Try.results22, go_sem, z0, z1]) rfl ⟨by rw [HF.out, HF1.out, HF2.out], ?_⟩
    exact ((BW0.out.trans (o1.mono BW0.out.size)).setCell (p := ⟨w.heap.size + 1, 0, none⟩) (by show w.heap.size ≤ w.heap.size + 1; omega) _).setCell (p := ⟨w.heap.size + 1, 1, none⟩) (by show w.heap.size ≤ w.heap.size + 1; omega) _
  case pos =>
    obtain ⟨ok, hn0, hn1⟩ := errOf_ok hz
    have HZ := Lib.hid hz
    have HE2 : Hid (ovE c n x x y y h = if ptB x y h = true then 0 else 7) := (HE.out.trans (if_neg (fun hh => hh hz))).trans (ptB_rect x y h)
    rw [hz] at TD
    clear hz HE
    obtain ⟨m, rfl⟩ := Int.eq_ofNat_of_zero_le hn0
    have hm : m < c.tabs.length := by omega
    have okt := ok.tab m hm
    have HPT : Hid (ptB x y h = (inB h 1 30000 && (inB x (-200000) 200000 && inB y (-200000) 200000))) := rfl
    cases q0 : inB h 1 30000
    case false =>
      have HPF : Hid (ptB x y h = false) := by show ptB x y h = false; rw [HPT.out, q0]; simp
      have HE3 : Hid (ovE c m x x y y h = 7) := HE2.out.trans (if_neg (by rw [HPF.out]; decide))
      have HF1 : Hid (ovLo c m x x y y h = 0) := HL.out.trans (if_pos (by rw [HE3.out]; decide))
      have HF2 : Hid (ovHi c m x x y y h = 0) := HH.out.trans (if_pos (by rw [HE3.out]; decide))
      have Q0 := Lib.hid q0
      clear q0
      go_enter Try.func22, Try.ntmps22
      go_wp2_with fail
      generalize ((w.alloc (.cells #[.slice c.ta c.tabs.length c.tc, .slice c.la c.lamps.length c.lc] 25)).alloc (.cells #[.int .i64 0, .int .i64 0] 35)) = W0 at *
      refine (TD.out _ (CI.out _ BW0.out.below)).mono ?_
      rintro e w1 ⟨rfl, o1⟩
      obtain ⟨z0, z1, z2, z3, _⟩ := BZ0.out.keep o1.below BZ0.out.lt
      go_wp2_with fail
      refine (rin_is Q0.out _).mono ?_
      rintro e w2 ⟨rfl, rfl⟩
      go_wp2_with fail
      refine bodyPost_ret (v := enclE 0 0 7) (by simp [results, Try.results22, go_sem, z0, z1]) rfl ⟨by rw [HE3.out, HF1.out, HF2.out], ?_⟩
      exact ((BW0.out.trans (o1.mono BW0.out.size)).setCell (p := ⟨w.heap.size + 1, 0, none⟩) (by show w.heap.size ≤ w.heap.size + 1; omega) _).setCell (p := ⟨w.heap.size + 1, 1, none⟩) (by show w.heap.size ≤ w.heap.size + 1; omega) _
    case true =>
      cases q1 : inB x (-200000) 200000
      case false =>
        have HPF : Hid (ptB x y h = false) := by show ptB x y h = false; rw [HPT.out, q1]; simp
        have HE3 : Hid (ovE c m x x y y h = 7) := HE2.out.trans (if_neg (by rw [HPF.out]; decide))
        have HF1 : Hid (ovLo c m x x y y h = 0) := HL.out.trans (if_pos (by rw [HE3.out]; decide))
        have HF2 : Hid (ovHi c m x x y y h = 0) := HH.out.trans (if_pos (by rw [HE3.out]; decide))
        have Q0 := Lib.hid q0
        have Q1 := Lib.hid q1
        clear q0 q1
        go_enter Try.func22, Try.ntmps22
        go_wp2_with fail
        generalize ((w.alloc (.cells #[.slice c.ta c.tabs.length c.tc, .slice c.la c.lamps.length c.lc] 25)).alloc (.cells #[.int .i64 0, .int .i64 0] 35)) = W0 at *
        refine (TD.out _ (CI.out _ BW0.out.below)).mono ?_
        rintro e w1 ⟨rfl, o1⟩
        obtain ⟨z0, z1, z2, z3, _⟩ := BZ0.out.keep o1.below BZ0.out.lt
        go_wp2_with fail
        refine (rin_is Q0.out _).mono ?_
        rintro e w2 ⟨rfl, rfl⟩
        go_wp2_with fail
        refine (roffset_is Q1.out _).mono ?_
        rintro e w2 ⟨rfl, rfl⟩
        go_wp2_with fail
        refine bodyPost_ret (v := enclE 0 0 7) (by simp [results, Try.results22, go_sem, z0, z1]) rfl ⟨by rw [HE3.out, HF1.out, HF2.out], ?_⟩
        exact ((BW0.out.trans (o1.mono BW0.out.size)).setCell (p := ⟨w.heap.size + 1, 0, none⟩) (by show w.heap.size ≤ w.heap.size + 1; omega) _).setCell (p := ⟨w.heap.size + 1, 1, none⟩) (by show w.heap.size ≤ w.heap.size + 1; omega) _
      case true =>
        cases q2 : inB y (-200000) 200000
        case false =>
          have HPF : Hid (ptB x y h = false) := by show ptB x y h = false; rw [HPT.out, q2]; simp
          have HE3 : Hid (ovE c m x x y y h = 7) := HE2.out.trans (if_neg (by rw [HPF.out]; decide))
          have HF1 : Hid (ovLo c m x x y y h = 0) := HL.out.trans (if_pos (by rw [HE3.out]; decide))
          have HF2 : Hid (ovHi c m x x y y h = 0) := HH.out.trans (if_pos (by rw [HE3.out]; decide))
          have Q0 := Lib.hid q0
          have Q1 := Lib.hid q1
          have Q2 := Lib.hid q2
          clear q0 q1 q2
          go_enter Try.func22, Try.ntmps22
          go_wp2_with fail
          generalize ((w.alloc (.cells #[.slice c.ta c.tabs.length c.tc, .slice c.la c.lamps.length c.lc] 25)).alloc (.cells #[.int .i64 0, .int .i64 0] 35)) = W0 at *
          refine (TD.out _ (CI.out _ BW0.out.below)).mono ?_
          rintro e w1 ⟨rfl, o1⟩
          obtain ⟨z0, z1, z2, z3, _⟩ := BZ0.out.keep o1.below BZ0.out.lt
          go_wp2_with fail
          refine (rin_is Q0.out _).mono ?_
          rintro e w2 ⟨rfl, rfl⟩
          go_wp2_with fail
          refine (roffset_is Q1.out _).mono ?_
          rintro e w2 ⟨rfl, rfl⟩
          go_wp2_with fail
          refine (roffset_is Q2.out _).mono ?_
          rintro e w2 ⟨rfl, rfl⟩
          go_wp2_with fail
          refine bodyPost_ret (v := enclE 0 0 7) (by simp [results, Try.results22, go_sem, z0, z1]) rfl ⟨by rw [HE3.out, HF1.out, HF2.out], ?_⟩
          exact ((BW0.out.trans (o1.mono BW0.out.size)).setCell (p := ⟨w.heap.size + 1, 0, none⟩) (by show w.heap.size ≤ w.heap.size + 1; omega) _).setCell (p := ⟨w.heap.size + 1, 1, none⟩) (by show w.heap.size ≤ w.heap.size + 1; omega) _
        case true =>
          have HPF : Hid (ptB x y h = true) := by show ptB x y h = true; rw [HPT.out, q0, q1, q2]; rfl
          have HE3 : Hid (ovE c m x x y y h = 0) := HE2.out.trans (if_pos HPF.out)
          obtain ⟨h0, h1⟩ := inB_iff.1 q0
          obtain ⟨a0, a1⟩ := inB_iff.1 q1
          obtain ⟨b0, b1⟩ := inB_iff.1 q2
          obtain ⟨f0, f1⟩ := fnd_point okt h0 h1 a0 a1 b0 b1
          have HF1 : Hid (ovLo c m x x y y h = (rval (tabAt c.tabs m) h (1000 * x) (1000 * y)).1) := (HL.out.trans (if_neg (by rw [HE3.out]; exact fun hh => hh rfl))).trans f0
          have HF2 : Hid (ovHi c m x x y y h = (rval (tabAt c.tabs m) h (1000 * x) (1000 * y)).2) := (HH.out.trans (if_neg (by rw [HE3.out]; exact fun hh => hh rfl))).trans f1
          have Q0 := Lib.hid q0
          have Q1 := Lib.hid q1
          have Q2 := Lib.hid q2
          have e1 : IntKind.i64.wrap (1000 * x) = 1000 * x := IntWalk.i64_in _ (by omega)
          have e2 : IntKind.i64.wrap (1000 * y) = 1000 * y := IntWalk.i64_in _ (by omega)
          clear q0 q1 q2 f0 f1 HL HH
          have RI : Hid (∀ (W : World), IntsIn W.heap.size (tabAt c.tabs m).us.a (tabAt c.tabs m).us.xs W → IntsIn W.heap.size (tabAt c.tabs m).vs.a (tabAt c.tabs m).vs.xs W → RowsIn W.heap.size (tabAt c.tabs m).ra (tabAt c.tabs m).rows W → Calls Try.prog 48 #[.agg #[.string (tabAt c.tabs m).name, .slice (tabAt c.tabs m).us.a (tabAt c.tabs m).us.xs.length (tabAt c.tabs m).us.c, .slice (tabAt c.tabs m).vs.a (tabAt c.tabs m).vs.xs.length (tabAt c.tabs m).vs.c, .slice (tabAt c.tabs m).ra (tabAt c.tabs m).rows.length (tabAt c.tabs m).rc, .int .i64 (tabAt c.tabs m).side, .int .i64 (tabAt c.tabs m).sky], .int .i64 (1000 * x), .int .i64 (1000 * y), .int .i64 h] W fun e w' => e = .returned (encl (rval (tabAt c.tabs m) h (1000 * x) (1000 * y)).1 (rval (tabAt c.tabs m) h (1000 * x) (1000 * y)).2) ∧ Own W.heap.size W w') := fun W g1 g2 g3 => by
            unfold rval
            cases hi : insB (tabAt c.tabs m) (1000 * x) (1000 * y) h
            · exact rint_out _ _ _ _ W okt g1 g2 h0 h1 hi
            · exact rint_in _ _ _ _ W okt g1 g2 g3 h0 h1 hi
          clear h0 h1 a0 a1 b0 b1
          generalize (rval (tabAt c.tabs m) h (1000 * x) (1000 * y)).1 = r0 at *
          generalize (rval (tabAt c.tabs m) h (1000 * x) (1000 * y)).2 = r1 at *
          go_enter Try.func22, Try.ntmps22
          go_wp2_with fail
          generalize ((w.alloc (.cells #[.slice c.ta c.tabs.length c.tc, .slice c.la c.lamps.length c.lc] 25)).alloc (.cells #[.int .i64 0, .int .i64 0] 35)) = W0 at *
          refine (TD.out _ (CI.out _ BW0.out.below)).mono ?_
          rintro e w1 ⟨rfl, o1⟩
          have OW1 := Lib.hid (BW0.out.trans (o1.mono BW0.out.size))
          obtain ⟨tb, tto, ha, hb, ht⟩ := tabAt_cells (HC.out.keep OW1.out.below (Nat.le_refl _)) hm
          have hlt0 := BZ0.out.lt
          have t0 := (o1.cell (p := ⟨w.heap.size, 0, none⟩) (by show w.heap.size < _; omega)).trans T00.out
          rw [ha] at t0
          obtain ⟨k0, k1, c0, c1, c2, c3, c4, c5, k2, k3, k4⟩ := ht
          unfold Ints.val at c1 c2
          have BZ1 := Lib.hid (BZ0.out.keep o1.below BZ0.out.lt)
          have n1 : (0 : Int) ≤ (m : Int) := by omega
          have n2 : (m : Int) < (c.tabs.length : Int) := by omega
          have RJ := Lib.hid (RI.out w1 (k2.more OW1.out.size) (k3.more OW1.out.size) (k4.more OW1.out.size))
          clear ha k0 k1 k2 k3 k4 RI
          go_wp2_with fail
          refine (rin_is Q0.out _).mono ?_
          rintro e w2 ⟨rfl, rfl⟩
          go_wp2_with fail
          refine (roffset_is Q1.out _).mono ?_
          rintro e w2 ⟨rfl, rfl⟩
          go_wp2_with fail
          refine (roffset_is Q2.out _).mono ?_
          rintro e w2 ⟨rfl, rfl⟩
          go_wp2_with fail
          refine RJ.out.mono ?_
          rintro e w3 ⟨rfl, o3⟩
          obtain ⟨z0, z1, z2, z3, _⟩ := BZ1.out.keep o3.below BZ1.out.lt
          clear t0 c0 c1 c2 c3 c4 c5
          go_wp2_with fail
          refine bodyPost_ret (v := enclE r0 r1 0) (by simp [results, Try.results22, go_sem, z0, z1]) rfl ⟨by rw [HE3.out, HF1.out, HF2.out], ?_⟩
          exact ((OW1.out.trans (o3.mono OW1.out.size)).setCell (p := ⟨w.heap.size + 1, 0, none⟩) (by show w.heap.size ≤ w.heap.size + 1; omega) _).setCell (p := ⟨w.heap.size + 1, 1, none⟩) (by show w.heap.size ≤ w.heap.size + 1; omega) _
end Go.Proofs.Ytgmpipciinphiaa
