/- Whether a dimming is as stated; the level for so many vehicles (code). -/
import Derived.Test.YtjcgojbfjefbcaaDoorDa
import Derived.Test.YtjcgojbfjefbcaaDoorLg
namespace Go.Proofs.YtjcgojbfjefbcaaDoor
set_option linter.unusedSimpArgs false
set_option linter.unusedVariables false
open Go.RowKit SineNear
attribute [local go_sem ↓] Go.wp_at_zero Go.wp_at_succ

/-- a dimming in its box -/
def DimC (b : Nat) (A : Option Addr) (n c : Nat) (up dn : Int) (w : World) : Prop := w.cell? ⟨b, 0, none⟩ = some (.slice A n c) ∧ w.cell? ⟨b, 1, none⟩ = some (.int .i64 up) ∧ w.cell? ⟨b, 2, none⟩ = some (.int .i64 dn) ∧ b < w.heap.size
theorem DimC.lt {b : Nat} {A : Option Addr} {n c : Nat} {up dn : Int} {w : World} (k : DimC b A n c up dn w) : b < w.heap.size := k.2.2.2
theorem DimC.below {b : Nat} {A : Option Addr} {n c : Nat} {up dn : Int} {w w1 : World} (k : DimC b A n c up dn w) (o : Below w.heap.size w w1) : DimC b A n c up dn w1 := by
  obtain ⟨k0, k1, k2, k3⟩ := k
  have := o.size
  exact ⟨(o.cell (p := ⟨b, 0, none⟩) k3).trans k0, (o.cell (p := ⟨b, 1, none⟩) k3).trans k1, (o.cell (p := ⟨b, 2, none⟩) k3).trans k2, by omega⟩
theorem DimC.alloc {b : Nat} {A : Option Addr} {n c : Nat} {up dn : Int} {w : World} (k : DimC b A n c up dn w) (o : Obj) : DimC b A n c up dn (w.alloc o) := k.below ((Below.refl _ _).alloc (Nat.le_refl _) o)
theorem Cel.alloc {b o : Nat} {v : Value} {w : World} (k : Cel b o v w) (x : Obj) : Cel b o v (w.alloc x) := k.below ((Below.refl _ _).alloc (Nat.le_refl _) x)
/-- the rows lie in some block -/
def RowsIn (A : Option Addr) (rs : List Row2) (w : World) : Prop := RowsAt w.heap.size A rs w
theorem RowsIn.below {A : Option Addr} {rs : List Row2} {w w1 : World} (k : RowsIn A rs w) (o : Below w.heap.size w w1) : RowsIn A rs w1 := (RowsAt.below k o).more o.size
/-- a row is as stated -/
def rowB (rs : List Row2) (i : Nat) : Bool := frB (nt rs i).1 0 100000 && frB (nt rs i).2 0 1000 && (decide (i = 0) || decide ((nt rs (i - 1)).1 < (nt rs i).1))
def dmB (rs : List Row2) (up dn : Int) : Bool := frB rs.length 1 10 && decide ((nt rs 0).1 = 0) && (List.range rs.length).all (rowB rs) && frB up 1 1000 && frB dn 1 1000
theorem traffic_T (n : Int) : RetT 64 #[.int .i64 n] (.bool (frB n 0 100000)) := by
  intro w
  have C := Lib.hid (from_T n 0 100000)
  go_enter Tryd.func64, Tryd.ntmps64
  go_wp2_with fail
  refine (C.out _).mono ?_
  rintro e w1 ⟨rfl, hq⟩
  go_wp2_with fail
  go_ret
  exact ⟨rfl, hq⟩

theorem dm_no1 {rs : List Row2} {up dn : Int} (h : frB rs.length 1 10 = false) : dmB rs up dn = false := by unfold dmB; rw [h]; rfl
theorem dm_no2 {rs : List Row2} {up dn : Int} (h : (nt rs 0).1 ≠ 0) : dmB rs up dn = false := by unfold dmB; simp [h]
theorem dm_no3 {rs : List Row2} {up dn : Int} (k : Nat) (hk : k < rs.length) (h : rowB rs k = false) : dmB rs up dn = false := by
  have : (List.range rs.length).all (rowB rs) = false := by
    rw [List.all_eq_false]
    exact ⟨k, by simpa using hk, by simp [h]⟩
  unfold dmB; rw [this]; simp
theorem dm_end {rs : List Row2} {up dn : Int} (h1 : frB rs.length 1 10 = true) (h2 : (nt rs 0).1 = 0) (h3 : ∀ j, j < rs.length → rowB rs j = true) : dmB rs up dn = (frB up 1 1000 && frB dn 1 1000) := by
  have : (List.range rs.length).all (rowB rs) = true := by
    rw [List.all_eq_true]
    intro j hj
    exact h3 j (by simpa using hj)
  unfold dmB; rw [h1, this]; simp [h2]

set_option maxRecDepth 100000 in
set_option maxHeartbeats 8000000 in
theorem dimming_any (db : Nat) (A : Option Addr) (c : Nat) (rs : List Row2) (up dn : Int) (w : World) (dc : DimC db A rs.length c up dn w) (ri : RowsIn A rs w) : Calls Tryd.prog 59 #[.pointer (some ⟨db, 0, none⟩)] w fun e w' => e = .returned (.bool (dmB rs up dn)) ∧ Below w.heap.size w w' := by
  have hb : Below w.heap.size w w := Below.refl _ _
  cases h1 : frB rs.length 1 10
  · rw [dm_no1 h1]
    have C1 := from_T (rs.length : Int) 1 10
    rw [h1] at C1
    have C1 := Lib.hid C1
    clear h1
    have HD := Lib.hid dc
    obtain ⟨d0, d1, d2, dl⟩ := dc
    go_enter Tryd.func59, Tryd.ntmps59
    go_wp2_with fail
    have dc := HD.out
    clear d0 d1 d2 dl HD
    refine (C1.out _).mono ?_
    rintro e v1 ⟨rfl, hq⟩
    have dc := dc.below hq
    have ri := ri.below hq
    have hb := hb.trans (hq.mono hb.size)
    clear hq
    go_wp2_with fail
    go_ret
    exact ⟨rfl, hb⟩
  · have hlen := frB_yes h1
    have C1 := from_T (rs.length : Int) 1 10
    rw [h1] at C1
    have C1 := Lib.hid C1
    obtain ⟨rb, ro, rfl, hrb, hrc⟩ := ri (by omega)
    have q0 := (hrc 0 (by omega)).1
    simp only [Nat.zero_mul, Nat.add_zero] at q0
    have p0 : Cel rb ro (.int .i64 (nt rs 0).1) w := ⟨q0, hrb⟩
    have hpos : (0 : Int) < (rs.length : Int) := by omega
    by_cases h2 : (nt rs 0).1 = 0
    · have z1 : ((nt rs 0).1 == 0) = true := by simp [h2]
      have z2 : ((nt rs 0).1 != 0) = false := by simp [h2]
      have EN := Lib.hid (fun (h3 : ∀ j, j < rs.length → rowB rs j = true) => dm_end (up := up) (dn := dn) h1 h2 h3)
      clear hrc q0 h1 h2
      have HD := Lib.hid dc
      obtain ⟨d0, d1, d2, dl⟩ := dc
      go_enter Tryd.func59, Tryd.ntmps59
      go_wp2_with fail
      have dc := HD.out
      clear d0 d1 d2 dl HD
      refine (C1.out _).mono ?_
      rintro e v1 ⟨rfl, hq⟩
      have dc := dc.below hq
      have ri := ri.below hq
      have hb := hb.trans (hq.mono hb.size)
      clear hq
      have p0 := p0.below (show Below w.heap.size w v1 from hb)
      have HD := Lib.hid dc
      obtain ⟨d0, d1, d2, dl⟩ := dc
      have HP := Lib.hid p0
      obtain ⟨p00, p01⟩ := p0
      go_wp2_with fail
      clear p00 p01 HP
      have dc := HD.out
      clear d0 d1 d2 dl HD
      have DC := Lib.hid dc
      have RI := Lib.hid ri
      have HB := Lib.hid hb
      clear dc ri hb p0 z1 z2
      go_loopw [27] (fun i wr => ∃ k : Nat, k ≤ rs.length ∧ i = .int .i64 k ∧ Hid (∀ j, j < k → rowB rs j = true) ∧ Hid (DimC db (some ⟨rb, ro, none⟩) rs.length c up dn wr) ∧ Hid (RowsIn (some ⟨rb, ro, none⟩) rs wr) ∧ Hid (Below w.heap.size w wr)) (fun i _ => rs.length - (intOf i).toNat)
      case atStart => exact ⟨0, by omega, rfl, fun j hj => by omega, DC, RI, HB⟩
      case round =>
        clear DC RI HB
        obtain ⟨k, hk, rfl, hall, hdc, hri, hhb⟩ := hrel
        have dc := hdc.out
        have ri := hri.out
        have hb := hhb.out
        clear hdc hri hhb
        by_cases hlt : k < rs.length
        · obtain ⟨rb', ro', e', hrb', hrc'⟩ := ri (by omega)
          obtain ⟨rfl, rfl⟩ : rb = rb' ∧ ro = ro' := by injection e' with e'; injection e' with e1 e2; exact ⟨e1, e2⟩
          clear e'
          obtain ⟨q0, q1⟩ := hrc' k hlt
          obtain ⟨fx, hfx⟩ : ∃ x, x = (nt rs k).1 := ⟨_, rfl⟩
          obtain ⟨lx, hlx⟩ : ∃ x, x = (nt rs k).2 := ⟨_, rfl⟩
          rw [← hfx] at q0
          rw [← hlx] at q1
          have HFX := Lib.hid hfx
          have HLX := Lib.hid hlx
          have RC := Lib.hid hrc'
          have HBQ := Lib.hid hrb'
          clear hrc' hrb'
          cases hA : frB fx 0 100000
          · have HROW := Lib.hid (show rowB rs k = false by unfold rowB; rw [← hfx, ← hlx, hA]; rfl)
            have T1 := traffic_T fx
            rw [hA] at T1
            have T1 := Lib.hid T1
            clear hA hfx hlx
            have HD := Lib.hid dc
            obtain ⟨d0, d1, d2, dl⟩ := dc
            go_wp2_with fail
            clear d0 d1 d2 dl
            have dc := HD.out
            clear HD q0 q1
            refine fresh_world (fun W => Box (wr.heap.size) (fx) (lx) W ∧ DimC (db) ((some ⟨rb, ro, none⟩)) (rs.length) (c) (up) (dn) W ∧ RowsIn ((some ⟨rb, ro, none⟩)) (rs) W ∧ Below w.heap.size w W) ⟨Box.fresh _ _ _ _, dc.alloc _, ri.below ((Below.refl _ _).alloc (Nat.le_refl _) _), hb.alloc hb.size _⟩ ?_
            clear dc ri hb
            rintro W1 ⟨bx, dc, ri, hb⟩
            go_wp2_with fail
            have hR : ∀ w', Below W1.heap.size W1 w' → Box (wr.heap.size) (fx) (lx) w' := fun w' hq0 => bx.below hq0
            have hG := good_below hR
            refine wp_region_G (R := fun w' => Box (wr.heap.size) (fx) (lx) w') (fun w' => Below W1.heap.size W1 w') (by kernel_rfl) (Below.refl _ _).drew ?_
            refine wpAnyG_take (i := 0) (v := ?_) rfl (by kernel_rfl) (by kernel_rfl) (by kernel_rfl) hG rfl ?_ ?_
            rotate_left
            (focus (intro ww hSw; obtain ⟨r0_0, r0_1, r0_2, r0_3, r0_4⟩ := hSw; go_simp; (try with_reducible rfl)))
            (try simp only [Act.put, List.setIfInBounds_toArray, List.set_cons_zero, List.set_cons_succ, List.getElem_toArray, List.getElem_cons_zero, List.getElem_cons_succ])
            refine wpAnyG_take (i := 1) (v := ?_) rfl (by kernel_rfl) (by kernel_rfl) (by kernel_rfl) hG rfl ?_ ?_
            rotate_left
            (focus (intro ww hSw; obtain ⟨r0_0, r0_1, r0_2, r0_3, r0_4⟩ := hSw; go_simp; (try with_reducible rfl)))
            (try simp only [Act.put, List.setIfInBounds_toArray, List.set_cons_zero, List.set_cons_succ, List.getElem_toArray, List.getElem_cons_zero, List.getElem_cons_succ])
            refine wpAnyG_call (i := 2) _ _ _ rfl (by kernel_rfl) (by kernel_rfl) (by kernel_rfl) hG rfl (by intro ww; go_simp; all_goals (first | rfl | exact ⟨rfl, rfl⟩)) (fun ww => T1.out ww) ?_
            (try simp only [Act.put, List.setIfInBounds_toArray, List.set_cons_zero, List.set_cons_succ, List.getElem_toArray, List.getElem_cons_zero, List.getElem_cons_succ])
            refine wpAnyG_take (i := 3) (v := ?_) rfl (by kernel_rfl) (by kernel_rfl) (by kernel_rfl) hG rfl ?_ ?_
            rotate_left
            (focus (intro ww hSw; obtain ⟨r0_0, r0_1, r0_2, r0_3, r0_4⟩ := hSw; go_simp; (try with_reducible rfl)))
            (try simp only [Act.put, List.setIfInBounds_toArray, List.set_cons_zero, List.set_cons_succ, List.getElem_toArray, List.getElem_cons_zero, List.getElem_cons_succ])
            refine wpAnyG_take (i := 4) (v := ?_) rfl (by kernel_rfl) (by kernel_rfl) (by kernel_rfl) hG rfl ?_ ?_
            rotate_left
            (focus (intro ww hSw; obtain ⟨r0_0, r0_1, r0_2, r0_3, r0_4⟩ := hSw; go_simp; (try with_reducible rfl)))
            (try simp only [Act.put, List.setIfInBounds_toArray, List.set_cons_zero, List.set_cons_succ, List.getElem_toArray, List.getElem_cons_zero, List.getElem_cons_succ])
            refine wpAnyG_skip (i := 5) rfl (by kernel_rfl) (by kernel_rfl) (by kernel_rfl) hG rfl ?_
            (try simp only [Act.put, List.setIfInBounds_toArray, List.set_cons_zero, List.set_cons_succ, List.getElem_toArray, List.getElem_cons_zero, List.getElem_cons_succ])
            refine wpAnyG_skip (i := 6) rfl (by kernel_rfl) (by kernel_rfl) (by kernel_rfl) hG rfl ?_
            (try simp only [Act.put, List.setIfInBounds_toArray, List.set_cons_zero, List.set_cons_succ, List.getElem_toArray, List.getElem_cons_zero, List.getElem_cons_succ])
            refine wpAnyG_skip (i := 7) rfl (by kernel_rfl) (by kernel_rfl) (by kernel_rfl) hG rfl ?_
            (try simp only [Act.put, List.setIfInBounds_toArray, List.set_cons_zero, List.set_cons_succ, List.getElem_toArray, List.getElem_cons_zero, List.getElem_cons_succ])
            refine wpAnyG_skip (i := 8) rfl (by kernel_rfl) (by kernel_rfl) (by kernel_rfl) hG rfl ?_
            (try simp only [Act.put, List.setIfInBounds_toArray, List.set_cons_zero, List.set_cons_succ, List.getElem_toArray, List.getElem_cons_zero, List.getElem_cons_succ])
            refine wpAnyG_take (i := 9) (v := ?_) rfl (by kernel_rfl) (by kernel_rfl) (by kernel_rfl) hG rfl ?_ ?_
            rotate_left
            (focus (intro ww hSw; obtain ⟨r0_0, r0_1, r0_2, r0_3, r0_4⟩ := hSw; go_simp; (try with_reducible rfl)))
            (try simp only [Act.put, List.setIfInBounds_toArray, List.set_cons_zero, List.set_cons_succ, List.getElem_toArray, List.getElem_cons_zero, List.getElem_cons_succ])
            refine wpAnyG_take (i := 10) (v := ?_) rfl (by kernel_rfl) (by kernel_rfl) (by kernel_rfl) hG rfl ?_ ?_
            rotate_left
            (focus (intro ww hSw; obtain ⟨r0_0, r0_1, r0_2, r0_3, r0_4⟩ := hSw; go_simp; (try with_reducible rfl)))
            (try simp only [Act.put, List.setIfInBounds_toArray, List.set_cons_zero, List.set_cons_succ, List.getElem_toArray, List.getElem_cons_zero, List.getElem_cons_succ])
            refine wpAnyG_skip (i := 11) rfl (by kernel_rfl) (by kernel_rfl) (by kernel_rfl) hG rfl ?_
            (try simp only [Act.put, List.setIfInBounds_toArray, List.set_cons_zero, List.set_cons_succ, List.getElem_toArray, List.getElem_cons_zero, List.getElem_cons_succ])
            refine wpAnyG_skip (i := 12) rfl (by kernel_rfl) (by kernel_rfl) (by kernel_rfl) hG rfl ?_
            (try simp only [Act.put, List.setIfInBounds_toArray, List.set_cons_zero, List.set_cons_succ, List.getElem_toArray, List.getElem_cons_zero, List.getElem_cons_succ])
            refine wpAnyG_skip (i := 13) rfl (by kernel_rfl) (by kernel_rfl) (by kernel_rfl) hG rfl ?_
            (try simp only [Act.put, List.setIfInBounds_toArray, List.set_cons_zero, List.set_cons_succ, List.getElem_toArray, List.getElem_cons_zero, List.getElem_cons_succ])
            refine wpAnyG_skip (i := 14) rfl (by kernel_rfl) (by kernel_rfl) (by kernel_rfl) hG rfl ?_
            (try simp only [Act.put, List.setIfInBounds_toArray, List.set_cons_zero, List.set_cons_succ, List.getElem_toArray, List.getElem_cons_zero, List.getElem_cons_succ])
            refine wpAnyG_skip (i := 15) rfl (by kernel_rfl) (by kernel_rfl) (by kernel_rfl) hG rfl ?_
            (try simp only [Act.put, List.setIfInBounds_toArray, List.set_cons_zero, List.set_cons_succ, List.getElem_toArray, List.getElem_cons_zero, List.getElem_cons_succ])
            refine wpAnyG_skip (i := 16) rfl (by kernel_rfl) (by kernel_rfl) (by kernel_rfl) hG rfl ?_
            (try simp only [Act.put, List.setIfInBounds_toArray, List.set_cons_zero, List.set_cons_succ, List.getElem_toArray, List.getElem_cons_zero, List.getElem_cons_succ])
            refine wpAnyG_skip (i := 17) rfl (by kernel_rfl) (by kernel_rfl) (by kernel_rfl) hG rfl ?_
            (try simp only [Act.put, List.setIfInBounds_toArray, List.set_cons_zero, List.set_cons_succ, List.getElem_toArray, List.getElem_cons_zero, List.getElem_cons_succ])
            refine wpAnyG_skip (i := 18) rfl (by kernel_rfl) (by kernel_rfl) (by kernel_rfl) hG rfl ?_
            (try simp only [Act.put, List.setIfInBounds_toArray, List.set_cons_zero, List.set_cons_succ, List.getElem_toArray, List.getElem_cons_zero, List.getElem_cons_succ])
            refine wpAnyG_skip (i := 19) rfl (by kernel_rfl) (by kernel_rfl) (by kernel_rfl) hG rfl ?_
            (try simp only [Act.put, List.setIfInBounds_toArray, List.set_cons_zero, List.set_cons_succ, List.getElem_toArray, List.getElem_cons_zero, List.getElem_cons_succ])
            refine wpAnyG_skip (i := 20) rfl (by kernel_rfl) (by kernel_rfl) (by kernel_rfl) hG rfl ?_
            (try simp only [Act.put, List.setIfInBounds_toArray, List.set_cons_zero, List.set_cons_succ, List.getElem_toArray, List.getElem_cons_zero, List.getElem_cons_succ])
            refine wpAnyG_skip (i := 21) rfl (by kernel_rfl) (by kernel_rfl) (by kernel_rfl) hG rfl ?_
            (try simp only [Act.put, List.setIfInBounds_toArray, List.set_cons_zero, List.set_cons_succ, List.getElem_toArray, List.getElem_cons_zero, List.getElem_cons_succ])
            refine wpAnyG_skip (i := 22) rfl (by kernel_rfl) (by kernel_rfl) (by kernel_rfl) hG rfl ?_
            (try simp only [Act.put, List.setIfInBounds_toArray, List.set_cons_zero, List.set_cons_succ, List.getElem_toArray, List.getElem_cons_zero, List.getElem_cons_succ])
            refine wpAnyG_skip (i := 23) rfl (by kernel_rfl) (by kernel_rfl) (by kernel_rfl) hG rfl ?_
            (try simp only [Act.put, List.setIfInBounds_toArray, List.set_cons_zero, List.set_cons_succ, List.getElem_toArray, List.getElem_cons_zero, List.getElem_cons_succ])
            refine wpAnyG_skip (i := 24) rfl (by kernel_rfl) (by kernel_rfl) (by kernel_rfl) hG rfl ?_
            (try simp only [Act.put, List.setIfInBounds_toArray, List.set_cons_zero, List.set_cons_succ, List.getElem_toArray, List.getElem_cons_zero, List.getElem_cons_succ])
            refine wpAnyG_skip (i := 25) rfl (by kernel_rfl) (by kernel_rfl) (by kernel_rfl) hG rfl ?_
            (try simp only [Act.put, List.setIfInBounds_toArray, List.set_cons_zero, List.set_cons_succ, List.getElem_toArray, List.getElem_cons_zero, List.getElem_cons_succ])
            refine wpAnyG_skip (i := 26) rfl (by kernel_rfl) (by kernel_rfl) (by kernel_rfl) hG rfl ?_
            (try simp only [Act.put, List.setIfInBounds_toArray, List.set_cons_zero, List.set_cons_succ, List.getElem_toArray, List.getElem_cons_zero, List.getElem_cons_succ])
            refine wpAnyG_take (i := 27) (v := ?_) rfl (by kernel_rfl) (by kernel_rfl) (by kernel_rfl) hG rfl ?_ ?_
            rotate_left
            (focus (intro ww hSw; obtain ⟨r0_0, r0_1, r0_2, r0_3, r0_4⟩ := hSw; go_simp; (try with_reducible rfl)))
            (try simp only [Act.put, List.setIfInBounds_toArray, List.set_cons_zero, List.set_cons_succ, List.getElem_toArray, List.getElem_cons_zero, List.getElem_cons_succ])
            refine wpAnyG_done (by kernel_rfl) ?_ _
            intro W31 hB
            clear hR hG
            have bx := bx.below hB
            have dc := dc.below hB
            have ri := ri.below hB
            have hb := hb.trans (hB.mono hb.size)
            clear hB
            go_wp2_with fail
            go_ret
            exact ⟨by rw [dm_no3 k hlt HROW.out]; rfl, hb⟩
          · cases hB : frB lx 0 1000
            · have HROW := Lib.hid (show rowB rs k = false by unfold rowB; rw [← hfx, ← hlx, hA, hB]; rfl)
              have T1 := traffic_T fx
              rw [hA] at T1
              have T1 := Lib.hid T1
              have T2 := from_T lx 0 1000
              rw [hB] at T2
              have T2 := Lib.hid T2
              clear hA hB hfx hlx
              have HD := Lib.hid dc
              obtain ⟨d0, d1, d2, dl⟩ := dc
              go_wp2_with fail
              clear d0 d1 d2 dl
              have dc := HD.out
              clear HD q0 q1
              refine fresh_world (fun W => Box (wr.heap.size) (fx) (lx) W ∧ DimC (db) ((some ⟨rb, ro, none⟩)) (rs.length) (c) (up) (dn) W ∧ RowsIn ((some ⟨rb, ro, none⟩)) (rs) W ∧ Below w.heap.size w W) ⟨Box.fresh _ _ _ _, dc.alloc _, ri.below ((Below.refl _ _).alloc (Nat.le_refl _) _), hb.alloc hb.size _⟩ ?_
              clear dc ri hb
              rintro W1 ⟨bx, dc, ri, hb⟩
              go_wp2_with fail
              have hR : ∀ w', Below W1.heap.size W1 w' → Box (wr.heap.size) (fx) (lx) w' := fun w' hq0 => bx.below hq0
              have hG := good_below hR
              refine wp_region_G (R := fun w' => Box (wr.heap.size) (fx) (lx) w') (fun w' => Below W1.heap.size W1 w') (by kernel_rfl) (Below.refl _ _).drew ?_
              refine wpAnyG_take (i := 0) (v := ?_) rfl (by kernel_rfl) (by kernel_rfl) (by kernel_rfl) hG rfl ?_ ?_
              rotate_left
              (focus (intro ww hSw; obtain ⟨r0_0, r0_1, r0_2, r0_3, r0_4⟩ := hSw; go_simp; (try with_reducible rfl)))
              (try simp only [Act.put, List.setIfInBounds_toArray, List.set_cons_zero, List.set_cons_succ, List.getElem_toArray, List.getElem_cons_zero, List.getElem_cons_succ])
              refine wpAnyG_take (i := 1) (v := ?_) rfl (by kernel_rfl) (by kernel_rfl) (by kernel_rfl) hG rfl ?_ ?_
              rotate_left
              (focus (intro ww hSw; obtain ⟨r0_0, r0_1, r0_2, r0_3, r0_4⟩ := hSw; go_simp; (try with_reducible rfl)))
              (try simp only [Act.put, List.setIfInBounds_toArray, List.set_cons_zero, List.set_cons_succ, List.getElem_toArray, List.getElem_cons_zero, List.getElem_cons_succ])
              refine wpAnyG_call (i := 2) _ _ _ rfl (by kernel_rfl) (by kernel_rfl) (by kernel_rfl) hG rfl (by intro ww; go_simp; all_goals (first | rfl | exact ⟨rfl, rfl⟩)) (fun ww => T1.out ww) ?_
              (try simp only [Act.put, List.setIfInBounds_toArray, List.set_cons_zero, List.set_cons_succ, List.getElem_toArray, List.getElem_cons_zero, List.getElem_cons_succ])
              refine wpAnyG_take (i := 3) (v := ?_) rfl (by kernel_rfl) (by kernel_rfl) (by kernel_rfl) hG rfl ?_ ?_
              rotate_left
              (focus (intro ww hSw; obtain ⟨r0_0, r0_1, r0_2, r0_3, r0_4⟩ := hSw; go_simp; (try with_reducible rfl)))
              (try simp only [Act.put, List.setIfInBounds_toArray, List.set_cons_zero, List.set_cons_succ, List.getElem_toArray, List.getElem_cons_zero, List.getElem_cons_succ])
              refine wpAnyG_take (i := 4) (v := ?_) rfl (by kernel_rfl) (by kernel_rfl) (by kernel_rfl) hG rfl ?_ ?_
              rotate_left
              (focus (intro ww hSw; obtain ⟨r0_0, r0_1, r0_2, r0_3, r0_4⟩ := hSw; go_simp; (try with_reducible rfl)))
              (try simp only [Act.put, List.setIfInBounds_toArray, List.set_cons_zero, List.set_cons_succ, List.getElem_toArray, List.getElem_cons_zero, List.getElem_cons_succ])
              refine wpAnyG_take (i := 5) (v := ?_) rfl (by kernel_rfl) (by kernel_rfl) (by kernel_rfl) hG rfl ?_ ?_
              rotate_left
              (focus (intro ww hSw; obtain ⟨r0_0, r0_1, r0_2, r0_3, r0_4⟩ := hSw; go_simp; (try with_reducible rfl)))
              (try simp only [Act.put, List.setIfInBounds_toArray, List.set_cons_zero, List.set_cons_succ, List.getElem_toArray, List.getElem_cons_zero, List.getElem_cons_succ])
              refine wpAnyG_take (i := 6) (v := ?_) rfl (by kernel_rfl) (by kernel_rfl) (by kernel_rfl) hG rfl ?_ ?_
              rotate_left
              (focus (intro ww hSw; obtain ⟨r0_0, r0_1, r0_2, r0_3, r0_4⟩ := hSw; go_simp; (try with_reducible rfl)))
              (try simp only [Act.put, List.setIfInBounds_toArray, List.set_cons_zero, List.set_cons_succ, List.getElem_toArray, List.getElem_cons_zero, List.getElem_cons_succ])
              refine wpAnyG_call (i := 7) _ _ _ rfl (by kernel_rfl) (by kernel_rfl) (by kernel_rfl) hG rfl (by intro ww; go_simp; all_goals (first | rfl | exact ⟨rfl, rfl⟩)) (fun ww => T2.out ww) ?_
              (try simp only [Act.put, List.setIfInBounds_toArray, List.set_cons_zero, List.set_cons_succ, List.getElem_toArray, List.getElem_cons_zero, List.getElem_cons_succ])
              refine wpAnyG_take (i := 8) (v := ?_) rfl (by kernel_rfl) (by kernel_rfl) (by kernel_rfl) hG rfl ?_ ?_
              rotate_left
              (focus (intro ww hSw; obtain ⟨r0_0, r0_1, r0_2, r0_3, r0_4⟩ := hSw; go_simp; (try with_reducible rfl)))
              (try simp only [Act.put, List.setIfInBounds_toArray, List.set_cons_zero, List.set_cons_succ, List.getElem_toArray, List.getElem_cons_zero, List.getElem_cons_succ])
              refine wpAnyG_take (i := 9) (v := ?_) rfl (by kernel_rfl) (by kernel_rfl) (by kernel_rfl) hG rfl ?_ ?_
              rotate_left
              (focus (intro ww hSw; obtain ⟨r0_0, r0_1, r0_2, r0_3, r0_4⟩ := hSw; go_simp; (try with_reducible rfl)))
              (try simp only [Act.put, List.setIfInBounds_toArray, List.set_cons_zero, List.set_cons_succ, List.getElem_toArray, List.getElem_cons_zero, List.getElem_cons_succ])
              refine wpAnyG_take (i := 10) (v := ?_) rfl (by kernel_rfl) (by kernel_rfl) (by kernel_rfl) hG rfl ?_ ?_
              rotate_left
              (focus (intro ww hSw; obtain ⟨r0_0, r0_1, r0_2, r0_3, r0_4⟩ := hSw; go_simp; (try with_reducible rfl)))
              (try simp only [Act.put, List.setIfInBounds_toArray, List.set_cons_zero, List.set_cons_succ, List.getElem_toArray, List.getElem_cons_zero, List.getElem_cons_succ])
              refine wpAnyG_skip (i := 11) rfl (by kernel_rfl) (by kernel_rfl) (by kernel_rfl) hG rfl ?_
              (try simp only [Act.put, List.setIfInBounds_toArray, List.set_cons_zero, List.set_cons_succ, List.getElem_toArray, List.getElem_cons_zero, List.getElem_cons_succ])
              refine wpAnyG_skip (i := 12) rfl (by kernel_rfl) (by kernel_rfl) (by kernel_rfl) hG rfl ?_
              (try simp only [Act.put, List.setIfInBounds_toArray, List.set_cons_zero, List.set_cons_succ, List.getElem_toArray, List.getElem_cons_zero, List.getElem_cons_succ])
              refine wpAnyG_skip (i := 13) rfl (by kernel_rfl) (by kernel_rfl) (by kernel_rfl) hG rfl ?_
              (try simp only [Act.put, List.setIfInBounds_toArray, List.set_cons_zero, List.set_cons_succ, List.getElem_toArray, List.getElem_cons_zero, List.getElem_cons_succ])
              refine wpAnyG_skip (i := 14) rfl (by kernel_rfl) (by kernel_rfl) (by kernel_rfl) hG rfl ?_
              (try simp only [Act.put, List.setIfInBounds_toArray, List.set_cons_zero, List.set_cons_succ, List.getElem_toArray, List.getElem_cons_zero, List.getElem_cons_succ])
              refine wpAnyG_skip (i := 15) rfl (by kernel_rfl) (by kernel_rfl) (by kernel_rfl) hG rfl ?_
              (try simp only [Act.put, List.setIfInBounds_toArray, List.set_cons_zero, List.set_cons_succ, List.getElem_toArray, List.getElem_cons_zero, List.getElem_cons_succ])
              refine wpAnyG_skip (i := 16) rfl (by kernel_rfl) (by kernel_rfl) (by kernel_rfl) hG rfl ?_
              (try simp only [Act.put, List.setIfInBounds_toArray, List.set_cons_zero, List.set_cons_succ, List.getElem_toArray, List.getElem_cons_zero, List.getElem_cons_succ])
              refine wpAnyG_skip (i := 17) rfl (by kernel_rfl) (by kernel_rfl) (by kernel_rfl) hG rfl ?_
              (try simp only [Act.put, List.setIfInBounds_toArray, List.set_cons_zero, List.set_cons_succ, List.getElem_toArray, List.getElem_cons_zero, List.getElem_cons_succ])
              refine wpAnyG_skip (i := 18) rfl (by kernel_rfl) (by kernel_rfl) (by kernel_rfl) hG rfl ?_
              (try simp only [Act.put, List.setIfInBounds_toArray, List.set_cons_zero, List.set_cons_succ, List.getElem_toArray, List.getElem_cons_zero, List.getElem_cons_succ])
              refine wpAnyG_skip (i := 19) rfl (by kernel_rfl) (by kernel_rfl) (by kernel_rfl) hG rfl ?_
              (try simp only [Act.put, List.setIfInBounds_toArray, List.set_cons_zero, List.set_cons_succ, List.getElem_toArray, List.getElem_cons_zero, List.getElem_cons_succ])
              refine wpAnyG_skip (i := 20) rfl (by kernel_rfl) (by kernel_rfl) (by kernel_rfl) hG rfl ?_
              (try simp only [Act.put, List.setIfInBounds_toArray, List.set_cons_zero, List.set_cons_succ, List.getElem_toArray, List.getElem_cons_zero, List.getElem_cons_succ])
              refine wpAnyG_skip (i := 21) rfl (by kernel_rfl) (by kernel_rfl) (by kernel_rfl) hG rfl ?_
              (try simp only [Act.put, List.setIfInBounds_toArray, List.set_cons_zero, List.set_cons_succ, List.getElem_toArray, List.getElem_cons_zero, List.getElem_cons_succ])
              refine wpAnyG_skip (i := 22) rfl (by kernel_rfl) (by kernel_rfl) (by kernel_rfl) hG rfl ?_
              (try simp only [Act.put, List.setIfInBounds_toArray, List.set_cons_zero, List.set_cons_succ, List.getElem_toArray, List.getElem_cons_zero, List.getElem_cons_succ])
              refine wpAnyG_skip (i := 23) rfl (by kernel_rfl) (by kernel_rfl) (by kernel_rfl) hG rfl ?_
              (try simp only [Act.put, List.setIfInBounds_toArray, List.set_cons_zero, List.set_cons_succ, List.getElem_toArray, List.getElem_cons_zero, List.getElem_cons_succ])
              refine wpAnyG_skip (i := 24) rfl (by kernel_rfl) (by kernel_rfl) (by kernel_rfl) hG rfl ?_
              (try simp only [Act.put, List.setIfInBounds_toArray, List.set_cons_zero, List.set_cons_succ, List.getElem_toArray, List.getElem_cons_zero, List.getElem_cons_succ])
              refine wpAnyG_skip (i := 25) rfl (by kernel_rfl) (by kernel_rfl) (by kernel_rfl) hG rfl ?_
              (try simp only [Act.put, List.setIfInBounds_toArray, List.set_cons_zero, List.set_cons_succ, List.getElem_toArray, List.getElem_cons_zero, List.getElem_cons_succ])
              refine wpAnyG_skip (i := 26) rfl (by kernel_rfl) (by kernel_rfl) (by kernel_rfl) hG rfl ?_
              (try simp only [Act.put, List.setIfInBounds_toArray, List.set_cons_zero, List.set_cons_succ, List.getElem_toArray, List.getElem_cons_zero, List.getElem_cons_succ])
              refine wpAnyG_take (i := 27) (v := ?_) rfl (by kernel_rfl) (by kernel_rfl) (by kernel_rfl) hG rfl ?_ ?_
              rotate_left
              (focus (intro ww hSw; obtain ⟨r0_0, r0_1, r0_2, r0_3, r0_4⟩ := hSw; go_simp; (try with_reducible rfl)))
              (try simp only [Act.put, List.setIfInBounds_toArray, List.set_cons_zero, List.set_cons_succ, List.getElem_toArray, List.getElem_cons_zero, List.getElem_cons_succ])
              refine wpAnyG_done (by kernel_rfl) ?_ _
              intro W31 hB
              clear hR hG
              have bx := bx.below hB
              have dc := dc.below hB
              have ri := ri.below hB
              have hb := hb.trans (hB.mono hb.size)
              clear hB
              go_wp2_with fail
              go_ret
              exact ⟨by rw [dm_no3 k hlt HROW.out]; rfl, hb⟩
            · rcases Nat.eq_zero_or_pos k with rfl | hk0
              · have HROW := Lib.hid (show rowB rs 0 = true by unfold rowB; rw [← hfx, ← hlx, hA, hB]; rfl)
                have T1 := traffic_T fx
                rw [hA] at T1
                have T1 := Lib.hid T1
                have T2 := from_T lx 0 1000
                rw [hB] at T2
                have T2 := Lib.hid T2
                clear hA hB hfx hlx
                simp only [show ((0 : Nat) : Int) = 0 from rfl]
                simp only [Nat.zero_mul, Nat.add_zero] at q0 q1
                have HD := Lib.hid dc
                obtain ⟨d0, d1, d2, dl⟩ := dc
                go_wp2_with fail
                clear d0 d1 d2 dl
                have dc := HD.out
                clear HD q0 q1
                refine fresh_world (fun W => Box (wr.heap.size) (fx) (lx) W ∧ DimC (db) ((some ⟨rb, ro, none⟩)) (rs.length) (c) (up) (dn) W ∧ RowsIn ((some ⟨rb, ro, none⟩)) (rs) W ∧ Below w.heap.size w W) ⟨Box.fresh _ _ _ _, dc.alloc _, ri.below ((Below.refl _ _).alloc (Nat.le_refl _) _), hb.alloc hb.size _⟩ ?_
                clear dc ri hb
                rintro W1 ⟨bx, dc, ri, hb⟩
                go_wp2_with fail
                have hR : ∀ w', Below W1.heap.size W1 w' → Box (wr.heap.size) (fx) (lx) w' := fun w' hq0 => bx.below hq0
                have hG := good_below hR
                refine wp_region_G (R := fun w' => Box (wr.heap.size) (fx) (lx) w') (fun w' => Below W1.heap.size W1 w') (by kernel_rfl) (Below.refl _ _).drew ?_
                refine wpAnyG_take (i := 0) (v := ?_) rfl (by kernel_rfl) (by kernel_rfl) (by kernel_rfl) hG rfl ?_ ?_
                rotate_left
                (focus (intro ww hSw; obtain ⟨r0_0, r0_1, r0_2, r0_3, r0_4⟩ := hSw; go_simp; (try with_reducible rfl)))
                (try simp only [Act.put, List.setIfInBounds_toArray, List.set_cons_zero, List.set_cons_succ, List.getElem_toArray, List.getElem_cons_zero, List.getElem_cons_succ])
                refine wpAnyG_take (i := 1) (v := ?_) rfl (by kernel_rfl) (by kernel_rfl) (by kernel_rfl) hG rfl ?_ ?_
                rotate_left
                (focus (intro ww hSw; obtain ⟨r0_0, r0_1, r0_2, r0_3, r0_4⟩ := hSw; go_simp; (try with_reducible rfl)))
                (try simp only [Act.put, List.setIfInBounds_toArray, List.set_cons_zero, List.set_cons_succ, List.getElem_toArray, List.getElem_cons_zero, List.getElem_cons_succ])
                refine wpAnyG_call (i := 2) _ _ _ rfl (by kernel_rfl) (by kernel_rfl) (by kernel_rfl) hG rfl (by intro ww; go_simp; all_goals (first | rfl | exact ⟨rfl, rfl⟩)) (fun ww => T1.out ww) ?_
                (try simp only [Act.put, List.setIfInBounds_toArray, List.set_cons_zero, List.set_cons_succ, List.getElem_toArray, List.getElem_cons_zero, List.getElem_cons_succ])
                refine wpAnyG_take (i := 3) (v := ?_) rfl (by kernel_rfl) (by kernel_rfl) (by kernel_rfl) hG rfl ?_ ?_
                rotate_left
                (focus (intro ww hSw; obtain ⟨r0_0, r0_1, r0_2, r0_3, r0_4⟩ := hSw; go_simp; (try with_reducible rfl)))
                (try simp only [Act.put, List.setIfInBounds_toArray, List.set_cons_zero, List.set_cons_succ, List.getElem_toArray, List.getElem_cons_zero, List.getElem_cons_succ])
                refine wpAnyG_take (i := 4) (v := ?_) rfl (by kernel_rfl) (by kernel_rfl) (by kernel_rfl) hG rfl ?_ ?_
                rotate_left
                (focus (intro ww hSw; obtain ⟨r0_0, r0_1, r0_2, r0_3, r0_4⟩ := hSw; go_simp; (try with_reducible rfl)))
                (try simp only [Act.put, List.setIfInBounds_toArray, List.set_cons_zero, List.set_cons_succ, List.getElem_toArray, List.getElem_cons_zero, List.getElem_cons_succ])
                refine wpAnyG_take (i := 5) (v := ?_) rfl (by kernel_rfl) (by kernel_rfl) (by kernel_rfl) hG rfl ?_ ?_
                rotate_left
                (focus (intro ww hSw; obtain ⟨r0_0, r0_1, r0_2, r0_3, r0_4⟩ := hSw; go_simp; (try with_reducible rfl)))
                (try simp only [Act.put, List.setIfInBounds_toArray, List.set_cons_zero, List.set_cons_succ, List.getElem_toArray, List.getElem_cons_zero, List.getElem_cons_succ])
                refine wpAnyG_take (i := 6) (v := ?_) rfl (by kernel_rfl) (by kernel_rfl) (by kernel_rfl) hG rfl ?_ ?_
                rotate_left
                (focus (intro ww hSw; obtain ⟨r0_0, r0_1, r0_2, r0_3, r0_4⟩ := hSw; go_simp; (try with_reducible rfl)))
                (try simp only [Act.put, List.setIfInBounds_toArray, List.set_cons_zero, List.set_cons_succ, List.getElem_toArray, List.getElem_cons_zero, List.getElem_cons_succ])
                refine wpAnyG_call (i := 7) _ _ _ rfl (by kernel_rfl) (by kernel_rfl) (by kernel_rfl) hG rfl (by intro ww; go_simp; all_goals (first | rfl | exact ⟨rfl, rfl⟩)) (fun ww => T2.out ww) ?_
                (try simp only [Act.put, List.setIfInBounds_toArray, List.set_cons_zero, List.set_cons_succ, List.getElem_toArray, List.getElem_cons_zero, List.getElem_cons_succ])
                refine wpAnyG_take (i := 8) (v := ?_) rfl (by kernel_rfl) (by kernel_rfl) (by kernel_rfl) hG rfl ?_ ?_
                rotate_left
                (focus (intro ww hSw; obtain ⟨r0_0, r0_1, r0_2, r0_3, r0_4⟩ := hSw; go_simp; (try with_reducible rfl)))
                (try simp only [Act.put, List.setIfInBounds_toArray, List.set_cons_zero, List.set_cons_succ, List.getElem_toArray, List.getElem_cons_zero, List.getElem_cons_succ])
                refine wpAnyG_take (i := 9) (v := ?_) rfl (by kernel_rfl) (by kernel_rfl) (by kernel_rfl) hG rfl ?_ ?_
                rotate_left
                (focus (intro ww hSw; obtain ⟨r0_0, r0_1, r0_2, r0_3, r0_4⟩ := hSw; go_simp; (try with_reducible rfl)))
                (try simp only [Act.put, List.setIfInBounds_toArray, List.set_cons_zero, List.set_cons_succ, List.getElem_toArray, List.getElem_cons_zero, List.getElem_cons_succ])
                refine wpAnyG_take (i := 10) (v := ?_) rfl (by kernel_rfl) (by kernel_rfl) (by kernel_rfl) hG rfl ?_ ?_
                rotate_left
                (focus (intro ww hSw; obtain ⟨r0_0, r0_1, r0_2, r0_3, r0_4⟩ := hSw; go_simp; (try with_reducible rfl)))
                (try simp only [Act.put, List.setIfInBounds_toArray, List.set_cons_zero, List.set_cons_succ, List.getElem_toArray, List.getElem_cons_zero, List.getElem_cons_succ])
                refine wpAnyG_take (i := 11) (v := ?_) rfl (by kernel_rfl) (by kernel_rfl) (by kernel_rfl) hG rfl ?_ ?_
                rotate_left
                (focus (intro ww hSw; obtain ⟨r0_0, r0_1, r0_2, r0_3, r0_4⟩ := hSw; go_simp; (try with_reducible rfl)))
                (try simp only [Act.put, List.setIfInBounds_toArray, List.set_cons_zero, List.set_cons_succ, List.getElem_toArray, List.getElem_cons_zero, List.getElem_cons_succ])
                refine wpAnyG_take (i := 12) (v := ?_) rfl (by kernel_rfl) (by kernel_rfl) (by kernel_rfl) hG rfl ?_ ?_
                rotate_left
                (focus (intro ww hSw; obtain ⟨r0_0, r0_1, r0_2, r0_3, r0_4⟩ := hSw; go_simp; (try with_reducible rfl)))
                (try simp only [Act.put, List.setIfInBounds_toArray, List.set_cons_zero, List.set_cons_succ, List.getElem_toArray, List.getElem_cons_zero, List.getElem_cons_succ])
                refine wpAnyG_take (i := 13) (v := ?_) rfl (by kernel_rfl) (by kernel_rfl) (by kernel_rfl) hG rfl ?_ ?_
                rotate_left
                (focus (intro ww hSw; obtain ⟨r0_0, r0_1, r0_2, r0_3, r0_4⟩ := hSw; go_simp; (try with_reducible rfl)))
                (try simp only [Act.put, List.setIfInBounds_toArray, List.set_cons_zero, List.set_cons_succ, List.getElem_toArray, List.getElem_cons_zero, List.getElem_cons_succ])
                refine wpAnyG_skip (i := 14) rfl (by kernel_rfl) (by kernel_rfl) (by kernel_rfl) hG rfl ?_
                (try simp only [Act.put, List.setIfInBounds_toArray, List.set_cons_zero, List.set_cons_succ, List.getElem_toArray, List.getElem_cons_zero, List.getElem_cons_succ])
                refine wpAnyG_skip (i := 15) rfl (by kernel_rfl) (by kernel_rfl) (by kernel_rfl) hG rfl ?_
                (try simp only [Act.put, List.setIfInBounds_toArray, List.set_cons_zero, List.set_cons_succ, List.getElem_toArray, List.getElem_cons_zero, List.getElem_cons_succ])
                refine wpAnyG_skip (i := 16) rfl (by kernel_rfl) (by kernel_rfl) (by kernel_rfl) hG rfl ?_
                (try simp only [Act.put, List.setIfInBounds_toArray, List.set_cons_zero, List.set_cons_succ, List.getElem_toArray, List.getElem_cons_zero, List.getElem_cons_succ])
                refine wpAnyG_skip (i := 17) rfl (by kernel_rfl) (by kernel_rfl) (by kernel_rfl) hG rfl ?_
                (try simp only [Act.put, List.setIfInBounds_toArray, List.set_cons_zero, List.set_cons_succ, List.getElem_toArray, List.getElem_cons_zero, List.getElem_cons_succ])
                refine wpAnyG_skip (i := 18) rfl (by kernel_rfl) (by kernel_rfl) (by kernel_rfl) hG rfl ?_
                (try simp only [Act.put, List.setIfInBounds_toArray, List.set_cons_zero, List.set_cons_succ, List.getElem_toArray, List.getElem_cons_zero, List.getElem_cons_succ])
                refine wpAnyG_skip (i := 19) rfl (by kernel_rfl) (by kernel_rfl) (by kernel_rfl) hG rfl ?_
                (try simp only [Act.put, List.setIfInBounds_toArray, List.set_cons_zero, List.set_cons_succ, List.getElem_toArray, List.getElem_cons_zero, List.getElem_cons_succ])
                refine wpAnyG_skip (i := 20) rfl (by kernel_rfl) (by kernel_rfl) (by kernel_rfl) hG rfl ?_
                (try simp only [Act.put, List.setIfInBounds_toArray, List.set_cons_zero, List.set_cons_succ, List.getElem_toArray, List.getElem_cons_zero, List.getElem_cons_succ])
                refine wpAnyG_skip (i := 21) rfl (by kernel_rfl) (by kernel_rfl) (by kernel_rfl) hG rfl ?_
                (try simp only [Act.put, List.setIfInBounds_toArray, List.set_cons_zero, List.set_cons_succ, List.getElem_toArray, List.getElem_cons_zero, List.getElem_cons_succ])
                refine wpAnyG_skip (i := 22) rfl (by kernel_rfl) (by kernel_rfl) (by kernel_rfl) hG rfl ?_
                (try simp only [Act.put, List.setIfInBounds_toArray, List.set_cons_zero, List.set_cons_succ, List.getElem_toArray, List.getElem_cons_zero, List.getElem_cons_succ])
                refine wpAnyG_skip (i := 23) rfl (by kernel_rfl) (by kernel_rfl) (by kernel_rfl) hG rfl ?_
                (try simp only [Act.put, List.setIfInBounds_toArray, List.set_cons_zero, List.set_cons_succ, List.getElem_toArray, List.getElem_cons_zero, List.getElem_cons_succ])
                refine wpAnyG_skip (i := 24) rfl (by kernel_rfl) (by kernel_rfl) (by kernel_rfl) hG rfl ?_
                (try simp only [Act.put, List.setIfInBounds_toArray, List.set_cons_zero, List.set_cons_succ, List.getElem_toArray, List.getElem_cons_zero, List.getElem_cons_succ])
                refine wpAnyG_skip (i := 25) rfl (by kernel_rfl) (by kernel_rfl) (by kernel_rfl) hG rfl ?_
                (try simp only [Act.put, List.setIfInBounds_toArray, List.set_cons_zero, List.set_cons_succ, List.getElem_toArray, List.getElem_cons_zero, List.getElem_cons_succ])
                refine wpAnyG_take (i := 26) (v := ?_) rfl (by kernel_rfl) (by kernel_rfl) (by kernel_rfl) hG rfl ?_ ?_
                rotate_left
                (focus (intro ww hSw; obtain ⟨r0_0, r0_1, r0_2, r0_3, r0_4⟩ := hSw; go_simp; (try with_reducible rfl)))
                (try simp only [Act.put, List.setIfInBounds_toArray, List.set_cons_zero, List.set_cons_succ, List.getElem_toArray, List.getElem_cons_zero, List.getElem_cons_succ])
                refine wpAnyG_take (i := 27) (v := ?_) rfl (by kernel_rfl) (by kernel_rfl) (by kernel_rfl) hG rfl ?_ ?_
                rotate_left
                (focus (intro ww hSw; obtain ⟨r0_0, r0_1, r0_2, r0_3, r0_4⟩ := hSw; go_simp; (try with_reducible rfl)))
                (try simp only [Act.put, List.setIfInBounds_toArray, List.set_cons_zero, List.set_cons_succ, List.getElem_toArray, List.getElem_cons_zero, List.getElem_cons_succ])
                refine wpAnyG_done (by kernel_rfl) ?_ _
                intro W31 hB
                clear hR hG
                have bx := bx.below hB
                have dc := dc.below hB
                have ri := ri.below hB
                have hb := hb.trans (hB.mono hb.size)
                clear hB
                have DC := Lib.hid dc
                have RI := Lib.hid ri
                have HB := Lib.hid hb
                clear dc ri hb bx
                go_wp2_with fail
                go_roundw
                case rel => exact ⟨0 + 1, by omega, by go_num, fun j hj => (by rcases Nat.lt_succ_iff_lt_or_eq.1 hj with h | h; exact hall.out j h; subst h; exact HROW.out), DC, RI, HB⟩
                case measure => (first | (simp [intOf]; done) | (simp [intOf]; omega))
              · obtain ⟨m, rfl⟩ : ∃ m, k = m + 1 := ⟨k - 1, by omega⟩
                obtain ⟨px, hpx⟩ : ∃ x, x = (nt rs m).1 := ⟨_, rfl⟩
                have HPX := Lib.hid hpx
                have wm : IntKind.i64.wrap (((m + 1 : Nat) : Int) - 1) = (m : Int) := by rw [show ((m + 1 : Nat) : Int) - 1 = (m : Int) by omega]; exact IntWalk.i64_in _ (by omega)
                have wm2 : IntKind.i64.wrap ((m : Int) + 1 - 1) = (m : Int) := by rw [show (m : Int) + 1 - 1 = (m : Int) by omega]; exact IntWalk.i64_in _ (by omega)
                have wm3 : IntKind.i64.wrap (m : Int) = (m : Int) := IntWalk.i64_in _ (by omega)
                have wg : decide ((0 : Int) < ((m + 1 : Nat) : Int)) = true := decide_eq_true (by omega)
                have wg2 : (0 : Int) < (m : Int) + 1 := by omega
                have wi0 : (0 : Int) ≤ (m : Int) := by omega
                have wi1 : (m : Int) < (rs.length : Int) := by omega
                have wnz : ¬ (((m + 1 : Nat) : Int) ≤ 0) := by omega
                by_cases hp : fx ≤ px
                · have HROW := Lib.hid (show rowB rs (m + 1) = false by unfold rowB; rw [← hfx, ← hlx, hA, hB, show m + 1 - 1 = m by omega, ← hpx]; first | (simp; done) | (simp; omega))
                  have T1 := traffic_T fx
                  rw [hA] at T1
                  have T1 := Lib.hid T1
                  have T2 := from_T lx 0 1000
                  rw [hB] at T2
                  have T2 := Lib.hid T2
                  have hd : decide (fx ≤ px) = true := by simp [hp]
                  clear hA hB hfx hlx hpx
                  have pc : Cel rb (ro + m*2) (.int .i64 px) wr := ⟨(RC.out m (by omega)).1.trans (by rw [← HPX.out]), HBQ.out⟩
                  have HD := Lib.hid dc
                  obtain ⟨d0, d1, d2, dl⟩ := dc
                  go_wp2_with fail
                  clear d0 d1 d2 dl
                  have dc := HD.out
                  clear HD q0 q1
                  refine fresh_world (fun W => Box (wr.heap.size) (fx) (lx) W ∧ DimC (db) ((some ⟨rb, ro, none⟩)) (rs.length) (c) (up) (dn) W ∧ RowsIn ((some ⟨rb, ro, none⟩)) (rs) W ∧ Cel (rb) (ro + m*2) (.int .i64 px) W ∧ Below w.heap.size w W) ⟨Box.fresh _ _ _ _, dc.alloc _, ri.below ((Below.refl _ _).alloc (Nat.le_refl _) _), pc.alloc _, hb.alloc hb.size _⟩ ?_
                  clear dc ri hb pc
                  rintro W1 ⟨bx, dc, ri, pc, hb⟩
                  go_wp2_with fail
                  have hR : ∀ w', Below W1.heap.size W1 w' → Box (wr.heap.size) (fx) (lx) w' ∧ DimC (db) ((some ⟨rb, ro, none⟩)) (rs.length) (c) (up) (dn) w' ∧ Cel (rb) (ro + m*2) (.int .i64 px) w' := fun w' hq0 => ⟨bx.below hq0, dc.below hq0, pc.below hq0⟩
                  have hG := good_below hR
                  refine wp_region_G (R := fun w' => Box (wr.heap.size) (fx) (lx) w' ∧ DimC (db) ((some ⟨rb, ro, none⟩)) (rs.length) (c) (up) (dn) w' ∧ Cel (rb) (ro + m*2) (.int .i64 px) w') (fun w' => Below W1.heap.size W1 w') (by kernel_rfl) (Below.refl _ _).drew ?_
                  refine wpAnyG_take (i := 0) (v := ?_) rfl (by kernel_rfl) (by kernel_rfl) (by kernel_rfl) hG rfl ?_ ?_
                  rotate_left
                  (focus (intro ww hSw; obtain ⟨⟨r0_0, r0_1, r0_2, r0_3, r0_4⟩, ⟨r1_0, r1_1, r1_2, r1_3⟩, ⟨r2_0, r2_1⟩⟩ := hSw; go_simp; (try with_reducible rfl)))
                  (try simp only [Act.put, List.setIfInBounds_toArray, List.set_cons_zero, List.set_cons_succ, List.getElem_toArray, List.getElem_cons_zero, List.getElem_cons_succ])
                  refine wpAnyG_take (i := 1) (v := ?_) rfl (by kernel_rfl) (by kernel_rfl) (by kernel_rfl) hG rfl ?_ ?_
                  rotate_left
                  (focus (intro ww hSw; obtain ⟨⟨r0_0, r0_1, r0_2, r0_3, r0_4⟩, ⟨r1_0, r1_1, r1_2, r1_3⟩, ⟨r2_0, r2_1⟩⟩ := hSw; go_simp; (try with_reducible rfl)))
                  (try simp only [Act.put, List.setIfInBounds_toArray, List.set_cons_zero, List.set_cons_succ, List.getElem_toArray, List.getElem_cons_zero, List.getElem_cons_succ])
                  refine wpAnyG_call (i := 2) _ _ _ rfl (by kernel_rfl) (by kernel_rfl) (by kernel_rfl) hG rfl (by intro ww; go_simp; all_goals (first | rfl | exact ⟨rfl, rfl⟩)) (fun ww => T1.out ww) ?_
                  (try simp only [Act.put, List.setIfInBounds_toArray, List.set_cons_zero, List.set_cons_succ, List.getElem_toArray, List.getElem_cons_zero, List.getElem_cons_succ])
                  refine wpAnyG_take (i := 3) (v := ?_) rfl (by kernel_rfl) (by kernel_rfl) (by kernel_rfl) hG rfl ?_ ?_
                  rotate_left
                  (focus (intro ww hSw; obtain ⟨⟨r0_0, r0_1, r0_2, r0_3, r0_4⟩, ⟨r1_0, r1_1, r1_2, r1_3⟩, ⟨r2_0, r2_1⟩⟩ := hSw; go_simp; (try with_reducible rfl)))
                  (try simp only [Act.put, List.setIfInBounds_toArray, List.set_cons_zero, List.set_cons_succ, List.getElem_toArray, List.getElem_cons_zero, List.getElem_cons_succ])
                  refine wpAnyG_take (i := 4) (v := ?_) rfl (by kernel_rfl) (by kernel_rfl) (by kernel_rfl) hG rfl ?_ ?_
                  rotate_left
                  (focus (intro ww hSw; obtain ⟨⟨r0_0, r0_1, r0_2, r0_3, r0_4⟩, ⟨r1_0, r1_1, r1_2, r1_3⟩, ⟨r2_0, r2_1⟩⟩ := hSw; go_simp; (try with_reducible rfl)))
                  (try simp only [Act.put, List.setIfInBounds_toArray, List.set_cons_zero, List.set_cons_succ, List.getElem_toArray, List.getElem_cons_zero, List.getElem_cons_succ])
                  refine wpAnyG_take (i := 5) (v := ?_) rfl (by kernel_rfl) (by kernel_rfl) (by kernel_rfl) hG rfl ?_ ?_
                  rotate_left
                  (focus (intro ww hSw; obtain ⟨⟨r0_0, r0_1, r0_2, r0_3, r0_4⟩, ⟨r1_0, r1_1, r1_2, r1_3⟩, ⟨r2_0, r2_1⟩⟩ := hSw; go_simp; (try with_reducible rfl)))
                  (try simp only [Act.put, List.setIfInBounds_toArray, List.set_cons_zero, List.set_cons_succ, List.getElem_toArray, List.getElem_cons_zero, List.getElem_cons_succ])
                  refine wpAnyG_take (i := 6) (v := ?_) rfl (by kernel_rfl) (by kernel_rfl) (by kernel_rfl) hG rfl ?_ ?_
                  rotate_left
                  (focus (intro ww hSw; obtain ⟨⟨r0_0, r0_1, r0_2, r0_3, r0_4⟩, ⟨r1_0, r1_1, r1_2, r1_3⟩, ⟨r2_0, r2_1⟩⟩ := hSw; go_simp; (try with_reducible rfl)))
                  (try simp only [Act.put, List.setIfInBounds_toArray, List.set_cons_zero, List.set_cons_succ, List.getElem_toArray, List.getElem_cons_zero, List.getElem_cons_succ])
                  refine wpAnyG_call (i := 7) _ _ _ rfl (by kernel_rfl) (by kernel_rfl) (by kernel_rfl) hG rfl (by intro ww; go_simp; all_goals (first | rfl | exact ⟨rfl, rfl⟩)) (fun ww => T2.out ww) ?_
                  (try simp only [Act.put, List.setIfInBounds_toArray, List.set_cons_zero, List.set_cons_succ, List.getElem_toArray, List.getElem_cons_zero, List.getElem_cons_succ])
                  refine wpAnyG_take (i := 8) (v := ?_) rfl (by kernel_rfl) (by kernel_rfl) (by kernel_rfl) hG rfl ?_ ?_
                  rotate_left
                  (focus (intro ww hSw; obtain ⟨⟨r0_0, r0_1, r0_2, r0_3, r0_4⟩, ⟨r1_0, r1_1, r1_2, r1_3⟩, ⟨r2_0, r2_1⟩⟩ := hSw; go_simp; (try with_reducible rfl)))
                  (try simp only [Act.put, List.setIfInBounds_toArray, List.set_cons_zero, List.set_cons_succ, List.getElem_toArray, List.getElem_cons_zero, List.getElem_cons_succ])
                  refine wpAnyG_take (i := 9) (v := ?_) rfl (by kernel_rfl) (by kernel_rfl) (by kernel_rfl) hG rfl ?_ ?_
                  rotate_left
                  (focus (intro ww hSw; obtain ⟨⟨r0_0, r0_1, r0_2, r0_3, r0_4⟩, ⟨r1_0, r1_1, r1_2, r1_3⟩, ⟨r2_0, r2_1⟩⟩ := hSw; go_simp; (try with_reducible rfl)))
                  (try simp only [Act.put, List.setIfInBounds_toArray, List.set_cons_zero, List.set_cons_succ, List.getElem_toArray, List.getElem_cons_zero, List.getElem_cons_succ])
                  refine wpAnyG_take (i := 10) (v := ?_) rfl (by kernel_rfl) (by kernel_rfl) (by kernel_rfl) hG rfl ?_ ?_
                  rotate_left
                  (focus (intro ww hSw; obtain ⟨⟨r0_0, r0_1, r0_2, r0_3, r0_4⟩, ⟨r1_0, r1_1, r1_2, r1_3⟩, ⟨r2_0, r2_1⟩⟩ := hSw; go_simp; (try with_reducible rfl)))
                  (try simp only [Act.put, List.setIfInBounds_toArray, List.set_cons_zero, List.set_cons_succ, List.getElem_toArray, List.getElem_cons_zero, List.getElem_cons_succ])
                  refine wpAnyG_take (i := 11) (v := ?_) rfl (by kernel_rfl) (by kernel_rfl) (by kernel_rfl) hG rfl ?_ ?_
                  rotate_left
                  (focus (intro ww hSw; obtain ⟨⟨r0_0, r0_1, r0_2, r0_3, r0_4⟩, ⟨r1_0, r1_1, r1_2, r1_3⟩, ⟨r2_0, r2_1⟩⟩ := hSw; go_simp; (try with_reducible rfl)))
                  (try simp only [Act.put, List.setIfInBounds_toArray, List.set_cons_zero, List.set_cons_succ, List.getElem_toArray, List.getElem_cons_zero, List.getElem_cons_succ])
                  refine wpAnyG_take (i := 12) (v := ?_) rfl (by kernel_rfl) (by kernel_rfl) (by kernel_rfl) hG rfl ?_ ?_
                  rotate_left
                  (focus (intro ww hSw; obtain ⟨⟨r0_0, r0_1, r0_2, r0_3, r0_4⟩, ⟨r1_0, r1_1, r1_2, r1_3⟩, ⟨r2_0, r2_1⟩⟩ := hSw; go_simp; (try with_reducible rfl)))
                  (try simp only [Act.put, List.setIfInBounds_toArray, List.set_cons_zero, List.set_cons_succ, List.getElem_toArray, List.getElem_cons_zero, List.getElem_cons_succ])
                  refine wpAnyG_take (i := 13) (v := ?_) rfl (by kernel_rfl) (by kernel_rfl) (by kernel_rfl) hG rfl ?_ ?_
                  rotate_left
                  (focus (intro ww hSw; obtain ⟨⟨r0_0, r0_1, r0_2, r0_3, r0_4⟩, ⟨r1_0, r1_1, r1_2, r1_3⟩, ⟨r2_0, r2_1⟩⟩ := hSw; go_simp; (try with_reducible rfl)))
                  (try simp only [Act.put, List.setIfInBounds_toArray, List.set_cons_zero, List.set_cons_succ, List.getElem_toArray, List.getElem_cons_zero, List.getElem_cons_succ])
                  refine wpAnyG_take (i := 14) (v := ?_) rfl (by kernel_rfl) (by kernel_rfl) (by kernel_rfl) hG rfl ?_ ?_
                  rotate_left
                  (focus (intro ww hSw; obtain ⟨⟨r0_0, r0_1, r0_2, r0_3, r0_4⟩, ⟨r1_0, r1_1, r1_2, r1_3⟩, ⟨r2_0, r2_1⟩⟩ := hSw; go_simp; (try with_reducible rfl)))
                  (try simp only [Act.put, List.setIfInBounds_toArray, List.set_cons_zero, List.set_cons_succ, List.getElem_toArray, List.getElem_cons_zero, List.getElem_cons_succ])
                  refine wpAnyG_take (i := 15) (v := ?_) rfl (by kernel_rfl) (by kernel_rfl) (by kernel_rfl) hG rfl ?_ ?_
                  rotate_left
                  (focus (intro ww hSw; obtain ⟨⟨r0_0, r0_1, r0_2, r0_3, r0_4⟩, ⟨r1_0, r1_1, r1_2, r1_3⟩, ⟨r2_0, r2_1⟩⟩ := hSw; go_simp; (try with_reducible rfl)))
                  (try simp only [Act.put, List.setIfInBounds_toArray, List.set_cons_zero, List.set_cons_succ, List.getElem_toArray, List.getElem_cons_zero, List.getElem_cons_succ])
                  refine wpAnyG_take (i := 16) (v := ?_) rfl (by kernel_rfl) (by kernel_rfl) (by kernel_rfl) hG rfl ?_ ?_
                  rotate_left
                  (focus (intro ww hSw; obtain ⟨⟨r0_0, r0_1, r0_2, r0_3, r0_4⟩, ⟨r1_0, r1_1, r1_2, r1_3⟩, ⟨r2_0, r2_1⟩⟩ := hSw; go_simp; (try with_reducible rfl)))
                  (try simp only [Act.put, List.setIfInBounds_toArray, List.set_cons_zero, List.set_cons_succ, List.getElem_toArray, List.getElem_cons_zero, List.getElem_cons_succ])
                  refine wpAnyG_take (i := 17) (v := ?_) rfl (by kernel_rfl) (by kernel_rfl) (by kernel_rfl) hG rfl ?_ ?_
                  rotate_left
                  (focus (intro ww hSw; obtain ⟨⟨r0_0, r0_1, r0_2, r0_3, r0_4⟩, ⟨r1_0, r1_1, r1_2, r1_3⟩, ⟨r2_0, r2_1⟩⟩ := hSw; go_simp; (try with_reducible rfl)))
                  (try simp only [Act.put, List.setIfInBounds_toArray, List.set_cons_zero, List.set_cons_succ, List.getElem_toArray, List.getElem_cons_zero, List.getElem_cons_succ])
                  refine wpAnyG_take (i := 18) (v := ?_) rfl (by kernel_rfl) (by kernel_rfl) (by kernel_rfl) hG rfl ?_ ?_
                  rotate_left
                  (focus (intro ww hSw; obtain ⟨⟨r0_0, r0_1, r0_2, r0_3, r0_4⟩, ⟨r1_0, r1_1, r1_2, r1_3⟩, ⟨r2_0, r2_1⟩⟩ := hSw; go_simp; (try with_reducible rfl)))
                  (try simp only [Act.put, List.setIfInBounds_toArray, List.set_cons_zero, List.set_cons_succ, List.getElem_toArray, List.getElem_cons_zero, List.getElem_cons_succ])
                  refine wpAnyG_take (i := 19) (v := ?_) rfl (by kernel_rfl) (by kernel_rfl) (by kernel_rfl) hG rfl ?_ ?_
                  rotate_left
                  (focus (intro ww hSw; obtain ⟨⟨r0_0, r0_1, r0_2, r0_3, r0_4⟩, ⟨r1_0, r1_1, r1_2, r1_3⟩, ⟨r2_0, r2_1⟩⟩ := hSw; go_simp; (try with_reducible rfl)))
                  (try simp only [Act.put, List.setIfInBounds_toArray, List.set_cons_zero, List.set_cons_succ, List.getElem_toArray, List.getElem_cons_zero, List.getElem_cons_succ])
                  refine wpAnyG_take (i := 20) (v := ?_) rfl (by kernel_rfl) (by kernel_rfl) (by kernel_rfl) hG rfl ?_ ?_
                  rotate_left
                  (focus (intro ww hSw; obtain ⟨⟨r0_0, r0_1, r0_2, r0_3, r0_4⟩, ⟨r1_0, r1_1, r1_2, r1_3⟩, ⟨r2_0, r2_1⟩⟩ := hSw; go_simp; (try with_reducible rfl)))
                  (try simp only [Act.put, List.setIfInBounds_toArray, List.set_cons_zero, List.set_cons_succ, List.getElem_toArray, List.getElem_cons_zero, List.getElem_cons_succ])
                  refine wpAnyG_take (i := 21) (v := ?_) rfl (by kernel_rfl) (by kernel_rfl) (by kernel_rfl) hG rfl ?_ ?_
                  rotate_left
                  (focus (intro ww hSw; obtain ⟨⟨r0_0, r0_1, r0_2, r0_3, r0_4⟩, ⟨r1_0, r1_1, r1_2, r1_3⟩, ⟨r2_0, r2_1⟩⟩ := hSw; go_simp; (try with_reducible rfl)))
                  (try simp only [Act.put, List.setIfInBounds_toArray, List.set_cons_zero, List.set_cons_succ, List.getElem_toArray, List.getElem_cons_zero, List.getElem_cons_succ])
                  refine wpAnyG_take (i := 22) (v := ?_) rfl (by kernel_rfl) (by kernel_rfl) (by kernel_rfl) hG rfl ?_ ?_
                  rotate_left
                  (focus (intro ww hSw; obtain ⟨⟨r0_0, r0_1, r0_2, r0_3, r0_4⟩, ⟨r1_0, r1_1, r1_2, r1_3⟩, ⟨r2_0, r2_1⟩⟩ := hSw; go_simp; (try with_reducible rfl)))
                  (try simp only [Act.put, List.setIfInBounds_toArray, List.set_cons_zero, List.set_cons_succ, List.getElem_toArray, List.getElem_cons_zero, List.getElem_cons_succ])
                  refine wpAnyG_take (i := 23) (v := ?_) rfl (by kernel_rfl) (by kernel_rfl) (by kernel_rfl) hG rfl ?_ ?_
                  rotate_left
                  (focus (intro ww hSw; obtain ⟨⟨r0_0, r0_1, r0_2, r0_3, r0_4⟩, ⟨r1_0, r1_1, r1_2, r1_3⟩, ⟨r2_0, r2_1⟩⟩ := hSw; go_simp; (try with_reducible rfl)))
                  (try simp only [Act.put, List.setIfInBounds_toArray, List.set_cons_zero, List.set_cons_succ, List.getElem_toArray, List.getElem_cons_zero, List.getElem_cons_succ])
                  refine wpAnyG_take (i := 24) (v := ?_) rfl (by kernel_rfl) (by kernel_rfl) (by kernel_rfl) hG rfl ?_ ?_
                  rotate_left
                  (focus (intro ww hSw; obtain ⟨⟨r0_0, r0_1, r0_2, r0_3, r0_4⟩, ⟨r1_0, r1_1, r1_2, r1_3⟩, ⟨r2_0, r2_1⟩⟩ := hSw; go_simp; (try with_reducible rfl)))
                  (try simp only [Act.put, List.setIfInBounds_toArray, List.set_cons_zero, List.set_cons_succ, List.getElem_toArray, List.getElem_cons_zero, List.getElem_cons_succ])
                  refine wpAnyG_take (i := 25) (v := ?_) rfl (by kernel_rfl) (by kernel_rfl) (by kernel_rfl) hG rfl ?_ ?_
                  rotate_left
                  (focus (intro ww hSw; obtain ⟨⟨r0_0, r0_1, r0_2, r0_3, r0_4⟩, ⟨r1_0, r1_1, r1_2, r1_3⟩, ⟨r2_0, r2_1⟩⟩ := hSw; go_simp; (try with_reducible rfl)))
                  (try simp only [Act.put, List.setIfInBounds_toArray, List.set_cons_zero, List.set_cons_succ, List.getElem_toArray, List.getElem_cons_zero, List.getElem_cons_succ])
                  refine wpAnyG_take (i := 26) (v := ?_) rfl (by kernel_rfl) (by kernel_rfl) (by kernel_rfl) hG rfl ?_ ?_
                  rotate_left
                  (focus (intro ww hSw; obtain ⟨⟨r0_0, r0_1, r0_2, r0_3, r0_4⟩, ⟨r1_0, r1_1, r1_2, r1_3⟩, ⟨r2_0, r2_1⟩⟩ := hSw; go_simp; (try with_reducible rfl)))
                  (try simp only [Act.put, List.setIfInBounds_toArray, List.set_cons_zero, List.set_cons_succ, List.getElem_toArray, List.getElem_cons_zero, List.getElem_cons_succ])
                  refine wpAnyG_take (i := 27) (v := ?_) rfl (by kernel_rfl) (by kernel_rfl) (by kernel_rfl) hG rfl ?_ ?_
                  rotate_left
                  (focus (intro ww hSw; obtain ⟨⟨r0_0, r0_1, r0_2, r0_3, r0_4⟩, ⟨r1_0, r1_1, r1_2, r1_3⟩, ⟨r2_0, r2_1⟩⟩ := hSw; go_simp; (try with_reducible rfl)))
                  (try simp only [Act.put, List.setIfInBounds_toArray, List.set_cons_zero, List.set_cons_succ, List.getElem_toArray, List.getElem_cons_zero, List.getElem_cons_succ])
                  refine wpAnyG_done (by kernel_rfl) ?_ _
                  intro W31 hB
                  clear hR hG
                  have bx := bx.below hB
                  have dc := dc.below hB
                  have ri := ri.below hB
                  have pc := pc.below hB
                  have hb := hb.trans (hB.mono hb.size)
                  clear hB
                  go_wp2_with fail
                  go_ret
                  exact ⟨by rw [dm_no3 (m + 1) hlt HROW.out]; rfl, hb⟩
                · have HROW := Lib.hid (show rowB rs (m + 1) = true by unfold rowB; rw [← hfx, ← hlx, hA, hB, show m + 1 - 1 = m by omega, ← hpx]; first | (simp; done) | (simp; omega))
                  have T1 := traffic_T fx
                  rw [hA] at T1
                  have T1 := Lib.hid T1
                  have T2 := from_T lx 0 1000
                  rw [hB] at T2
                  have T2 := Lib.hid T2
                  have hd : decide (fx ≤ px) = false := by simp [hp]
                  clear hA hB hfx hlx hpx
                  have pc : Cel rb (ro + m*2) (.int .i64 px) wr := ⟨(RC.out m (by omega)).1.trans (by rw [← HPX.out]), HBQ.out⟩
                  have HD := Lib.hid dc
                  obtain ⟨d0, d1, d2, dl⟩ := dc
                  go_wp2_with fail
                  clear d0 d1 d2 dl
                  have dc := HD.out
                  clear HD q0 q1
                  refine fresh_world (fun W => Box (wr.heap.size) (fx) (lx) W ∧ DimC (db) ((some ⟨rb, ro, none⟩)) (rs.length) (c) (up) (dn) W ∧ RowsIn ((some ⟨rb, ro, none⟩)) (rs) W ∧ Cel (rb) (ro + m*2) (.int .i64 px) W ∧ Below w.heap.size w W) ⟨Box.fresh _ _ _ _, dc.alloc _, ri.below ((Below.refl _ _).alloc (Nat.le_refl _) _), pc.alloc _, hb.alloc hb.size _⟩ ?_
                  clear dc ri hb pc
                  rintro W1 ⟨bx, dc, ri, pc, hb⟩
                  go_wp2_with fail
                  have hR : ∀ w', Below W1.heap.size W1 w' → Box (wr.heap.size) (fx) (lx) w' ∧ DimC (db) ((some ⟨rb, ro, none⟩)) (rs.length) (c) (up) (dn) w' ∧ Cel (rb) (ro + m*2) (.int .i64 px) w' := fun w' hq0 => ⟨bx.below hq0, dc.below hq0, pc.below hq0⟩
                  have hG := good_below hR
                  refine wp_region_G (R := fun w' => Box (wr.heap.size) (fx) (lx) w' ∧ DimC (db) ((some ⟨rb, ro, none⟩)) (rs.length) (c) (up) (dn) w' ∧ Cel (rb) (ro + m*2) (.int .i64 px) w') (fun w' => Below W1.heap.size W1 w') (by kernel_rfl) (Below.refl _ _).drew ?_
                  refine wpAnyG_take (i := 0) (v := ?_) rfl (by kernel_rfl) (by kernel_rfl) (by kernel_rfl) hG rfl ?_ ?_
                  rotate_left
                  (focus (intro ww hSw; obtain ⟨⟨r0_0, r0_1, r0_2, r0_3, r0_4⟩, ⟨r1_0, r1_1, r1_2, r1_3⟩, ⟨r2_0, r2_1⟩⟩ := hSw; go_simp; (try with_reducible rfl)))
                  (try simp only [Act.put, List.setIfInBounds_toArray, List.set_cons_zero, List.set_cons_succ, List.getElem_toArray, List.getElem_cons_zero, List.getElem_cons_succ])
                  refine wpAnyG_take (i := 1) (v := ?_) rfl (by kernel_rfl) (by kernel_rfl) (by kernel_rfl) hG rfl ?_ ?_
                  rotate_left
                  (focus (intro ww hSw; obtain ⟨⟨r0_0, r0_1, r0_2, r0_3, r0_4⟩, ⟨r1_0, r1_1, r1_2, r1_3⟩, ⟨r2_0, r2_1⟩⟩ := hSw; go_simp; (try with_reducible rfl)))
                  (try simp only [Act.put, List.setIfInBounds_toArray, List.set_cons_zero, List.set_cons_succ, List.getElem_toArray, List.getElem_cons_zero, List.getElem_cons_succ])
                  refine wpAnyG_call (i := 2) _ _ _ rfl (by kernel_rfl) (by kernel_rfl) (by kernel_rfl) hG rfl (by intro ww; go_simp; all_goals (first | rfl | exact ⟨rfl, rfl⟩)) (fun ww => T1.out ww) ?_
                  (try simp only [Act.put, List.setIfInBounds_toArray, List.set_cons_zero, List.set_cons_succ, List.getElem_toArray, List.getElem_cons_zero, List.getElem_cons_succ])
                  refine wpAnyG_take (i := 3) (v := ?_) rfl (by kernel_rfl) (by kernel_rfl) (by kernel_rfl) hG rfl ?_ ?_
                  rotate_left
                  (focus (intro ww hSw; obtain ⟨⟨r0_0, r0_1, r0_2, r0_3, r0_4⟩, ⟨r1_0, r1_1, r1_2, r1_3⟩, ⟨r2_0, r2_1⟩⟩ := hSw; go_simp; (try with_reducible rfl)))
                  (try simp only [Act.put, List.setIfInBounds_toArray, List.set_cons_zero, List.set_cons_succ, List.getElem_toArray, List.getElem_cons_zero, List.getElem_cons_succ])
                  refine wpAnyG_take (i := 4) (v := ?_) rfl (by kernel_rfl) (by kernel_rfl) (by kernel_rfl) hG rfl ?_ ?_
                  rotate_left
                  (focus (intro ww hSw; obtain ⟨⟨r0_0, r0_1, r0_2, r0_3, r0_4⟩, ⟨r1_0, r1_1, r1_2, r1_3⟩, ⟨r2_0, r2_1⟩⟩ := hSw; go_simp; (try with_reducible rfl)))
                  (try simp only [Act.put, List.setIfInBounds_toArray, List.set_cons_zero, List.set_cons_succ, List.getElem_toArray, List.getElem_cons_zero, List.getElem_cons_succ])
                  refine wpAnyG_take (i := 5) (v := ?_) rfl (by kernel_rfl) (by kernel_rfl) (by kernel_rfl) hG rfl ?_ ?_
                  rotate_left
                  (focus (intro ww hSw; obtain ⟨⟨r0_0, r0_1, r0_2, r0_3, r0_4⟩, ⟨r1_0, r1_1, r1_2, r1_3⟩, ⟨r2_0, r2_1⟩⟩ := hSw; go_simp; (try with_reducible rfl)))
                  (try simp only [Act.put, List.setIfInBounds_toArray, List.set_cons_zero, List.set_cons_succ, List.getElem_toArray, List.getElem_cons_zero, List.getElem_cons_succ])
                  refine wpAnyG_take (i := 6) (v := ?_) rfl (by kernel_rfl) (by kernel_rfl) (by kernel_rfl) hG rfl ?_ ?_
                  rotate_left
                  (focus (intro ww hSw; obtain ⟨⟨r0_0, r0_1, r0_2, r0_3, r0_4⟩, ⟨r1_0, r1_1, r1_2, r1_3⟩, ⟨r2_0, r2_1⟩⟩ := hSw; go_simp; (try with_reducible rfl)))
                  (try simp only [Act.put, List.setIfInBounds_toArray, List.set_cons_zero, List.set_cons_succ, List.getElem_toArray, List.getElem_cons_zero, List.getElem_cons_succ])
                  refine wpAnyG_call (i := 7) _ _ _ rfl (by kernel_rfl) (by kernel_rfl) (by kernel_rfl) hG rfl (by intro ww; go_simp; all_goals (first | rfl | exact ⟨rfl, rfl⟩)) (fun ww => T2.out ww) ?_
                  (try simp only [Act.put, List.setIfInBounds_toArray, List.set_cons_zero, List.set_cons_succ, List.getElem_toArray, List.getElem_cons_zero, List.getElem_cons_succ])
                  refine wpAnyG_take (i := 8) (v := ?_) rfl (by kernel_rfl) (by kernel_rfl) (by kernel_rfl) hG rfl ?_ ?_
                  rotate_left
                  (focus (intro ww hSw; obtain ⟨⟨r0_0, r0_1, r0_2, r0_3, r0_4⟩, ⟨r1_0, r1_1, r1_2, r1_3⟩, ⟨r2_0, r2_1⟩⟩ := hSw; go_simp; (try with_reducible rfl)))
                  (try simp only [Act.put, List.setIfInBounds_toArray, List.set_cons_zero, List.set_cons_succ, List.getElem_toArray, List.getElem_cons_zero, List.getElem_cons_succ])
                  refine wpAnyG_take (i := 9) (v := ?_) rfl (by kernel_rfl) (by kernel_rfl) (by kernel_rfl) hG rfl ?_ ?_
                  rotate_left
                  (focus (intro ww hSw; obtain ⟨⟨r0_0, r0_1, r0_2, r0_3, r0_4⟩, ⟨r1_0, r1_1, r1_2, r1_3⟩, ⟨r2_0, r2_1⟩⟩ := hSw; go_simp; (try with_reducible rfl)))
                  (try simp only [Act.put, List.setIfInBounds_toArray, List.set_cons_zero, List.set_cons_succ, List.getElem_toArray, List.getElem_cons_zero, List.getElem_cons_succ])
                  refine wpAnyG_take (i := 10) (v := ?_) rfl (by kernel_rfl) (by kernel_rfl) (by kernel_rfl) hG rfl ?_ ?_
                  rotate_left
                  (focus (intro ww hSw; obtain ⟨⟨r0_0, r0_1, r0_2, r0_3, r0_4⟩, ⟨r1_0, r1_1, r1_2, r1_3⟩, ⟨r2_0, r2_1⟩⟩ := hSw; go_simp; (try with_reducible rfl)))
                  (try simp only [Act.put, List.setIfInBounds_toArray, List.set_cons_zero, List.set_cons_succ, List.getElem_toArray, List.getElem_cons_zero, List.getElem_cons_succ])
                  refine wpAnyG_take (i := 11) (v := ?_) rfl (by kernel_rfl) (by kernel_rfl) (by kernel_rfl) hG rfl ?_ ?_
                  rotate_left
                  (focus (intro ww hSw; obtain ⟨⟨r0_0, r0_1, r0_2, r0_3, r0_4⟩, ⟨r1_0, r1_1, r1_2, r1_3⟩, ⟨r2_0, r2_1⟩⟩ := hSw; go_simp; (try with_reducible rfl)))
                  (try simp only [Act.put, List.setIfInBounds_toArray, List.set_cons_zero, List.set_cons_succ, List.getElem_toArray, List.getElem_cons_zero, List.getElem_cons_succ])
                  refine wpAnyG_take (i := 12) (v := ?_) rfl (by kernel_rfl) (by kernel_rfl) (by kernel_rfl) hG rfl ?_ ?_
                  rotate_left
                  (focus (intro ww hSw; obtain ⟨⟨r0_0, r0_1, r0_2, r0_3, r0_4⟩, ⟨r1_0, r1_1, r1_2, r1_3⟩, ⟨r2_0, r2_1⟩⟩ := hSw; go_simp; (try with_reducible rfl)))
                  (try simp only [Act.put, List.setIfInBounds_toArray, List.set_cons_zero, List.set_cons_succ, List.getElem_toArray, List.getElem_cons_zero, List.getElem_cons_succ])
                  refine wpAnyG_take (i := 13) (v := ?_) rfl (by kernel_rfl) (by kernel_rfl) (by kernel_rfl) hG rfl ?_ ?_
                  rotate_left
                  (focus (intro ww hSw; obtain ⟨⟨r0_0, r0_1, r0_2, r0_3, r0_4⟩, ⟨r1_0, r1_1, r1_2, r1_3⟩, ⟨r2_0, r2_1⟩⟩ := hSw; go_simp; (try with_reducible rfl)))
                  (try simp only [Act.put, List.setIfInBounds_toArray, List.set_cons_zero, List.set_cons_succ, List.getElem_toArray, List.getElem_cons_zero, List.getElem_cons_succ])
                  refine wpAnyG_take (i := 14) (v := ?_) rfl (by kernel_rfl) (by kernel_rfl) (by kernel_rfl) hG rfl ?_ ?_
                  rotate_left
                  (focus (intro ww hSw; obtain ⟨⟨r0_0, r0_1, r0_2, r0_3, r0_4⟩, ⟨r1_0, r1_1, r1_2, r1_3⟩, ⟨r2_0, r2_1⟩⟩ := hSw; go_simp; (try with_reducible rfl)))
                  (try simp only [Act.put, List.setIfInBounds_toArray, List.set_cons_zero, List.set_cons_succ, List.getElem_toArray, List.getElem_cons_zero, List.getElem_cons_succ])
                  refine wpAnyG_take (i := 15) (v := ?_) rfl (by kernel_rfl) (by kernel_rfl) (by kernel_rfl) hG rfl ?_ ?_
                  rotate_left
                  (focus (intro ww hSw; obtain ⟨⟨r0_0, r0_1, r0_2, r0_3, r0_4⟩, ⟨r1_0, r1_1, r1_2, r1_3⟩, ⟨r2_0, r2_1⟩⟩ := hSw; go_simp; (try with_reducible rfl)))
                  (try simp only [Act.put, List.setIfInBounds_toArray, List.set_cons_zero, List.set_cons_succ, List.getElem_toArray, List.getElem_cons_zero, List.getElem_cons_succ])
                  refine wpAnyG_take (i := 16) (v := ?_) rfl (by kernel_rfl) (by kernel_rfl) (by kernel_rfl) hG rfl ?_ ?_
                  rotate_left
                  (focus (intro ww hSw; obtain ⟨⟨r0_0, r0_1, r0_2, r0_3, r0_4⟩, ⟨r1_0, r1_1, r1_2, r1_3⟩, ⟨r2_0, r2_1⟩⟩ := hSw; go_simp; (try with_reducible rfl)))
                  (try simp only [Act.put, List.setIfInBounds_toArray, List.set_cons_zero, List.set_cons_succ, List.getElem_toArray, List.getElem_cons_zero, List.getElem_cons_succ])
                  refine wpAnyG_take (i := 17) (v := ?_) rfl (by kernel_rfl) (by kernel_rfl) (by kernel_rfl) hG rfl ?_ ?_
                  rotate_left
                  (focus (intro ww hSw; obtain ⟨⟨r0_0, r0_1, r0_2, r0_3, r0_4⟩, ⟨r1_0, r1_1, r1_2, r1_3⟩, ⟨r2_0, r2_1⟩⟩ := hSw; go_simp; (try with_reducible rfl)))
                  (try simp only [Act.put, List.setIfInBounds_toArray, List.set_cons_zero, List.set_cons_succ, List.getElem_toArray, List.getElem_cons_zero, List.getElem_cons_succ])
                  refine wpAnyG_take (i := 18) (v := ?_) rfl (by kernel_rfl) (by kernel_rfl) (by kernel_rfl) hG rfl ?_ ?_
                  rotate_left
                  (focus (intro ww hSw; obtain ⟨⟨r0_0, r0_1, r0_2, r0_3, r0_4⟩, ⟨r1_0, r1_1, r1_2, r1_3⟩, ⟨r2_0, r2_1⟩⟩ := hSw; go_simp; (try with_reducible rfl)))
                  (try simp only [Act.put, List.setIfInBounds_toArray, List.set_cons_zero, List.set_cons_succ, List.getElem_toArray, List.getElem_cons_zero, List.getElem_cons_succ])
                  refine wpAnyG_take (i := 19) (v := ?_) rfl (by kernel_rfl) (by kernel_rfl) (by kernel_rfl) hG rfl ?_ ?_
                  rotate_left
                  (focus (intro ww hSw; obtain ⟨⟨r0_0, r0_1, r0_2, r0_3, r0_4⟩, ⟨r1_0, r1_1, r1_2, r1_3⟩, ⟨r2_0, r2_1⟩⟩ := hSw; go_simp; (try with_reducible rfl)))
                  (try simp only [Act.put, List.setIfInBounds_toArray, List.set_cons_zero, List.set_cons_succ, List.getElem_toArray, List.getElem_cons_zero, List.getElem_cons_succ])
                  refine wpAnyG_take (i := 20) (v := ?_) rfl (by kernel_rfl) (by kernel_rfl) (by kernel_rfl) hG rfl ?_ ?_
                  rotate_left
                  (focus (intro ww hSw; obtain ⟨⟨r0_0, r0_1, r0_2, r0_3, r0_4⟩, ⟨r1_0, r1_1, r1_2, r1_3⟩, ⟨r2_0, r2_1⟩⟩ := hSw; go_simp; (try with_reducible rfl)))
                  (try simp only [Act.put, List.setIfInBounds_toArray, List.set_cons_zero, List.set_cons_succ, List.getElem_toArray, List.getElem_cons_zero, List.getElem_cons_succ])
                  refine wpAnyG_take (i := 21) (v := ?_) rfl (by kernel_rfl) (by kernel_rfl) (by kernel_rfl) hG rfl ?_ ?_
                  rotate_left
                  (focus (intro ww hSw; obtain ⟨⟨r0_0, r0_1, r0_2, r0_3, r0_4⟩, ⟨r1_0, r1_1, r1_2, r1_3⟩, ⟨r2_0, r2_1⟩⟩ := hSw; go_simp; (try with_reducible rfl)))
                  (try simp only [Act.put, List.setIfInBounds_toArray, List.set_cons_zero, List.set_cons_succ, List.getElem_toArray, List.getElem_cons_zero, List.getElem_cons_succ])
                  refine wpAnyG_take (i := 22) (v := ?_) rfl (by kernel_rfl) (by kernel_rfl) (by kernel_rfl) hG rfl ?_ ?_
                  rotate_left
                  (focus (intro ww hSw; obtain ⟨⟨r0_0, r0_1, r0_2, r0_3, r0_4⟩, ⟨r1_0, r1_1, r1_2, r1_3⟩, ⟨r2_0, r2_1⟩⟩ := hSw; go_simp; (try with_reducible rfl)))
                  (try simp only [Act.put, List.setIfInBounds_toArray, List.set_cons_zero, List.set_cons_succ, List.getElem_toArray, List.getElem_cons_zero, List.getElem_cons_succ])
                  refine wpAnyG_take (i := 23) (v := ?_) rfl (by kernel_rfl) (by kernel_rfl) (by kernel_rfl) hG rfl ?_ ?_
                  rotate_left
                  (focus (intro ww hSw; obtain ⟨⟨r0_0, r0_1, r0_2, r0_3, r0_4⟩, ⟨r1_0, r1_1, r1_2, r1_3⟩, ⟨r2_0, r2_1⟩⟩ := hSw; go_simp; (try with_reducible rfl)))
                  (try simp only [Act.put, List.setIfInBounds_toArray, List.set_cons_zero, List.set_cons_succ, List.getElem_toArray, List.getElem_cons_zero, List.getElem_cons_succ])
                  refine wpAnyG_take (i := 24) (v := ?_) rfl (by kernel_rfl) (by kernel_rfl) (by kernel_rfl) hG rfl ?_ ?_
                  rotate_left
                  (focus (intro ww hSw; obtain ⟨⟨r0_0, r0_1, r0_2, r0_3, r0_4⟩, ⟨r1_0, r1_1, r1_2, r1_3⟩, ⟨r2_0, r2_1⟩⟩ := hSw; go_simp; (try with_reducible rfl)))
                  (try simp only [Act.put, List.setIfInBounds_toArray, List.set_cons_zero, List.set_cons_succ, List.getElem_toArray, List.getElem_cons_zero, List.getElem_cons_succ])
                  refine wpAnyG_take (i := 25) (v := ?_) rfl (by kernel_rfl) (by kernel_rfl) (by kernel_rfl) hG rfl ?_ ?_
                  rotate_left
                  (focus (intro ww hSw; obtain ⟨⟨r0_0, r0_1, r0_2, r0_3, r0_4⟩, ⟨r1_0, r1_1, r1_2, r1_3⟩, ⟨r2_0, r2_1⟩⟩ := hSw; go_simp; (try with_reducible rfl)))
                  (try simp only [Act.put, List.setIfInBounds_toArray, List.set_cons_zero, List.set_cons_succ, List.getElem_toArray, List.getElem_cons_zero, List.getElem_cons_succ])
                  refine wpAnyG_take (i := 26) (v := ?_) rfl (by kernel_rfl) (by kernel_rfl) (by kernel_rfl) hG rfl ?_ ?_
                  rotate_left
                  (focus (intro ww hSw; obtain ⟨⟨r0_0, r0_1, r0_2, r0_3, r0_4⟩, ⟨r1_0, r1_1, r1_2, r1_3⟩, ⟨r2_0, r2_1⟩⟩ := hSw; go_simp; (try with_reducible rfl)))
                  (try simp only [Act.put, List.setIfInBounds_toArray, List.set_cons_zero, List.set_cons_succ, List.getElem_toArray, List.getElem_cons_zero, List.getElem_cons_succ])
                  refine wpAnyG_take (i := 27) (v := ?_) rfl (by kernel_rfl) (by kernel_rfl) (by kernel_rfl) hG rfl ?_ ?_
                  rotate_left
                  (focus (intro ww hSw; obtain ⟨⟨r0_0, r0_1, r0_2, r0_3, r0_4⟩, ⟨r1_0, r1_1, r1_2, r1_3⟩, ⟨r2_0, r2_1⟩⟩ := hSw; go_simp; (try with_reducible rfl)))
                  (try simp only [Act.put, List.setIfInBounds_toArray, List.set_cons_zero, List.set_cons_succ, List.getElem_toArray, List.getElem_cons_zero, List.getElem_cons_succ])
                  refine wpAnyG_done (by kernel_rfl) ?_ _
                  intro W31 hB
                  clear hR hG
                  have bx := bx.below hB
                  have dc := dc.below hB
                  have ri := ri.below hB
                  have pc := pc.below hB
                  have hb := hb.trans (hB.mono hb.size)
                  clear hB
                  have DC := Lib.hid dc
                  have RI := Lib.hid ri
                  have HB := Lib.hid hb
                  clear dc ri hb bx pc
                  go_wp2_with fail
                  go_roundw
                  case rel => exact ⟨(m + 1) + 1, by omega, by go_num, fun j hj => (by rcases Nat.lt_succ_iff_lt_or_eq.1 hj with h | h; exact hall.out j h; subst h; exact HROW.out), DC, RI, HB⟩
                  case measure => (first | (simp [intOf]; done) | (simp [intOf]; omega))
        · obtain rfl : k = rs.length := by omega
          have E := Lib.hid (EN.out hall.out)
          have HD := Lib.hid dc
          obtain ⟨d0, d1, d2, dl⟩ := dc
          have C2 := from_T up 1 1000
          cases hu : frB up 1 1000
          · rw [hu] at C2
            have C2 := Lib.hid C2
            have E2 := Lib.hid (show dmB rs up dn = false from E.out.trans (by rw [hu]; rfl))
            clear hu
            go_wp2_with fail
            refine (C2.out _).mono ?_
            rintro e v9 ⟨rfl, hq⟩
            have hb := hb.trans (hq.mono hb.size)
            clear d0 d1 d2 dl hq
            go_wp2_with fail
            go_ret
            exact ⟨by rw [E2.out]; rfl, hb⟩
          · rw [hu] at C2
            have C2 := Lib.hid C2
            have C3 := Lib.hid (from_T dn 1 1000)
            have E2 := Lib.hid (show dmB rs up dn = frB dn 1 1000 from E.out.trans (by rw [hu]; rfl))
            clear hu
            go_wp2_with fail
            refine (C2.out _).mono ?_
            rintro e v9 ⟨rfl, hq⟩
            have hb := hb.trans (hq.mono hb.size)
            clear d0 d1 d2 dl
            obtain ⟨d0, d1, d2, dl⟩ := HD.out.below hq
            clear hq
            go_wp2_with fail
            refine (C3.out _).mono ?_
            rintro e v10 ⟨rfl, hq⟩
            have hb := hb.trans (hq.mono hb.size)
            clear d0 d1 d2 dl hq
            go_wp2_with fail
            go_ret
            exact ⟨by rw [E2.out]; rfl, hb⟩
    · have z1 : ((nt rs 0).1 == 0) = false := by simp [h2]
      have z2 : ((nt rs 0).1 != 0) = true := by simp [h2]
      rw [dm_no2 h2]
      clear hrc q0 h1 h2
      have HD := Lib.hid dc
      obtain ⟨d0, d1, d2, dl⟩ := dc
      go_enter Tryd.func59, Tryd.ntmps59
      go_wp2_with fail
      have dc := HD.out
      clear d0 d1 d2 dl HD
      refine (C1.out _).mono ?_
      rintro e v1 ⟨rfl, hq⟩
      have dc := dc.below hq
      have ri := ri.below hq
      have hb := hb.trans (hq.mono hb.size)
      clear hq
      have p0 := p0.below (show Below w.heap.size w v1 from hb)
      have HD := Lib.hid dc
      obtain ⟨d0, d1, d2, dl⟩ := dc
      obtain ⟨p00, p01⟩ := p0
      go_wp2_with fail
      go_ret
      exact ⟨rfl, hb⟩
end Go.Proofs.YtjcgojbfjefbcaaDoor
