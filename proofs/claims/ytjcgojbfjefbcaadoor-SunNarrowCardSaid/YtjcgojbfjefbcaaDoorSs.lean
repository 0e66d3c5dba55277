/- What the sun does in a half of a day (code). -/
import Derived.Test.YtjcgojbfjefbcaaDoorSr
import Derived.Deep.LoopGhost
namespace Go.Proofs.YtjcgojbfjefbcaaDoor
set_option linter.unusedSimpArgs false
set_option linter.unusedVariables false
open Go.RowKit SineNear
attribute [local go_sem ↓] Go.wp_at_zero Go.wp_at_succ

theorem nx_bd {day lo : Int} {rise : Bool} {x wd : P2} (d0 : 0 ≤ day) (d1 : day ≤ 100000) (l0 : -180000000 ≤ lo) (l1 : lo ≤ 180000000) (hk : kiM x = 0) : Bd 10000000000 (nxP day lo rise x wd) := by
  have ab := acP_bd _ hk
  have hb2 : Bd 400000000 (haP rise (acP x)) := by
    cases rise
    · exact ab.mono (by omega)
    · exact (lsP_bd (B := 0) (onP_bd (by omega) (by omega)) ab).mono (by omega)
  have hb3 : Bd 600000000 (lsP (haP rise (acP x)) (onP lo)) := (lsP_bd hb2 (onP_bd (B := 180000000) (by omega) (by omega))).mono (by omega)
  have hb4 : Bd 1000000000 (lsP (lsP (haP rise (acP x)) (onP lo)) (eM wd)) := (lsP_bd hb3 (eM_bd wd)).mono (by omega)
  exact (moP_bd hb4 (by omega) d0 d1).mono (by omega)
theorem re_bd (rise : Bool) : Bd 100000 (reP rise) := by cases rise <;> (unfold reP Bd; decide)
theorem wi_bd {day lo : Int} {rise : Bool} (d0 : 0 ≤ day) (d1 : day ≤ 100000) (l0 : -180000000 ≤ lo) (l1 : lo ≤ 180000000) : Bd 10000000000 (wiP day lo rise) :=
  (adP_bd (moP_bd (B := 180000000) (onP_bd (by omega) (by omega)) (by omega) d0 d1) (re_bd rise)).mono (by omega)

set_option maxRecDepth 100000 in
set_option maxHeartbeats 8000000 in
theorem passing_T (cb : Nat) (la lo zo day : Int) (alt : P2) (rise : Bool) (d0 : 0 ≤ day) (d1 : day ≤ 100000) (l0 : -180000000 ≤ lo) (l1 : lo ≤ 180000000) :
    RetC cb la lo zo alt.1 alt.2 81 #[hv (reP rise) rise, .pointer (some ⟨cb, 0, none⟩), .int .i64 day] (.tuple #[.int .i64 (paM alt la lo day rise).1, en (paM alt la lo day rise).2]) := by
  intro w ct
  have ct_lt : cb < w.heap.size := ct.lt
  have C1 := Lib.hid (window_T cb la lo zo alt.1 alt.2 day (reP rise) rise d0 d1 l0 l1 (re_bd rise))
  have C2 := Lib.hid (sinOf_T alt)
  have C3 := Lib.hid (sure_T (siP alt) (angE alt.1 alt.2))
  have BW := Lib.hid (wi_bd (rise := rise) d0 d1 l0 l1)
  go_enter Tryd.func81, Tryd.ntmps81
  go_wp2_with fail
  refine fresh_call (fun W => City (cb) (la) (lo) (zo) (alt.1) (alt.2) W ∧ Half (w.heap.size) ((reP rise).1) ((reP rise).2) (rise) W ∧ One (w.heap.size + 1) (.pointer (some ⟨cb, 0, none⟩)) W ∧ One (w.heap.size + 1 + 1) (.int .i64 day) W ∧ Box (w.heap.size + 1 + 1 + 1) (0) (0) W ∧ Below w.heap.size w W) ⟨((((ct).alloc _).alloc _).alloc _).alloc _, ((((Half.fresh _ _ _ _ _)).alloc _).alloc _).alloc _, (((One.freshAt (by simp) _ _)).alloc _).alloc _, ((One.freshAt (by simp) _ _)).alloc _, (Box.freshAt (by simp) _ _ _), (((((Below.refl _ _).alloc (Nat.le_refl _) _).alloc (by simp) _).alloc (by simp; omega) _).alloc (by simp; omega) _)⟩ ?_
  clear ct
  rintro W1 ⟨ct, hf, cp, dy, rt, hb⟩
  refine (C1.out _ ct).mono ?_
  rintro e v2 ⟨rfl, hq⟩
  have ct := ct.below hq
  have hf := hf.below hq
  have cp := cp.below hq
  have dy := dy.below hq
  have rt := rt.below hq
  have hb := hb.trans (hq.mono hb.size)
  clear hq
  have Hcp := Lib.hid cp
  obtain ⟨cp_0, cp_1, cp_2⟩ := cp
  have cp_n : (w.heap.size + 1) ≠ v2.heap.size := Nat.ne_of_lt cp_2
  have Hct := Lib.hid ct
  obtain ⟨ct_0, ct_1, ct_2, ct_3, ct_4, ct_5⟩ := ct
  have ct_n : (cb) ≠ v2.heap.size := Nat.ne_of_lt ct_5
  go_wp2_with fail
  clear cp_n cp_0 cp_1 cp_2
  have cp := Hcp.out
  clear Hcp
  clear ct_n ct_0 ct_1 ct_2 ct_3 ct_4 ct_5
  have ct := Hct.out
  clear Hct
  have wi_lb : w.heap.size + 1 + 1 + 1 < v2.heap.size := rt.lt
  refine fresh_call (fun W => City (cb) (la) (lo) (zo) (alt.1) (alt.2) W ∧ Half (w.heap.size) ((reP rise).1) ((reP rise).2) (rise) W ∧ One (w.heap.size + 1) (.pointer (some ⟨cb, 0, none⟩)) W ∧ One (w.heap.size + 1 + 1) (.int .i64 day) W ∧ Box (w.heap.size + 1 + 1 + 1) (0) (0) W ∧ Box (v2.heap.size) ((wiP day lo rise).1) ((wiP day lo rise).2) W ∧ Below w.heap.size w W) ⟨ct.alloc _, hf.alloc _, cp.alloc _, dy.alloc _, rt.alloc _, Box.fresh _ _ _ _, hb.alloc hb.size _⟩ ?_
  clear ct hf cp dy rt hb
  rintro W3 ⟨ct, hf, cp, dy, rt, wi, hb⟩
  refine (C2.out _).mono ?_
  rintro e v4 ⟨rfl, hq⟩
  have ct := ct.below hq
  have hf := hf.below hq
  have cp := cp.below hq
  have dy := dy.below hq
  have rt := rt.below hq
  have wi := wi.below hq
  have hb := hb.trans (hq.mono hb.size)
  clear hq
  go_wp2_with fail
  refine (C3.out _).mono ?_
  rintro e v5 ⟨rfl, hq⟩
  have ct := ct.below hq
  have hf := hf.below hq
  have cp := cp.below hq
  have dy := dy.below hq
  have rt := rt.below hq
  have wi := wi.below hq
  have hb := hb.trans (hq.mono hb.size)
  clear hq
  have Hwi := Lib.hid wi
  obtain ⟨wi_0, wi_1, wi_2, wi_3, wi_4⟩ := wi
  have wi_n : (v2.heap.size) ≠ v5.heap.size := Nat.ne_of_lt wi_4
  have Hrt := Lib.hid rt
  obtain ⟨rt_0, rt_1, rt_2, rt_3, rt_4⟩ := rt
  have rt_n : (w.heap.size + 1 + 1 + 1) ≠ v5.heap.size := Nat.ne_of_lt rt_4
  go_wp2_with fail
  clear wi_n wi_0 wi_1 wi_2 wi_3 wi_4
  have wi := Hwi.out
  clear Hwi
  clear rt_n rt_0 rt_1 rt_2 rt_3 rt_4
  have rt := Hrt.out
  clear Hrt
  have al_lb : w.heap.size + 1 + 1 + 1 < v5.heap.size := rt.lt
  have hB : But [w.heap.size + 1 + 1 + 1] v5 ((v5.setCell ⟨w.heap.size + 1 + 1 + 1, 0, none⟩ (.int .i64 (wiP day lo rise).1)).setCell ⟨w.heap.size + 1 + 1 + 1, 1, none⟩ (.int .i64 (wiP day lo rise).2)) := ((But.of (Below.refl _ _)).set (by simp) _ _).set (by simp) _ _
  refine fresh_world (fun W => City (cb) (la) (lo) (zo) (alt.1) (alt.2) W ∧ Half (w.heap.size) ((reP rise).1) ((reP rise).2) (rise) W ∧ One (w.heap.size + 1) (.pointer (some ⟨cb, 0, none⟩)) W ∧ One (w.heap.size + 1 + 1) (.int .i64 day) W ∧ Box (w.heap.size + 1 + 1 + 1) ((wiP day lo rise).1) ((wiP day lo rise).2) W ∧ Box (v2.heap.size) ((wiP day lo rise).1) ((wiP day lo rise).2) W ∧ Box (v5.heap.size) ((siP alt).1) ((siP alt).2) W ∧ Below w.heap.size w W) ⟨(hB.city ct (by simp only [List.mem_cons, List.not_mem_nil, or_false]; omega)).alloc _, (hB.half hf (by simp only [List.mem_cons, List.not_mem_nil, or_false]; omega)).alloc _, (hB.one cp (by simp only [List.mem_cons, List.not_mem_nil, or_false]; omega)).alloc _, (hB.one dy (by simp only [List.mem_cons, List.not_mem_nil, or_false]; omega)).alloc _, (rt.set _ _).alloc _, (hB.box wi (by simp only [List.mem_cons, List.not_mem_nil, or_false]; omega)).alloc _, Box.freshAt (by simp) _ _ _, (hB.toBelow hb (Nat.le_refl _) (by intro k hk; simp only [List.mem_cons, List.not_mem_nil, or_false] at hk; omega)).alloc (by simp; exact hb.size) _⟩ ?_
  clear hB ct hf cp dy rt wi hb
  rintro W9 ⟨ct, hf, cp, dy, rt, wi, al, hb⟩
  have ST := Lib.hid (show City (cb) (la) (lo) (zo) (alt.1) (alt.2) W9 ∧ Half (w.heap.size) ((reP rise).1) ((reP rise).2) (rise) W9 ∧ One (w.heap.size + 1) (.pointer (some ⟨cb, 0, none⟩)) W9 ∧ One (w.heap.size + 1 + 1) (.int .i64 day) W9 ∧ Box (v2.heap.size) ((wiP day lo rise).1) ((wiP day lo rise).2) W9 ∧ Box (v5.heap.size) ((siP alt).1) ((siP alt).2) W9 ∧ Below w.heap.size w W9 from ⟨ct, hf, cp, dy, wi, al, hb⟩)
  have RT := Lib.hid rt
  clear ct hf cp dy rt wi al hb
  go_loopg [26] 3 (fun n i wr => ∃ (k : Nat) (wd : P2), k ≤ 3 ∧ n = 3 - k ∧ i = .int .i64 k ∧ Hid (roM alt la lo day rise (3 - k) wd = paM alt la lo day rise) ∧ Hid (Bd 10000000000 wd) ∧ Hid (Box (w.heap.size + 1 + 1 + 1) wd.1 wd.2 wr) ∧ Hid (City (cb) (la) (lo) (zo) (alt.1) (alt.2) wr ∧ Half (w.heap.size) ((reP rise).1) ((reP rise).2) (rise) wr ∧ One (w.heap.size + 1) (.pointer (some ⟨cb, 0, none⟩)) wr ∧ One (w.heap.size + 1 + 1) (.int .i64 day) wr ∧ Box (v2.heap.size) ((wiP day lo rise).1) ((wiP day lo rise).2) wr ∧ Box (v5.heap.size) ((siP alt).1) ((siP alt).2) wr ∧ Below w.heap.size w wr))
  case atStart => exact ⟨0, wiP day lo rise, by omega, by omega, rfl, rfl, BW.out, RT, ST⟩
  case round =>
    clear RT ST
    obtain ⟨k, wd, hk, hn0, rfl, hro, hbd, hrt, hst⟩ := hrel
    have HN := Lib.hid hn0
    clear hn0
    have rt : Box (w.heap.size + 1 + 1 + 1) (wd.1) (wd.2) wr := hrt.out
    obtain ⟨ct, hf, cp, dy, wi, al, hb⟩ := hst.out
    clear hrt hst
    by_cases hlt : k < 3
    · have RN := round_any (w.heap.size + 1 + 1 + 1) (w.heap.size + 1) (v5.heap.size) (w.heap.size) (w.heap.size + 1 + 1) cb la lo zo day alt (reP rise) wd rise hbd.out d0 d1 l0 l1 (by omega) (by omega) (by omega) (by omega) (by omega) wr rt cp ct al hf dy
      have RN := Lib.hid RN
      go_wp2_with fail
      refine RN.out.mono ?_
      rintro e w2 ⟨rfl, rt2, hB⟩
      clear RN
      have ct := hB.city ct (by simp only [List.mem_cons, List.not_mem_nil, or_false]; omega)
      have hf := hB.half hf (by simp only [List.mem_cons, List.not_mem_nil, or_false]; omega)
      have cp := hB.one cp (by simp only [List.mem_cons, List.not_mem_nil, or_false]; omega)
      have dy := hB.one dy (by simp only [List.mem_cons, List.not_mem_nil, or_false]; omega)
      have wi := hB.box wi (by simp only [List.mem_cons, List.not_mem_nil, or_false]; omega)
      have al := hB.box al (by simp only [List.mem_cons, List.not_mem_nil, or_false]; omega)
      have hb := hB.toBelow hb (Nat.le_refl _) (by intro k hk; simp only [List.mem_cons, List.not_mem_nil, or_false] at hk; omega)
      clear hB rt
      obtain ⟨j, hj⟩ : ∃ j, j = 2 - k := ⟨_, rfl⟩
      have e3 : 3 - k = j + 1 := by omega
      have HR := hro.out
      rw [e3] at HR
      clear hro
      by_cases hz : kiM (raP alt la wd) = 0
      · have HR2 := Lib.hid ((show roM alt la lo day rise (j + 1) wd = roM alt la lo day rise j (nxP day lo rise (raP alt la wd) wd) from if_pos hz).symm.trans HR)
        clear HR
        rw [if_pos hz] at rt2
        have hz1 : (kiM (raP alt la wd) == 0) = true := by simp [hz]
        have hz2 : (kiM (raP alt la wd) != 0) = false := by simp [hz]
        have hnb : Bd 10000000000 (nxP day lo rise (raP alt la wd) wd) := nx_bd d0 d1 l0 l1 hz
        have HNB := Lib.hid hnb
        have HRT := Lib.hid rt2
        have HST := Lib.hid (show City (cb) (la) (lo) (zo) (alt.1) (alt.2) w2 ∧ Half (w.heap.size) ((reP rise).1) ((reP rise).2) (rise) w2 ∧ One (w.heap.size + 1) (.pointer (some ⟨cb, 0, none⟩)) w2 ∧ One (w.heap.size + 1 + 1) (.int .i64 day) w2 ∧ Box (v2.heap.size) ((wiP day lo rise).1) ((wiP day lo rise).2) w2 ∧ Box (v5.heap.size) ((siP alt).1) ((siP alt).2) w2 ∧ Below w.heap.size w w2 from ⟨ct, hf, cp, dy, wi, al, hb⟩)
        clear rt2 hb hz hnb ct hf cp dy wi al
        go_wp2_with fail
        go_roundg (3 - (k + 1))
        case measure => have := HN.out; omega
        case rel => exact ⟨k + 1, nxP day lo rise (raP alt la wd) wd, by omega, rfl, by go_num, (show 3 - (k + 1) = j by omega) ▸ HR2, HNB, HRT, HST⟩
      · have HR2 := Lib.hid ((show roM alt la lo day rise (j + 1) wd = (kiM (raP alt la wd), wiP day lo rise) from if_neg hz).symm.trans HR)
        clear HR
        rw [if_neg hz] at rt2
        have hz1 : (kiM (raP alt la wd) == 0) = false := by simp [hz]
        have hz2 : (kiM (raP alt la wd) != 0) = true := by simp [hz]
        have rt := rt2
        clear rt2 hz
        go_wp2_with fail
        have hR : ∀ w', Below w2.heap.size w2 w' → Box (v2.heap.size) ((wiP day lo rise).1) ((wiP day lo rise).2) w' := fun w' hq0 => wi.below hq0
        have hG := good_below hR
        refine wp_region_G (R := fun w' => Box (v2.heap.size) ((wiP day lo rise).1) ((wiP day lo rise).2) w') (fun w' => Below w2.heap.size w2 w') (by kernel_rfl) (Below.refl _ _).drew ?_
        refine wpAnyG_take (i := 0) (v := ?_) rfl (by kernel_rfl) (by kernel_rfl) (by kernel_rfl) hG rfl ?_ ?_
        rotate_left
        (focus (intro ww hSw; obtain ⟨r0_0, r0_1, r0_2, r0_3, r0_4⟩ := hSw; go_simp; (try with_reducible rfl)))
        (try simp only [Act.put, List.setIfInBounds_toArray, List.set_cons_zero, List.set_cons_succ, List.getElem_toArray, List.getElem_cons_zero, List.getElem_cons_succ])
        refine wpAnyG_take (i := 1) (v := ?_) rfl (by kernel_rfl) (by kernel_rfl) (by kernel_rfl) hG rfl ?_ ?_
        rotate_left
        (focus (intro ww hSw; obtain ⟨r0_0, r0_1, r0_2, r0_3, r0_4⟩ := hSw; go_simp; (try with_reducible rfl)))
        (try simp only [Act.put, List.setIfInBounds_toArray, List.set_cons_zero, List.set_cons_succ, List.getElem_toArray, List.getElem_cons_zero, List.getElem_cons_succ])
        refine wpAnyG_take (i := 2) (v := ?_) rfl (by kernel_rfl) (by kernel_rfl) (by kernel_rfl) hG rfl ?_ ?_
        rotate_left
        (focus (intro ww hSw; obtain ⟨r0_0, r0_1, r0_2, r0_3, r0_4⟩ := hSw; go_simp; (try with_reducible rfl)))
        (try simp only [Act.put, List.setIfInBounds_toArray, List.set_cons_zero, List.set_cons_succ, List.getElem_toArray, List.getElem_cons_zero, List.getElem_cons_succ])
        refine wpAnyG_store (i := 3) (fun w' => But [w.heap.size + 1 + 1 + 1] w2 w' ∧ Box (w.heap.size + 1 + 1 + 1) ((wiP day lo rise).1) ((wiP day lo rise).2) w') rfl (by kernel_rfl) (⟨fun _ _ hx hy => ⟨hx.1.below hy, hx.2.below hy⟩, fun _ hx => hx.1.box wi (by simp only [List.mem_cons, List.not_mem_nil, or_false]; omega)⟩) rfl ?_ ?_
        · rintro ww hB
          obtain ⟨q0, q1, q2, q3, q4⟩ := (rt.below hB)
          refine ⟨((ww.setCell ⟨w.heap.size + 1 + 1 + 1, 0, none⟩ (.int .i64 ((wiP day lo rise).1))).setCell ⟨w.heap.size + 1 + 1 + 1, 1, none⟩ (.int .i64 ((wiP day lo rise).2))), ?_, (((But.of hB).set (by simp) _ _).set (by simp) _ _), Box.set ⟨q0, q1, q2, q3, q4⟩ _ _⟩
          go_simp
          try rfl
        (try simp only [Act.put, List.setIfInBounds_toArray, List.set_cons_zero, List.set_cons_succ, List.getElem_toArray, List.getElem_cons_zero, List.getElem_cons_succ])
        refine wpAnyG_done (by kernel_rfl) ?_ _
        rintro W21 ⟨hB, ho_rt⟩
        clear hR hG
        have hb := hB.toBelow hb (Nat.le_refl _) (by intro k hk; simp only [List.mem_cons, List.not_mem_nil, or_false] at hk; omega)
        have ct := hB.city ct (by simp only [List.mem_cons, List.not_mem_nil, or_false]; omega)
        have hf := hB.half hf (by simp only [List.mem_cons, List.not_mem_nil, or_false]; omega)
        have cp := hB.one cp (by simp only [List.mem_cons, List.not_mem_nil, or_false]; omega)
        have dy := hB.one dy (by simp only [List.mem_cons, List.not_mem_nil, or_false]; omega)
        have wi := hB.box wi (by simp only [List.mem_cons, List.not_mem_nil, or_false]; omega)
        have al := hB.box al (by simp only [List.mem_cons, List.not_mem_nil, or_false]; omega)
        have rt := ho_rt
        clear ho_rt
        clear hB
        have Hrt := Lib.hid rt
        obtain ⟨rt_0, rt_1, rt_2, rt_3, rt_4⟩ := rt
        have rt_n : (w.heap.size + 1 + 1 + 1) ≠ W21.heap.size := Nat.ne_of_lt rt_4
        go_wp2_with fail
        exact bodyPost_ret (v := .tuple #[.int .i64 (kiM (raP alt la wd)), en (wiP day lo rise)]) (by simp [results, Tryd.results81, go_sem, rt_0, rt_1]) rfl ⟨by rw [← HR2.out], hb⟩
    · obtain rfl : k = 3 := by omega
      have HR := hro.out
      have HR2 := Lib.hid (show (0, wd) = paM alt la lo day rise from HR)
      clear HR hro hbd hk hlt
      go_wp2_with fail
      have hR : ∀ w', Below wr.heap.size wr w' → Box (w.heap.size + 1 + 1 + 1) (wd.1) (wd.2) w' := fun w' hq0 => rt.below hq0
      have hG := good_below hR
      refine wp_region_G (R := fun w' => Box (w.heap.size + 1 + 1 + 1) (wd.1) (wd.2) w') (fun w' => Below wr.heap.size wr w') (by kernel_rfl) (Below.refl _ _).drew ?_
      refine wpAnyG_take (i := 0) (v := ?_) rfl (by kernel_rfl) (by kernel_rfl) (by kernel_rfl) hG rfl ?_ ?_
      rotate_left
      (focus (intro ww hSw; obtain ⟨r0_0, r0_1, r0_2, r0_3, r0_4⟩ := hSw; go_simp; (try with_reducible rfl)))
      (try simp only [Act.put, List.setIfInBounds_toArray, List.set_cons_zero, List.set_cons_succ, List.getElem_toArray, List.getElem_cons_zero, List.getElem_cons_succ])
      refine wpAnyG_take (i := 1) (v := ?_) rfl (by kernel_rfl) (by kernel_rfl) (by kernel_rfl) hG rfl ?_ ?_
      rotate_left
      (focus (intro ww hSw; obtain ⟨r0_0, r0_1, r0_2, r0_3, r0_4⟩ := hSw; go_simp; (try with_reducible rfl)))
      (try simp only [Act.put, List.setIfInBounds_toArray, List.set_cons_zero, List.set_cons_succ, List.getElem_toArray, List.getElem_cons_zero, List.getElem_cons_succ])
      refine wpAnyG_store (i := 2) (fun w' => But [w.heap.size + 1 + 1 + 1] wr w' ∧ Box (w.heap.size + 1 + 1 + 1) (wd.1) (wd.2) w') rfl (by kernel_rfl) (⟨fun _ _ hx hy => ⟨hx.1.below hy, hx.2.below hy⟩, fun _ hx => hx.2⟩) rfl ?_ ?_
      · rintro ww hB
        obtain ⟨q0, q1, q2, q3, q4⟩ := (rt.below hB)
        refine ⟨((ww.setCell ⟨w.heap.size + 1 + 1 + 1, 0, none⟩ (.int .i64 (wd.1))).setCell ⟨w.heap.size + 1 + 1 + 1, 1, none⟩ (.int .i64 (wd.2))), ?_, (((But.of hB).set (by simp) _ _).set (by simp) _ _), Box.set ⟨q0, q1, q2, q3, q4⟩ _ _⟩
        go_simp
        try rfl
      (try simp only [Act.put, List.setIfInBounds_toArray, List.set_cons_zero, List.set_cons_succ, List.getElem_toArray, List.getElem_cons_zero, List.getElem_cons_succ])
      refine wpAnyG_done (by kernel_rfl) ?_ _
      rintro W21 ⟨hB, ho_rt⟩
      clear hR hG
      have hb := hB.toBelow hb (Nat.le_refl _) (by intro k hk; simp only [List.mem_cons, List.not_mem_nil, or_false] at hk; omega)
      have ct := hB.city ct (by simp only [List.mem_cons, List.not_mem_nil, or_false]; omega)
      have hf := hB.half hf (by simp only [List.mem_cons, List.not_mem_nil, or_false]; omega)
      have cp := hB.one cp (by simp only [List.mem_cons, List.not_mem_nil, or_false]; omega)
      have dy := hB.one dy (by simp only [List.mem_cons, List.not_mem_nil, or_false]; omega)
      have wi := hB.box wi (by simp only [List.mem_cons, List.not_mem_nil, or_false]; omega)
      have al := hB.box al (by simp only [List.mem_cons, List.not_mem_nil, or_false]; omega)
      have rt := ho_rt
      clear ho_rt
      clear hB
      have Hrt := Lib.hid rt
      obtain ⟨rt_0, rt_1, rt_2, rt_3, rt_4⟩ := rt
      have rt_n : (w.heap.size + 1 + 1 + 1) ≠ W21.heap.size := Nat.ne_of_lt rt_4
      go_wp2_with fail
      exact bodyPost_ret (v := .tuple #[.int .i64 0, en wd]) (by simp [results, Tryd.results81, go_sem, rt_0, rt_1]) rfl ⟨by rw [← HR2.out], hb⟩
end Go.Proofs.YtjcgojbfjefbcaaDoor
