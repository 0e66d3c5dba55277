/- Whether all numbers of a lamp are in their ranges. -/
import Derived.Test.YtgmpipciinphiaaFld
import Derived.Test.YtgmpipciinphiaaFdv
import Derived.Laws.EntriesVeiled
import Derived.Shelf.Abstract
namespace Go.Proofs.Ytgmpipciinphiaa
set_option linter.unusedSimpArgs false
set_option linter.unusedVariables false
open Go.RowKit
attribute [local go_sem ↓] Go.wp_at_zero Go.wp_at_succ

def inLamp (l : Lmp) : Nat → Bool
  | 0 => inB l.lumens 1 1000000
  | 1 => inB l.power 1 5000000
  | 2 => inB l.standing 0 5000000
  | 3 => inB l.tol 0 1000
  | 4 => inB l.alo 0 1000 && inB l.ahi l.alo 1000
  | 5 => inB l.dlo 0 1000 && inB l.dhi l.dlo 1000
  | 6 => inB l.life 1 200000
  | 7 => inB l.dim 0 1000
  | _ => inB l.rest 0 3600
def lampRn (l : Lmp) (n : Nat) : Bool := (List.range n).all (inLamp l)
def lampR (l : Lmp) : Bool := lampRn l 9 && decide (l.standing ≤ l.power)

theorem lampRn_succ (l : Lmp) (n : Nat) : lampRn l (n+1) = (lampRn l n && inLamp l n) := by
  unfold lampRn; rw [List.range_succ, List.all_append]; simp
theorem lampRn_no {l : Lmp} {k n : Nat} (h : inLamp l k = false) (hk : k < n) : lampRn l n = false := by
  unfold lampRn; rw [List.all_eq_false]; exact ⟨k, by simpa using hk, by rw [h]; decide⟩

/-- what a round of the loop over the fields does -/
def Round (b o : Nat) (l : Lmp) (w : World) (k : Nat) : Prop :=
  ∃ (s : ByteArray) (a m : Int) (g : FuncId), (∀ W : World, (Instr.index 141 fieldsV (.int .i64 k)).run Try.prog W = .ok (.agg #[.string s, .int .i64 a, .int .i64 m, .func (.func g) #[] #[]]) W) ∧
    ∀ W : World, Own w.heap.size w W → Calls Try.prog 103 #[.agg #[.string s, .int .i64 a, .int .i64 m, .func (.func g) #[] #[]], .pointer (some ⟨b, o, none⟩)] W fun e w' => e = .returned (.bool (inLamp l k)) ∧ Own W.heap.size W w'

theorem round_at (b o : Nat) (l : Lmp) (w : World) (h : LmpIn w.heap.size b o l w) (k : Nat) (hk : k < 9) : Round b o l w k := by
  have hb := h.lt
  have keep : ∀ {W : World} {p : Addr} {v : Value}, p.block = b → Own w.heap.size w W → w.cell? p = some v → W.cell? p = some v := fun hp ho hc => by rw [ho.cell (by omega)]; exact hc
  have up : ∀ {W : World}, Own w.heap.size w W → b < W.heap.size := fun ho => Nat.lt_of_lt_of_le hb ho.size
  match k, hk with
  | 0, _ => exact ⟨⟨fldW 0⟩, _, _, 109, fun W => by kernel_rfl, fun W ho => isIn1 _ 1 1000000 l.lumens _ b o (o + 3) W (up ho) (ends_1 b o) (enters_of Try.func109 (by kernel_rfl) rfl) (keep rfl ho h.c3)⟩
  | 1, _ => exact ⟨⟨fldW 1⟩, _, _, 110, fun W => by kernel_rfl, fun W ho => isIn1 _ 1 5000000 l.power _ b o (o + 4) W (up ho) (ends_2 b o) (enters_of Try.func110 (by kernel_rfl) rfl) (keep rfl ho h.c4)⟩
  | 2, _ => exact ⟨⟨fldW 2⟩, _, _, 111, fun W => by kernel_rfl, fun W ho => isIn1 _ 0 5000000 l.standing _ b o (o + 5) W (up ho) (ends_3 b o) (enters_of Try.func111 (by kernel_rfl) rfl) (keep rfl ho h.c5)⟩
  | 3, _ => exact ⟨⟨fldW 3⟩, _, _, 112, fun W => by kernel_rfl, fun W ho => isIn1 _ 0 1000 l.tol _ b o (o + 6) W (up ho) (ends_4 b o) (enters_of Try.func112 (by kernel_rfl) rfl) (keep rfl ho h.c6)⟩
  | 4, _ => exact ⟨⟨fldW 4⟩, _, _, 113, fun W => by kernel_rfl, fun W ho => isIn2 _ 0 1000 l.alo l.ahi _ b o (o + 7) (o + 8) W (up ho) (ends_5 b o) (enters_of Try.func113 (by kernel_rfl) rfl) (keep rfl ho h.c7) (keep rfl ho h.c8)⟩
  | 5, _ => exact ⟨⟨fldW 5⟩, _, _, 114, fun W => by kernel_rfl, fun W ho => isIn2 _ 0 1000 l.dlo l.dhi _ b o (o + 9) (o + 10) W (up ho) (ends_6 b o) (enters_of Try.func114 (by kernel_rfl) rfl) (keep rfl ho h.c9) (keep rfl ho h.c10)⟩
  | 6, _ => exact ⟨⟨fldW 6⟩, _, _, 115, fun W => by kernel_rfl, fun W ho => isIn1 _ 1 200000 l.life _ b o (o + 11) W (up ho) (ends_7 b o) (enters_of Try.func115 (by kernel_rfl) rfl) (keep rfl ho h.c11)⟩
  | 7, _ => exact ⟨⟨fldW 7⟩, _, _, 116, fun W => by kernel_rfl, fun W ho => isIn1 _ 0 1000 l.dim _ b o (o + 12) W (up ho) (ends_8 b o) (enters_of Try.func116 (by kernel_rfl) rfl) (keep rfl ho h.c12)⟩
  | 8, _ => exact ⟨⟨fldW 8⟩, _, _, 117, fun W => by kernel_rfl, fun W ho => isIn1 _ 0 3600 l.rest _ b o (o + 13) W (up ho) (ends_9 b o) (enters_of Try.func117 (by kernel_rfl) rfl) (keep rfl ho h.c13)⟩

set_option maxHeartbeats 1000000 in
theorem areInRange_any (b o : Nat) (l : Lmp) (w : World) (h : LmpIn w.heap.size b o l w) :
    Calls Try.prog 74 #[.pointer (some ⟨b, o, none⟩)] w fun e w' => e = .returned (.bool (lampR l)) ∧ Own w.heap.size w w' := by
  have hb := h.lt
  have H := Lib.hid h
  clear h
  go_enter Try.func74, Try.ntmps74
  go_wp2_with fail
  refine (fields_any _).mono ?_
  rintro e w1 ⟨rfl, hb1⟩
  go_wp2_with fail
  go_loopg [6] 9 (fun n i' wr => ∃ i : Nat, i ≤ 9 ∧ n = 9 - i ∧ i' = .int .i64 i ∧ Hid (lampRn l i = true) ∧ Own w.heap.size w wr)
  case atStart => exact ⟨0, by omega, by omega, rfl, rfl, hb1⟩
  case round =>
    obtain ⟨i, hi, hn0, rfl, ha, hbr⟩ := hrel
    have HN := Lib.hid hn0
    clear hn0 hb1
    have hsz := hbr.size
    by_cases hlt : i < 9
    · obtain ⟨s, a, m, g, ix, hin⟩ := round_at b o l w H.out i hlt
      have HIN := Lib.hid hin
      clear hin
      have hs := lampRn_succ l i
      cases hd : inLamp l i
      · have HF : Hid (lampR l = false) := by
          show lampR l = false
          unfold lampR; rw [lampRn_no hd hlt]; rfl
        have HD := Lib.hid hd
        clear hd hs
        go_wp2_with fail
        refine (HIN.out _ (hbr.alloc hsz _)).mono ?_
        rintro e w2 ⟨rfl, hb2⟩
        rw [HD.out]
        have hb3 := (hbr.alloc hsz _).trans (hb2.mono (by simp; omega))
        go_wp2_with fail
        go_ret
        exact ⟨by rw [HF.out]; rfl, hb3⟩
      · have ha' : Hid (lampRn l (i+1) = true) := by
          show lampRn l (i+1) = true
          rw [hs, ha, hd]; rfl
        have HD := Lib.hid hd
        clear hd hs
        go_wp2_with fail
        refine (HIN.out _ (hbr.alloc hsz _)).mono ?_
        rintro e w2 ⟨rfl, hb2⟩
        rw [HD.out]
        have hb3 := (hbr.alloc hsz _).trans (hb2.mono (by simp; omega))
        go_wp2_with fail
        go_roundg (9 - (i + 1))
        case measure => have := HN.out; omega
        case rel => exact ⟨i + 1, by omega, rfl, by go_num, ha', hb3⟩
    · obtain rfl : i = 9 := by omega
      have lk := H.out.keep hbr.below (Nat.le_refl _)
      have c4 := lk.c4
      have c5 := lk.c5
      clear lk
      have HA := Lib.hid (show lampR l = decide (l.standing ≤ l.power) by unfold lampR; rw [ha]; rfl)
      clear ha
      go_wp2_with fail
      go_quiet (fail)
      go_wp2_with fail
      go_ret
      exact ⟨by rw [HA.out]; rfl, hbr.drewN _⟩
end Go.Proofs.Ytgmpipciinphiaa
