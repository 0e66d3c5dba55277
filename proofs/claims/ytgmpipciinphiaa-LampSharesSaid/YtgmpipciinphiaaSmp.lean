/- The sample of the statements. -/
import Derived.Test.YtgmpipciinphiaaDat
namespace Go.Proofs.Ytgmpipciinphiaa
set_option linter.unusedSimpArgs false
set_option linter.unusedVariables false
open Go.RowKit

/-- the sample's catalogue, in the blocks from s on -/
def smpT (s : Nat) : Tab := { name := { data := #[119, 105, 100, 101] }, us := ⟨some ⟨s + 1, 0, none⟩, 3, [-1000, 0, 2000]⟩, vs := ⟨some ⟨s + 1 + 1, 0, none⟩, 2, [-1000, 1000]⟩, ra := some ⟨s + 1 + 1 + 1 + 1 + 1 + 1, 0, none⟩, rc := 3, rows := [⟨some ⟨s + 1 + 1 + 1, 0, none⟩, 2, [100, 300]⟩, ⟨some ⟨s + 1 + 1 + 1 + 1, 0, none⟩, 2, [200, 600]⟩, ⟨some ⟨s + 1 + 1 + 1 + 1 + 1, 0, none⟩, 2, [0, 100]⟩], side := 50, sky := 5 }
def smpL : Lmp := { name := { data := #[104, 101, 97, 100] }, table := 0, kind := 1, lumens := 8000, power := 60000, standing := 500, tol := 50, alo := 2, ahi := 4, dlo := 3, dhi := 5, life := 100000, dim := 200, rest := 0 }
def smp (s : Nat) : Cat := { ta := some ⟨s + 1 + 1 + 1 + 1 + 1 + 1 + 1, 0, none⟩, tc := 1, tabs := [smpT s], la := some ⟨s + 1 + 1 + 1 + 1 + 1 + 1 + 1 + 1, 0, none⟩, lc := 1, lamps := [smpL] }

set_option maxRecDepth 100000 in
set_option maxHeartbeats 2000000 in
theorem sample_any (w : World) : Calls Try.prog 44 #[] w fun e w' => e = .returned (.agg #[(smp w.heap.size).tv, (smp w.heap.size).lv]) ∧ CatIn w'.heap.size (smp w.heap.size) w' ∧ Own w.heap.size w w' := by
  go_enter Try.func44, Try.ntmps44
  go_wp2_with fail
  refine bodyPost_ret (v := .agg #[(smp w.heap.size).tv, (smp w.heap.size).lv]) (by simp [results, Try.results44, go_sem, smp, Cat.tv, Cat.lv]) rfl ⟨rfl, ?_, ?_⟩
  · refine ⟨⟨by show 1 ≤ maxLen; decide, fun _ => ⟨_, _, rfl, by simp; try omega, fun i hi => ?_⟩⟩, ⟨by show 1 ≤ maxLen; decide, fun _ => ⟨_, _, rfl, by simp; try omega, fun i hi => ?_⟩⟩⟩
    · obtain rfl : i = 0 := by have : i < 1 := hi; omega
      refine ⟨(show 4 ≤ maxLen by decide), by simp; try omega, ?_, ?_, ?_, ?_, ?_, ?_, ⟨(show 3 ≤ maxLen by decide), fun _ => ⟨_, _, rfl, by simp; try omega, fun j hj => ?_⟩⟩, ⟨(show 2 ≤ maxLen by decide), fun _ => ⟨_, _, rfl, by simp; try omega, fun j hj => ?_⟩⟩, ⟨(show 3 ≤ maxLen by decide), fun _ => ⟨_, _, rfl, by simp; try omega, fun j hj => ?_⟩⟩⟩
      · simp [go_sem, smp, smpT, tabAt, Ints.val]
      · simp [go_sem, smp, smpT, tabAt, Ints.val]
      · simp [go_sem, smp, smpT, tabAt, Ints.val]
      · simp [go_sem, smp, smpT, tabAt, Ints.val]
      · simp [go_sem, smp, smpT, tabAt, Ints.val]
      · simp [go_sem, smp, smpT, tabAt, Ints.val]
      · have hj' : j < 3 := hj
        match j, hj' with
        | 0, _ => simp [go_sem, smp, smpT, tabAt, nth]
        | 1, _ => simp [go_sem, smp, smpT, tabAt, nth]
        | 2, _ => simp [go_sem, smp, smpT, tabAt, nth]
      · have hj' : j < 2 := hj
        match j, hj' with
        | 0, _ => simp [go_sem, smp, smpT, tabAt, nth]
        | 1, _ => simp [go_sem, smp, smpT, tabAt, nth]
      · have hj' : j < 3 := hj
        match j, hj' with
        | 0, _ =>
          refine ⟨by simp [go_sem, smp, smpT, tabAt, rowAt, Ints.val], ⟨(show 2 ≤ maxLen by decide), fun _ => ⟨_, _, rfl, by simp; try omega, fun k hk => ?_⟩⟩⟩
          have hk' : k < 2 := hk
          match k, hk' with
          | 0, _ => simp [go_sem, smp, smpT, tabAt, rowAt, nth]
          | 1, _ => simp [go_sem, smp, smpT, tabAt, rowAt, nth]
        | 1, _ =>
          refine ⟨by simp [go_sem, smp, smpT, tabAt, rowAt, Ints.val], ⟨(show 2 ≤ maxLen by decide), fun _ => ⟨_, _, rfl, by simp; try omega, fun k hk => ?_⟩⟩⟩
          have hk' : k < 2 := hk
          match k, hk' with
          | 0, _ => simp [go_sem, smp, smpT, tabAt, rowAt, nth]
          | 1, _ => simp [go_sem, smp, smpT, tabAt, rowAt, nth]
        | 2, _ =>
          refine ⟨by simp [go_sem, smp, smpT, tabAt, rowAt, Ints.val], ⟨(show 2 ≤ maxLen by decide), fun _ => ⟨_, _, rfl, by simp; try omega, fun k hk => ?_⟩⟩⟩
          have hk' : k < 2 := hk
          match k, hk' with
          | 0, _ => simp [go_sem, smp, smpT, tabAt, rowAt, nth]
          | 1, _ => simp [go_sem, smp, smpT, tabAt, rowAt, nth]
    · obtain rfl : i = 0 := by have : i < 1 := hi; omega
      refine ⟨(show 4 ≤ maxLen by decide), by simp; try omega, ?_, ?_, ?_, ?_, ?_, ?_, ?_, ?_, ?_, ?_, ?_, ?_, ?_, ?_⟩ <;> simp [go_sem, smp, smpL, lmpAt]
  · refine Own.alloc (Own.alloc (Own.alloc (Own.alloc (Own.alloc (Own.alloc (Own.alloc (Own.alloc (Own.alloc (Own.refl _ _) ?_ _) ?_ _) ?_ _) ?_ _) ?_ _) ?_ _) ?_ _) ?_ _) ?_ _ <;> simp <;> omega
end Go.Proofs.Ytgmpipciinphiaa
