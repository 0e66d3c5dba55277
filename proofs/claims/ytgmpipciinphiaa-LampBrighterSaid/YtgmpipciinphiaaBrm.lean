/- LampBrighter: plain facts of a catalogue with a table of greater values. -/
import Derived.Test.YtgmpipciinphiaaShd
import Derived.Test.YtgmpipciinphiaaInt
import Derived.Laws.AppendOwn
namespace Go.Proofs.Ytgmpipciinphiaa
set_option linter.unusedSimpArgs false
set_option linter.unusedVariables false
open Go.RowKit

/-- what the law makes of value number j -/
def brt (m : List Int) (j : Nat) (x : Int) : Int := if j < m.length then min (x + nth m j) 10000000 else x
theorem brt_bd {m : List Int} (b : ∀ j, j < m.length → 0 ≤ nth m j ∧ nth m j ≤ 255) {j : Nat} {x : Int} (h0 : 0 ≤ x) (h1 : x ≤ 10000000) : x ≤ brt m j x ∧ brt m j x ≤ 10000000 := by
  unfold brt
  split
  · rename_i h; have := b j h; omega
  · omega
/-- the first k values of a row, of which the first one is number n -/
def brRow (m : List Int) (n : Nat) (xs : List Int) (k : Nat) : List Int := (List.range k).map fun j => brt m (n + j) (nth xs j)
theorem brRow_len (m : List Int) (n : Nat) (xs : List Int) (k : Nat) : (brRow m n xs k).length = k := by simp [brRow]
theorem brRow_succ (m : List Int) (n : Nat) (xs : List Int) (k : Nat) : brRow m n xs (k + 1) = brRow m n xs k ++ [brt m (n + k) (nth xs k)] := by simp [brRow, List.range_succ]
theorem nth_brRow {m : List Int} {n : Nat} {xs : List Int} {k j : Nat} (h : j < k) : nth (brRow m n xs k) j = brt m (n + j) (nth xs j) := by simp [nth, brRow, h]

/-- the table d is t with the values that the law makes -/
structure Brt (m : List Int) (t d : Tab) : Prop where
  name : d.name = t.name
  us : d.us = t.us
  vs : d.vs = t.vs
  side : d.side = t.side
  sky : d.sky = t.sky
  len : d.rows.length = t.rows.length
  row : ∀ i, i < t.rows.length → (rowAt d.rows i).xs = brRow m (i * t.vs.xs.length) (rowAt t.rows i).xs t.vs.xs.length

section
variable {m : List Int} {t d : Tab}
theorem Brt.val (h : Brt m t d) (ok : TabOk t) {i k : Nat} (hi : i < t.rows.length) (hk : k < t.vs.xs.length) : tval d i k = brt m (i * t.vs.xs.length + k) (tval t i k) := by
  unfold tval
  rw [h.row i hi, nth_brRow hk]
theorem Brt.le (h : Brt m t d) (ok : TabOk t) (b : ∀ j, j < m.length → 0 ≤ nth m j ∧ nth m j ≤ 255) : ∀ i k, i < t.us.xs.length → k < t.vs.xs.length → tval t i k ≤ tval d i k := fun i k hi hk => by
  have hi' : i < t.rows.length := by rw [ok.rows]; exact hi
  rw [h.val ok hi' hk]
  exact (brt_bd b (ok.v0 i k hi' hk) (ok.v1 i k hi' hk)).1
theorem Brt.shape (h : Brt m t d) (ok : TabOk t) : shapeB d = true := by
  unfold shapeB rowsB
  rw [h.us, h.vs, h.len, ok.rows]
  simp only [Bool.and_eq_true, decide_eq_true_eq, List.all_eq_true, true_and]
  intro r hr
  obtain ⟨i, hi, e⟩ := List.getElem_of_mem hr
  have hi' : i < t.rows.length := by rw [← h.len]; exact hi
  have er := h.row i hi'
  rw [rowAt_eq hi, e] at er
  rw [er, brRow_len]
theorem Brt.vals (h : Brt m t d) (ok : TabOk t) (b : ∀ j, j < m.length → 0 ≤ nth m j ∧ nth m j ≤ 255) : valsB d = true := by
  unfold valsB rowsR
  rw [h.side, h.sky]
  simp only [Bool.and_eq_true, List.all_eq_true, inB_iff]
  refine ⟨fun r hr => ?_, ⟨ok.s0, ok.s1⟩, ok.y0, ok.y1⟩
  obtain ⟨i, hi, e⟩ := List.getElem_of_mem hr
  have hi' : i < t.rows.length := by rw [← h.len]; exact hi
  have er := h.row i hi'
  rw [rowAt_eq hi, e] at er
  rw [er]
  unfold allB brRow
  rw [List.all_eq_true]
  intro x hx
  obtain ⟨j, hj, rfl⟩ := List.mem_map.1 hx
  have hj' : j < t.vs.xs.length := by simpa using hj
  have v0 := ok.v0 i j hi' hj'
  have k := brt_bd (j := i * t.vs.xs.length + j) b v0 (ok.v1 i j hi' hj')
  exact inB_iff.2 ⟨by omega, k.2⟩
end

theorem tabErr_keep {ts ts' : List Tab} {i : Nat} (hn : (tabAt ts' i).name = (tabAt ts i).name) (hx : tabIdx ts' (tabAt ts i).name = tabIdx ts (tabAt ts i).name) (hu : (tabAt ts' i).us = (tabAt ts i).us) (hv : (tabAt ts' i).vs = (tabAt ts i).vs)
    (hs : shapeB (tabAt ts' i) = true) (hval : valsB (tabAt ts' i) = true) (h : tabErr ts i = 0) : tabErr ts' i = 0 := by
  unfold tabErr at h ⊢
  rw [hn, hx, hu, hv, hs, hval]
  split at h; · omega
  rename_i h1
  split at h; · omega
  rename_i h2
  split at h; · omega
  rename_i h3
  split at h; · omega
  rename_i h4
  split at h; · omega
  rename_i h5
  rw [if_neg h1, if_neg h2, if_neg h3, if_neg h4, if_neg h5, if_neg (by decide), if_neg (by decide)]
theorem tabErr_sh {ts : List Tab} {i : Nat} (h : tabErr ts i = 0) : shapeB (tabAt ts i) = true ∧ valsB (tabAt ts i) = true := by
  unfold tabErr at h
  split at h; · omega
  split at h; · omega
  split at h; · omega
  split at h; · omega
  split at h; · omega
  split at h; · omega
  rename_i h6
  split at h; · omega
  rename_i h7
  exact ⟨bool_of_ne h6, bool_of_ne h7⟩
theorem firstErr_none {f : Nat → Int} : ∀ {n i : Nat}, (∀ j, i ≤ j → j < i + n → f j = 0) → (firstErr f i n).2 = 0
  | 0, i, _ => rfl
  | n + 1, i, h => by
    rw [firstErr_no (h i (by omega) (by omega))]
    exact firstErr_none fun j h1 h2 => h j (by omega) (by omega)
theorem tabAt_set {ts : List Tab} {k i : Nat} {d : Tab} (hk : k < ts.length) : tabAt (ts.set k d) i = if i = k then d else tabAt ts i := by
  unfold tabAt
  rw [List.getElem?_set]
  by_cases e : k = i
  · subst e; simp [hk]
  · rw [if_neg e, if_neg (by omega)]

/-- the catalogue with such a table has no error -/
theorem brt_chk {m : List Int} {c : Cat} {k : Nat} {d : Tab} {A : Option Addr} {tc : Nat} (h : chkE c = 0) (hk : k < c.tabs.length) (hd : Brt m (tabAt c.tabs k) d) (b : ∀ j, j < m.length → 0 ≤ nth m j ∧ nth m j ≤ 255) :
    chkE { c with ta := A, tc := tc, tabs := c.tabs.set k d } = 0 := by
  have ok := (catOk_of h).tab k hk
  unfold chkE at h ⊢
  split at h; · omega
  rename_i h1
  split at h
  · rename_i h2; exact absurd h h2
  rename_i h2
  split at h
  · rename_i h3; exact absurd h h3
  rename_i h3
  have h2' : (tabsE c).2 = 0 := by omega
  have hl : (c.tabs.set k d).length = c.tabs.length := List.length_set
  have hnm : ∀ i, (tabAt (c.tabs.set k d) i).name = (tabAt c.tabs i).name := fun i => by
    rw [tabAt_set hk]; split
    · rename_i e; rw [e]; exact hd.name
    · rfl
  have hidx : ∀ s, tabIdx (c.tabs.set k d) s = tabIdx c.tabs s := fun s => by
    unfold tabIdx; rw [hl]; congr 1; funext i; exact hnm i
  have ht : (tabsE { c with ta := A, tc := tc, tabs := c.tabs.set k d }).2 = 0 := by
    unfold tabsE
    refine firstErr_none fun j _ hj => ?_
    have hj' : j < c.tabs.length := by simp only [hl] at hj; omega
    have e := firstErr_zero h2' j (by omega) (by omega)
    by_cases ek : j = k
    · have et : tabAt (c.tabs.set k d) j = d := by rw [tabAt_set hk, if_pos ek]
      refine tabErr_keep (hnm j) (hidx _) ?_ ?_ ?_ ?_ e <;> show _ <;> (try rw [et]) 
      · rw [ek]; exact hd.us
      · rw [ek]; exact hd.vs
      · exact hd.shape ok
      · exact hd.vals ok b
    · have et : tabAt (c.tabs.set k d) j = tabAt c.tabs j := by rw [tabAt_set hk, if_neg ek]
      obtain ⟨s1, s2⟩ := tabErr_sh e
      exact tabErr_keep (hnm j) (hidx _) (by rw [et]) (by rw [et]) (by rw [et]; exact s1) (by rw [et]; exact s2) e
  have hls : (lmpsE { c with ta := A, tc := tc, tabs := c.tabs.set k d }).2 = 0 := by
    have : (lmpsE c).2 = 0 := by omega
    unfold lmpsE at this ⊢
    simp only [hl]
    exact this
  rw [if_neg (by simp only [hl]; exact h1), if_neg (fun hh => hh ht), if_neg (fun hh => hh hls)]

/-- what Share and Intensity answer for both -/
theorem brt_answers {m : List Int} {c : Cat} {k : Nat} {d : Tab} {A : Option Addr} {tc : Nat} (h : chkE c = 0) (hk : k < c.tabs.length) (hd : Brt m (tabAt c.tabs k) d) (b : ∀ j, j < m.length → 0 ≤ nth m j ∧ nth m j ≤ 255) (x y z : Int) :
    shaE c k 1 = 0 ∧ shaE { c with ta := A, tc := tc, tabs := c.tabs.set k d } k 1 = 0 ∧
    shaLo c k 1 ≤ shaLo { c with ta := A, tc := tc, tabs := c.tabs.set k d } k 1 ∧ shaHi c k 1 ≤ shaHi { c with ta := A, tc := tc, tabs := c.tabs.set k d } k 1 ∧
    ovE { c with ta := A, tc := tc, tabs := c.tabs.set k d } k x x y y z = ovE c k x x y y z ∧
    ovLo c k x x y y z ≤ ovLo { c with ta := A, tc := tc, tabs := c.tabs.set k d } k x x y y z ∧ ovHi c k x x y y z ≤ ovHi { c with ta := A, tc := tc, tabs := c.tabs.set k d } k x x y y z := by
  have h' := brt_chk (A := A) (tc := tc) h hk hd b
  have ok := (catOk_of h).tab k hk
  have hl : (c.tabs.set k d).length = c.tabs.length := List.length_set
  have et : tabAt (c.tabs.set k d) k = d := by rw [tabAt_set hk, if_pos rfl]
  have okd : TabOk d := by
    have := (catOk_of h').tab k (by simp only [hl]; exact hk)
    simp only [et] at this
    exact this
  have e0 : errOf c k c.tabs.length = 0 := by
    unfold errOf; rw [if_neg (fun hh => hh h), if_neg]; rw [inB_iff.2 ⟨by omega, by omega⟩]; decide
  have e1 : errOf { c with ta := A, tc := tc, tabs := c.tabs.set k d } k (c.tabs.set k d).length = 0 := by
    unfold errOf; rw [if_neg (fun hh => hh h'), if_neg]; rw [inB_iff.2 ⟨by omega, by rw [hl]; omega⟩]; decide
  have s0 : shaE c k 1 = 0 := by unfold shaE; rw [if_neg (fun hh => hh e0)]; rfl
  have s1 : shaE { c with ta := A, tc := tc, tabs := c.tabs.set k d } k 1 = 0 := by unfold shaE; rw [if_neg (fun hh => hh e1)]; rfl
  have o1 : ovE { c with ta := A, tc := tc, tabs := c.tabs.set k d } k x x y y z = ovE c k x x y y z := by
    unfold ovE; rw [if_neg (fun hh => hh e1), if_neg (fun hh => hh e0)]
  obtain ⟨m0, m1⟩ := to_mono ok (by rw [hd.us]) (by rw [hd.vs]) (hd.le ok b) 1
  refine ⟨s0, s1, ?_, ?_, o1, ?_⟩
  · unfold shaLo
    rw [s0, s1, if_neg (by decide), if_neg (by decide)]
    simp only [Int.toNat_natCast, et]
    exact Int.ediv_le_ediv (by decide) m0
  · unfold shaHi
    rw [s0, s1, if_neg (by decide), if_neg (by decide)]
    simp only [Int.toNat_natCast, et]
    exact ceil_mono (by decide) m1
  · unfold ovLo ovHi
    rw [o1]
    by_cases hz : ovE c k x x y y z = 0
    · rw [hz, if_neg (by decide), if_neg (by decide), if_neg (by decide), if_neg (by decide)]
      simp only [Int.toNat_natCast, et]
      have hr : rectE x x y y z = 0 := by unfold ovE at hz; rw [if_neg (fun hh => hh e0)] at hz; exact hz
      obtain ⟨r0, r1, r2, _, r3, r4, _, r5⟩ := rectE_ok hr
      obtain ⟨f0, f1⟩ := fnd_point ok r0 r1 r2 r3 r4 r5
      obtain ⟨g0, g1⟩ := fnd_point okd r0 r1 r2 r3 r4 r5
      rw [f0, f1, g0, g1]
      exact rval_mono ok (by rw [hd.us]) (by rw [hd.vs]) (by rw [hd.side]; exact Int.le_refl _) (hd.le ok b) r0 r1 _ _
    · rw [if_pos hz, if_pos hz, if_pos hz, if_pos hz]
      exact ⟨Int.le_refl _, Int.le_refl _⟩
end Go.Proofs.Ytgmpipciinphiaa

namespace Go.Proofs.Ytgmpipciinphiaa
open Go.RowKit Go.Shelf

/-- bytes that lie below block B -/
def BytesIn (B : Nat) (A : Option Addr) (xs : List Int) (w : World) : Prop :=
  xs.length ≤ maxLen ∧ (0 < xs.length → ∃ b o, A = some ⟨b, o, none⟩ ∧ b < B ∧ ∀ j, j < xs.length → w.cell? ⟨b, o + j, none⟩ = some (.int .u8 (nth xs j)))
theorem BytesIn.keep {B B' : Nat} {w w' : World} {A : Option Addr} {xs : List Int} (h : BytesIn B A xs w) (k : Below B' w w') (hB : B ≤ B') : BytesIn B A xs w' := by
  refine ⟨h.1, fun hn => ?_⟩
  obtain ⟨b, o, ha, hb, hc⟩ := h.2 hn
  exact ⟨b, o, ha, hb, fun j hj => by rw [k.cell (p := ⟨b, o + j, none⟩) (Nat.lt_of_lt_of_le hb hB)]; exact hc j hj⟩

/-- the cells of a table -/
def tcell (t : Tab) : Nat → Value
  | 0 => .string t.name
  | 1 => t.us.val
  | 2 => t.vs.val
  | 3 => .slice t.ra t.rows.length t.rc
  | 4 => .int .i64 t.side
  | _ => .int .i64 t.sky
theorem TabIn.cell {B b o : Nat} {t : Tab} {w : World} (h : TabIn B b o t w) {j : Nat} (hj : j < 6) : w.cell? ⟨b, o + j, none⟩ = some (tcell t j) := by
  rcases (show j = 0 ∨ j = 1 ∨ j = 2 ∨ j = 3 ∨ j = 4 ∨ j = 5 by omega) with rfl | rfl | rfl | rfl | rfl | rfl
  · exact h.c0
  · exact h.c1
  · exact h.c2
  · exact h.c3
  · exact h.c4
  · exact h.c5
theorem tcell_one (t : Tab) (j : Nat) : (tcell t j).oneCell' = true := by
  unfold tcell; split <;> rfl
/-- all cells of tables, in a row -/
def tnews (ts : List Tab) : List Value := (List.range (ts.length * 6)).map fun k => tcell (tabAt ts (k / 6)) (k % 6)
theorem tnews_len (ts : List Tab) : (tnews ts).length = ts.length * 6 := by simp [tnews]
theorem tnews_at {ts : List Tab} {i j : Nat} (hi : i < ts.length) (hj : j < 6) : (tnews ts)[i * 6 + j]? = some (tcell (tabAt ts i) j) := by
  have h : i * 6 + j < ts.length * 6 := by omega
  have e1 : (i * 6 + j) / 6 = i := by omega
  have e2 : (i * 6 + j) % 6 = j := by omega
  simp [tnews, h, e1, e2]
theorem tnews_one (ts : List Tab) : ∀ u ∈ tnews ts, u.oneCell' = true := by
  intro u hu
  unfold tnews at hu
  obtain ⟨k, _, rfl⟩ := List.mem_map.1 hu
  exact tcell_one _ _
theorem tnews_src {B b o : Nat} {ts : List Tab} {w : World} (h : ∀ i, i < ts.length → TabIn B b (o + i * 6) (tabAt ts i) w) : ∀ j u, (tnews ts)[j]? = some u → w.cell? ((⟨b, o, none⟩ : Addr).add j) = some u := by
  intro j u hu
  have hj : j < ts.length * 6 := by
    have := (List.getElem?_eq_some_iff.1 hu).1
    rw [tnews_len] at this; exact this
  have e : j = j / 6 * 6 + j % 6 := by omega
  have h1 := tnews_at (ts := ts) (i := j / 6) (j := j % 6) (by omega) (by omega)
  rw [← e] at h1
  rw [h1] at hu
  have h2 := (h (j / 6) (by omega)).cell (j := j % 6) (by omega)
  have ea : (⟨b, o, none⟩ : Addr).add j = ⟨b, o + j / 6 * 6 + j % 6, none⟩ := by
    unfold Addr.add
    split
    · rename_i hz; subst hz; simp
    · show (⟨b, o + j, none⟩ : Addr) = _
      rw [show o + j = o + j / 6 * 6 + j % 6 by omega]
  rw [ea, h2]; exact hu

/-- the cells of tables, in a block from its head on -/
def TC (W : World) (g : Nat) (ts : List Tab) : Prop := ∀ i, i < ts.length → ∀ j, j < 6 → W.cell? ⟨g, i * 6 + j, none⟩ = some (tcell (tabAt ts i) j)
theorem TC.of_own {W : World} {base g cap : Nat} {e : TypeId} {ts : List Tab} (h : W.ownsRow base e 6 (.slice (some ⟨g, 0, none⟩) ts.length cap) ts.length (tnews ts)) : TC W g ts := fun i hi j hj => by
  have := h.cells (g := g) rfl (i * 6 + j) _ (tnews_at hi hj)
  have ea : (⟨g, 0, none⟩ : Addr).add (i * 6 + j) = ⟨g, i * 6 + j, none⟩ := by
    unfold Addr.add
    split
    · rename_i hz; rw [hz]
    · show (⟨g, 0 + (i * 6 + j), none⟩ : Addr) = _
      rw [Nat.zero_add]
  rw [ea] at this; exact this
theorem TC.keep {W W' : World} {g : Nat} {ts : List Tab} (h : TC W g ts) (hg : W'.heap[g]? = W.heap[g]?) : TC W' g ts := fun i hi j hj => by
  rw [World.cell?_of_block (a := ⟨g, i * 6 + j, none⟩) hg]; exact h i hi j hj
/-- the rows of one table are set anew -/
theorem TC.set {W : World} {g m : Nat} {ts : List Tab} {t t' : Tab} (h : TC W g (ts.set m t)) (hm : m < ts.length) (hn : t'.name = t.name) (hu : t'.us = t.us) (hv : t'.vs = t.vs) (hs : t'.side = t.side) (hy : t'.sky = t.sky) :
    TC (W.setCell ⟨g, m * 6 + 3, none⟩ (.slice t'.ra t'.rows.length t'.rc)) g (ts.set m t') := fun i hi j hj => by
  rw [List.length_set] at hi
  have h1 := h i (by rw [List.length_set]; exact hi) j hj
  rw [tabAt_set hm] at h1 ⊢
  by_cases e : i * 6 + j = m * 6 + 3
  · have e1 : i = m := by omega
    have e2 : j = 3 := by omega
    subst e1 e2
    rw [if_pos rfl] at h1 ⊢
    simp [go_sem, h1, tcell]
  · have e3 : (W.setCell ⟨g, m * 6 + 3, none⟩ (.slice t'.ra t'.rows.length t'.rc)).cell? ⟨g, i * 6 + j, none⟩ = W.cell? ⟨g, i * 6 + j, none⟩ := World.cell?_setCell_other W _ _ _ (fun hh => by injection hh with _ h2 _; omega)
    rw [e3, h1]
    by_cases c : i = m
    · rw [if_pos c, if_pos c]
      have : j ≠ 3 := by omega
      congr 1
      rcases (show j = 0 ∨ j = 1 ∨ j = 2 ∨ j = 4 ∨ j = 5 by omega) with rfl | rfl | rfl | rfl | rfl
      · show Value.string _ = .string _; rw [hn]
      · show t.us.val = t'.us.val; rw [hu]
      · show t.vs.val = t'.vs.val; rw [hv]
      · show Value.int _ _ = .int _ _; rw [hs]
      · show Value.int _ _ = .int _ _; rw [hy]
    · rw [if_neg c, if_neg c]

theorem grown_set (W : World) (g k : Nat) (v : Value) : W.grownBy (W.setCell ⟨g, k, none⟩ v) (some g) :=
  ⟨rfl, rfl, rfl, by simp, fun j hj hne => Below.heap_setCell W ⟨g, k, none⟩ v j (by intro e; exact hne (by rw [e]))⟩
/-- rows of elements of two kinds lie in two blocks -/
theorem own_ne {w : World} {b1 b2 s1 s2 n1 n2 : Nat} {e1 e2 : TypeId} {v1 v2 : Value} {xs ys : List Value} (h : w.ownsRow b1 e1 s1 v1 n1 xs) (k : w.ownsRow b2 e2 s2 v2 n2 ys) (he : e1 ≠ e2) : v1.ownBlock = none ∨ v1.ownBlock ≠ v2.ownBlock := by
  rcases h.2 with ⟨rfl, _⟩ | ⟨g, cap, cur, rfl, _, hg, _⟩
  · exact .inl rfl
  · right
    rcases k.2 with ⟨rfl, _⟩ | ⟨g', cap', cur', rfl, _, hg', _⟩
    · simp [Value.ownBlock]
    · intro e
      have e' : g = g' := by simpa [Value.ownBlock] using e
      subst e'
      rw [hg] at hg'
      injection hg' with hg'
      injection hg' with _ ht
      exact he ht

/-- the boxes of the law's arguments -/
structure Kpl2 (c : Cat) (n x y h : Int) (s : Nat) (W : World) : Prop where
  t0 : W.cell? ⟨s, 0, none⟩ = some (.slice c.ta c.tabs.length c.tc)
  t1 : W.cell? ⟨s, 1, none⟩ = some (.slice c.la c.lamps.length c.lc)
  b0 : W.cell? ⟨s + 1, 0, none⟩ = some (.int .i64 n)
  b1 : W.cell? ⟨s + 1, 1, none⟩ = some (.int .i64 x)
  b2 : W.cell? ⟨s + 1, 2, none⟩ = some (.int .i64 y)
  b3 : W.cell? ⟨s + 1, 3, none⟩ = some (.int .i64 h)
theorem Kpl2.lt {c : Cat} {n x y h : Int} {s : Nat} {W : World} (g : Kpl2 c n x y h s W) : s + 1 < W.heap.size := by
  have := g.b0
  unfold World.cell? at this
  split at this
  · rename_i hb; exact (Array.getElem?_eq_some_iff.1 hb).1
  · cases this
theorem Kpl2.keep {c : Cat} {n x y h : Int} {s B : Nat} {W W1 : World} (g : Kpl2 c n x y h s W) (k : Below B W W1) (hs : s + 1 < B) : Kpl2 c n x y h s W1 := by
  refine ⟨?_, ?_, ?_, ?_, ?_, ?_⟩
  · rw [k.cell (p := ⟨s, 0, none⟩) (by show s < B; omega)]; exact g.t0
  · rw [k.cell (p := ⟨s, 1, none⟩) (by show s < B; omega)]; exact g.t1
  · rw [k.cell (p := ⟨s + 1, 0, none⟩) (by show s + 1 < B; omega)]; exact g.b0
  · rw [k.cell (p := ⟨s + 1, 1, none⟩) (by show s + 1 < B; omega)]; exact g.b1
  · rw [k.cell (p := ⟨s + 1, 2, none⟩) (by show s + 1 < B; omega)]; exact g.b2
  · rw [k.cell (p := ⟨s + 1, 3, none⟩) (by show s + 1 < B; omega)]; exact g.b3

/-- the table that is made: so many rows of it are there -/
def dcur (c : Cat) (m : Nat) (A : Option Addr) (C : Nat) (rs : List Ints) : Tab := { tabAt c.tabs m with ra := A, rc := C, rows := rs }
/-- what the loops keep -/
structure BrK (c : Cat) (m : Nat) (x y h : Int) (D g cg : Nat) (A : Option Addr) (C : Nat) (rs : List Ints) (w W : World) : Prop where
  a0 : W.cell? ⟨w.heap.size, 0, none⟩ = some (.slice c.ta c.tabs.length c.tc)
  a1 : W.cell? ⟨w.heap.size, 1, none⟩ = some (.slice c.la c.lamps.length c.lc)
  p0 : W.cell? ⟨w.heap.size + 1, 0, none⟩ = some (.int .i64 m)
  p1 : W.cell? ⟨w.heap.size + 1, 1, none⟩ = some (.int .i64 x)
  p2 : W.cell? ⟨w.heap.size + 1, 2, none⟩ = some (.int .i64 y)
  p3 : W.cell? ⟨w.heap.size + 1, 3, none⟩ = some (.int .i64 h)
  d0 : W.cell? ⟨D, 0, none⟩ = some (.slice (some ⟨g, 0, none⟩) c.tabs.length cg)
  d1 : W.cell? ⟨D, 1, none⟩ = some (.slice c.la c.lamps.length c.lc)
  tc : TC W g (c.tabs.set m (dcur c m A C rs))
  fr : W.frozen? ⟨g, m * 6 + 3, none⟩ = false
  own : W.ownsRow (g + 1) 58 1 (.slice A rs.length C) rs.length (rs.map Ints.val)
  row : ∀ r, r < rs.length → W.ownsRow (g + 1) 3 1 (rowAt rs r).val (rowAt rs r).xs.length ((rowAt rs r).xs.map (Value.int .i64))
  b : Below w.heap.size w W
  sd : w.heap.size + 1 < D
  dg : D < g
  gl : g < W.heap.size

section
variable {c : Cat} {m : Nat} {x y h : Int} {D g cg : Nat} {A : Option Addr} {C : Nat} {rs : List Ints} {w W : World}
/-- blocks of its own, from g + 1 on, may change but those that are named -/
theorem BrK.grow (k : BrK c m x y h D g cg A C rs w W) {W1 : World} {row : Option Nat} (hg : W.grownBy W1 row) (hrow : ∀ j, row = some j → g + 1 ≤ j) (ho : (Value.slice A rs.length C).ownBlock = none ∨ (Value.slice A rs.length C).ownBlock ≠ row)
    (hr : ∀ r, r < rs.length → (rowAt rs r).val.ownBlock = none ∨ (rowAt rs r).val.ownBlock ≠ row) : BrK c m x y h D g cg A C rs w W1 := by
  have hb : ∀ j, j ≤ g → W1.heap[j]? = W.heap[j]? := fun j hj => hg.block j (by have := k.gl; omega) (fun e => by have := hrow j e.symm; omega)
  have e : ∀ p : Addr, p.block ≤ g → W1.cell? p = W.cell? p := fun p hp => World.cell?_of_block (hb _ hp)
  have sd := k.sd
  have dg := k.dg
  refine ⟨?_, ?_, ?_, ?_, ?_, ?_, ?_, ?_, k.tc.keep (hb g (Nat.le_refl _)), ?_, k.own.kept hg ho, fun r h => (k.row r h).kept hg (hr r h), ?_, k.sd, k.dg, Nat.lt_of_lt_of_le k.gl hg.size⟩
  · rw [e _ (by show w.heap.size ≤ g; omega)]; exact k.a0
  · rw [e _ (by show w.heap.size ≤ g; omega)]; exact k.a1
  · rw [e _ (by show w.heap.size + 1 ≤ g; omega)]; exact k.p0
  · rw [e _ (by show w.heap.size + 1 ≤ g; omega)]; exact k.p1
  · rw [e _ (by show w.heap.size + 1 ≤ g; omega)]; exact k.p2
  · rw [e _ (by show w.heap.size + 1 ≤ g; omega)]; exact k.p3
  · rw [e _ (by show D ≤ g; omega)]; exact k.d0
  · rw [e _ (by show D ≤ g; omega)]; exact k.d1
  · rw [World.frozen?_of_block (a := ⟨g, m * 6 + 3, none⟩) (hb g (Nat.le_refl _))]; exact k.fr
  · exact ⟨hg.os.trans k.b.os, hg.tape.trans k.b.tape, hg.output.trans k.b.output, Nat.le_trans k.b.size hg.size, fun j hj => (hb j (by omega)).trans (k.b.block j hj)⟩
theorem BrK.call (k : BrK c m x y h D g cg A C rs w W) {W1 : World} (hb : Below W.heap.size W W1) : BrK c m x y h D g cg A C rs w W1 :=
  k.grow (row := none) ⟨hb.os, hb.tape, hb.output, hb.size, fun j hj _ => hb.block j hj⟩ (fun j e => by cases e) (by cases h : (Value.slice A rs.length C).ownBlock <;> simp) (fun r _ => by cases h : (rowAt rs r).val.ownBlock <;> simp)
theorem rowAt_app {rs : List Ints} {l : Ints} {r : Nat} (hr : r < rs.length + 1) : rowAt (rs ++ [l]) r = if r < rs.length then rowAt rs r else l := by
  unfold rowAt
  by_cases c : r < rs.length
  · rw [if_pos c, List.getElem?_append_left c]
  · have : r = rs.length := by omega
    subst this
    rw [if_neg c, List.getElem?_append_right (Nat.le_refl _)]
    simp
/-- a row more -/
theorem BrK.round (k : BrK c m x y h D g cg A C rs w W) {W2 W3 : World} {vl v' : Value} {xs : List Int} {o : Obj} (hm : m < c.tabs.length) (h2 : Below W.heap.size W W2)
    (hl : W2.ownsRow W.heap.size 3 1 vl xs.length (xs.map (Value.int .i64))) (hx : 0 < xs.length)
    (h3 : W3.ownsRow (g + 1) 58 1 v' (rs.length + 1) (rs.map Ints.val ++ [vl])) (hg : (W2.alloc o).grownBy W3 (Value.slice A rs.length C).ownBlock) :
    ∃ (A' : Option Addr) (C' : Nat) (l : Ints), v' = .slice A' (rs ++ [l]).length C' ∧ l.xs = xs ∧ BrK c m x y h D g cg A' C' (rs ++ [l]) w (W3.setCell ⟨g, m * 6 + 3, none⟩ v') := by
  obtain ⟨la, lc, hvl⟩ : ∃ a n, vl = .slice a xs.length n := by
    rcases hl.2 with ⟨_, h0⟩ | ⟨gl, cap, cur, hv, _⟩
    · omega
    · exact ⟨_, _, hv⟩
  obtain ⟨A', C', hv'⟩ : ∃ a n, v' = .slice a (rs.length + 1) n := by
    rcases h3.2 with ⟨_, h0⟩ | ⟨gl, cap, cur, hv, _⟩
    · omega
    · exact ⟨_, _, hv⟩
  have k1 := (k.call h2).call (below_new W2 o)
  have gl1 := k1.gl
  have gl0 := k.gl
  have ob : ∀ j, (Value.slice A rs.length C).ownBlock = some j → g + 1 ≤ j := fun j e => own_base k1.own j e
  have hlo : (W2.alloc o).ownsRow (g + 1) 3 1 vl xs.length (xs.map (Value.int .i64)) := ownsRow_more (hl.alloc o) (by omega)
  have lne : vl.ownBlock = none ∨ vl.ownBlock ≠ (Value.slice A rs.length C).ownBlock := own_ne hlo k1.own (by decide)
  have hl3 := hlo.kept hg lne
  have rne : ∀ r, r < rs.length → (rowAt rs r).val.ownBlock = none ∨ (rowAt rs r).val.ownBlock ≠ (Value.slice A rs.length C).ownBlock := fun r hr => own_ne (k1.row r hr) k1.own (by decide)
  have hb : ∀ j, j ≤ g → W3.heap[j]? = (W2.alloc o).heap[j]? := fun j hj => hg.block j (by omega) (fun e => by have := ob j e.symm; omega)
  have e : ∀ p : Addr, p.block ≤ g → W3.cell? p = (W2.alloc o).cell? p := fun p hp => World.cell?_of_block (hb _ hp)
  have sd := k.sd
  have dg := k.dg
  have hs := grown_set W3 g (m * 6 + 3) v'
  have es : ∀ p : Addr, p.block < g → (W3.setCell ⟨g, m * 6 + 3, none⟩ v').cell? p = (W2.alloc o).cell? p := fun p hp => (World.cell?_setCell_other W3 _ _ _ (fun hh => by subst hh; exact Nat.lt_irrefl _ hp)).trans (e p (Nat.le_of_lt hp))
  have nb : ∀ (v : Value), (∀ j, v.ownBlock = some j → g + 1 ≤ j) → v.ownBlock = none ∨ v.ownBlock ≠ some g := fun v hv => by
    cases h : v.ownBlock with
    | none => exact .inl rfl
    | some j => right; intro hh; injection hh with hh; have := hv j h; omega
  refine ⟨A', C', ⟨la, lc, xs⟩, by rw [hv']; simp, rfl, ?_⟩
  refine ⟨?_, ?_, ?_, ?_, ?_, ?_, ?_, ?_, ?_, ?_, ?_, ?_, ?_, k.sd, k.dg, Nat.lt_of_lt_of_le gl1 (Nat.le_trans hg.size hs.size)⟩
  · rw [es _ (by show w.heap.size < g; omega)]; exact k1.a0
  · rw [es _ (by show w.heap.size < g; omega)]; exact k1.a1
  · rw [es _ (by show w.heap.size + 1 < g; omega)]; exact k1.p0
  · rw [es _ (by show w.heap.size + 1 < g; omega)]; exact k1.p1
  · rw [es _ (by show w.heap.size + 1 < g; omega)]; exact k1.p2
  · rw [es _ (by show w.heap.size + 1 < g; omega)]; exact k1.p3
  · rw [es _ (by show D < g; omega)]; exact k1.d0
  · rw [es _ (by show D < g; omega)]; exact k1.d1
  · have := (k1.tc.keep (hb g (Nat.le_refl _))).set (t' := dcur c m A' C' (rs ++ [⟨la, lc, xs⟩])) hm rfl rfl rfl rfl rfl
    rw [hv']
    simpa [dcur] using this
  · have : W3.frozen? ⟨g, m * 6 + 3, none⟩ = false := by rw [World.frozen?_of_block (a := ⟨g, m * 6 + 3, none⟩) (hb g (Nat.le_refl _))]; exact k1.fr
    simp [go_sem, this]
  · have h4 := h3.kept hs (nb v' (fun j e => own_base h3 j e))
    rw [hv'] at h4 ⊢
    simpa [hvl, Ints.val] using h4
  · intro r hr
    rw [List.length_append, List.length_singleton] at hr
    rw [rowAt_app hr]
    split
    · rename_i hr'
      have h4 := (k1.row r hr').kept hg (rne r hr')
      exact h4.kept hs (nb _ (fun j e => own_base h4 j e))
    · have h4 := hl3.kept hs (nb vl (fun j e => own_base hl3 j e))
      rw [hvl] at h4
      exact h4
  · refine ⟨hs.os.trans (hg.os.trans k1.b.os), hs.tape.trans (hg.tape.trans k1.b.tape), hs.output.trans (hg.output.trans k1.b.output), Nat.le_trans k1.b.size (Nat.le_trans hg.size hs.size), fun j hj => ?_⟩
    rw [hs.block j (by have := k1.b.size; have := hg.size; omega) (by intro hh; injection hh with hh; omega), hb j (by omega)]
    exact k1.b.block j hj

/-- what has been made is a catalogue -/
theorem BrK.cat (k : BrK c m x y h D g cg A C rs w W) (hc : CatIn w.heap.size c w) (hm : m < c.tabs.length) (hr : rs.length ≤ maxLen) (hx : ∀ r, r < rs.length → (rowAt rs r).xs.length ≤ maxLen) :
    CatIn W.heap.size { c with ta := some ⟨g, 0, none⟩, tc := cg, tabs := c.tabs.set m (dcur c m A C rs) } W := by
  have hW := hc.keep k.b (Nat.le_refl _)
  have hs := k.b.size
  obtain ⟨b, o, ha, hb, ht⟩ := hW.tabs.2 (by omega)
  refine ⟨⟨by show (c.tabs.set m _).length ≤ _; rw [List.length_set]; exact hW.tabs.1, fun _ => ⟨g, 0, rfl, k.gl, fun i hi => ?_⟩⟩, hW.lamps.more hs⟩
  have hi' : i < c.tabs.length := by
    have : i < (c.tabs.set m (dcur c m A C rs)).length := hi
    rw [List.length_set] at this; exact this
  have old := (ht i hi').more hs
  have cc := fun j hj => k.tc i (by rw [List.length_set]; exact hi') j hj
  have rows : RowsIn W.heap.size A rs W := by
    refine ⟨hr, fun hn => ?_⟩
    rcases k.own.2 with ⟨_, h0⟩ | ⟨go, cap, cur, hv, h1, h2, h3⟩
    · omega
    · injection hv with hA _ _
      refine ⟨go, 0, hA, (Array.getElem?_eq_some_iff.1 h2).1, fun j hj => ⟨?_, ?_⟩⟩
      · have := k.own.cells (g := go) (by rw [hA]; rfl) j (rowAt rs j).val (by rw [List.getElem?_map]; simp [rowAt, hj])
        have ea : (⟨go, 0, none⟩ : Addr).add j = ⟨go, 0 + j, none⟩ := by
          unfold Addr.add
          split
          · rename_i hz; subst hz; rfl
          · rfl
        rw [ea] at this; exact this
      · obtain ⟨A2, c2, e2, i2⟩ := ints_of_own (k.row j hj) (hx j hj)
        unfold Ints.val at e2
        injection e2 with e3 _ _
        rw [e3]; exact i2
  show TabIn W.heap.size g (0 + i * 6) (tabAt (c.tabs.set m (dcur c m A C rs)) i) W
  rw [tabAt_set hm] at cc ⊢
  rw [Nat.zero_add]
  by_cases e : i = m
  · subst e
    rw [if_pos rfl] at cc ⊢
    exact ⟨old.size, k.gl, cc 0 (by omega), cc 1 (by omega), cc 2 (by omega), cc 3 (by omega), cc 4 (by omega), cc 5 (by omega), old.us, old.vs, rows⟩
  · rw [if_neg e] at cc ⊢
    exact ⟨old.size, k.gl, cc 0 (by omega), cc 1 (by omega), cc 2 (by omega), cc 3 (by omega), cc 4 (by omega), cc 5 (by omega), old.us, old.vs, old.rows⟩
end
end Go.Proofs.Ytgmpipciinphiaa
