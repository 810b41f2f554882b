/- A part of the proof: contracts of the program's functions for every input. No conditions. -/
import Derived.Test.YtchgkfnodcbpiaaDoorVF
import Derived.OwnWalkIn
import Derived.Test.YtchgkfnodcbpiaaDoorVE
import Derived.Test.YtchgkfnodcbpiaaDoorVD
import Derived.Test.YtchgkfnodcbpiaaDoorVI
set_option linter.all false
set_option linter.all false
namespace Go.Proofs.YtchgkfnodcbpiaaDoor
open Go.RowKit Go.Sort Go.Rg
set_option maxRecDepth 100000

/-- an append of something onto a row that is owned, at one operation, in any frame -/
theorem wpIn_append_lies {F : Fence} {nF : Nat} {P : Program} (w : World) {o : Oper} {a : Act} {K : Act → World → Prop} {Q : Exit → Act → World → Prop} (s x : Operand) (t : TypeId)
    (ho : o.op = .call { callee := .builtin .append, args := #[s, x], argTypes := #[t, t] })
    (base : Nat) (e : TypeId) (i : TypeInfo) (z : Value) (size bytes : Nat) (ht : P.underlying t = some (.slice e)) (hi : P.info? e = some i) (hz : i.zero = some z)
    (hsize : i.size = size) (hby : i.bytes = bytes) (hzs : z.cells.size = size) (hsz : 0 < size)
    (v : Value) (n : Nat) (xs : List Value) (hs : a.eval s = v) (hown : w.ownsRow base e size v n xs)
    (ad : Addr) (m c : Nat) (news : List Value) (hx : a.eval x = .slice (some ad) m c) (hl : news.length = m * size) (hnews : ∀ j u, news[j]? = some u → w.cell? (ad.add j) = some u) (h1 : ∀ u ∈ news, u.oneCell' = true)
    (hm : 0 < m) (h63 : n + m ≤ maxLen) (hbytes : (n + m) * bytes ≤ 140737488355328) (hbase : base ≤ w.heap.size)
    (h : ∀ g cap w', w'.ownsRow base e size (.slice (some ⟨g, 0, none⟩) (n + m) cap) (n + m) (xs ++ news) → w.grownBy w' v.ownBlock → (v.ownBlock = some g ∨ g = w.heap.size) → g < w'.heap.size → K (a.put o.dst (.slice (some ⟨g, 0, none⟩) (n + m) cap)) w') : o.wpIn F nF P a w K Q := by
  obtain ⟨g, cap, w', hr, h2, h3, h4, h5⟩ := run_append_lies (P := P) w t o.type base e i z size bytes ht hi hz hsize hby hzs hsz v n xs hown ad m c news hl hnews h1 hm h63 hbytes hbase w.heap.size rfl
  unfold Oper.wpIn
  refine ⟨by simp [Oper.about, ho, resolve, Target.leads, Sem.run_pure], ?_⟩
  rw [Oper.semAt_plain F _ _ (by rw [ho]; intro c hc'; cases hc')]
  simp [execOp, ho, resolve, invoke, builtin, hs, hx, hr, Result.andThen]
  exact h g cap w' h2 h3 h4 h5

/-- what is known while a region is carried out, in whatever order, that makes one block (operation b), appends it (operation c) and stores the answer (operation s) -/
def StA (b c s : Nat) (pre : Nat → Value) (V WB : World) (R : Value → World → Prop) (X : Addr) (l : List Oper) (a0 : Act) (listed : Array Bool) (a : Act) (w : World) : Prop :=
  ∃ r, AtSt l.toArray (fun j => if j = c then r else pre j) a0 listed a ∧ (on listed c = false → w = if on listed b then WB else V.drew) ∧
    (on listed c = true → ∃ wc, R r wc ∧ w = if on listed s then wc.setCell X r else wc)
section
variable {l : List Oper} {a0 a : Act} {b c s : Nat} {pre : Nat → Value} {V WB w : World} {R : Value → World → Prop} {X : Addr} {listed : Array Bool} {i : Nat} {o : Oper} {r : Value}
theorem StA.start : StA b c s pre V WB R X l a0 (Array.replicate l.length false) a0 V.drew := by
  have no : ∀ j, on (Array.replicate l.length false) j = false := fun j => by
    unfold on
    simp only [Array.getD_eq_getD_getElem?, Array.getElem?_replicate]
    split <;> simp
  refine ⟨undef, ⟨rfl, rfl, fun j o d hj => ?_, fun t _ => rfl⟩, (fun _ => by rw [no]; rfl), fun h => by rw [no] at h; cases h⟩
  have := no j
  unfold on at this
  rw [this] at hj; cases hj
theorem StA.pure (hd : distFrom l = true) (ha : AtSt l.toArray (fun j => if j = c then r else pre j) a0 listed a) (hf : on listed c = false → w = if on listed b then WB else V.drew) (ht : on listed c = true → ∃ wc, R r wc ∧ w = if on listed s then wc.setCell X r else wc)
    (ho : l[i]? = some o) (h1 : listed.getD i true = false) (ib : i ≠ b) (ic : i ≠ c) (is : i ≠ s) : StA b c s pre V WB R X l a0 (listed.setIfInBounds i true) (a.put o.dst (pre i)) w := by
  have := ha.put (i := i) (by simpa using ho) h1 (dist_arr hd)
  simp only [if_neg ic] at this
  refine ⟨r, this, ?_, ?_⟩
  · rw [on_set (Ne.symm ic), on_set (Ne.symm ib)]; exact hf
  · rw [on_set (Ne.symm ic), on_set (Ne.symm is)]; exact ht
theorem StA.built (hd : distFrom l = true) (ha : AtSt l.toArray (fun j => if j = c then r else pre j) a0 listed a) (hf : on listed c = false → w = if on listed b then WB else V.drew) (hl : listed.size = l.length)
    (ho : l[b]? = some o) (h1 : listed.getD b true = false) (bc : b ≠ c) (hc : on listed c = false) : w = V.drew ∧ StA b c s pre V WB R X l a0 (listed.setIfInBounds b true) (a.put o.dst (pre b)) WB := by
  have hz : b < listed.size := by rw [hl]; exact (List.getElem?_eq_some_iff.1 ho).1
  have := ha.put (i := b) (by simpa using ho) h1 (dist_arr hd)
  simp only [if_neg bc] at this
  have hb := hf hc
  rw [on_no h1] at hb
  refine ⟨hb, r, this, ?_, ?_⟩
  · rw [on_self hz]; exact fun _ => rfl
  · rw [on_set (Ne.symm bc), hc]; intro h; cases h
theorem StA.appended (hd : distFrom l = true) (ha : AtSt l.toArray (fun j => if j = c then r else pre j) a0 listed a) (hf : on listed c = false → w = if on listed b then WB else V.drew) (hl : listed.size = l.length)
    (ho : l[c]? = some o) (h1 : listed.getD c true = false) (cs : c ≠ s) (hb : on listed b = true) (hs : on listed s = false) : w = WB ∧ ∀ r' wc, R r' wc → StA b c s pre V WB R X l a0 (listed.setIfInBounds c true) (a.put o.dst r') wc := by
  have hz : c < listed.size := by rw [hl]; exact (List.getElem?_eq_some_iff.1 ho).1
  have hcn := on_no h1
  have hw := hf hcn
  rw [hb] at hw
  refine ⟨hw, fun r' wc hr => ⟨r', ?_, ?_, ?_⟩⟩
  · have hsw : ∀ j, listed.getD j false = true → (fun j => if j = c then r else pre j) j = (fun j => if j = c then r' else pre j) j := fun j hj => by
      by_cases e : j = c
      · subst e; unfold on at hcn; rw [hcn] at hj; cases hj
      · simp [e]
    have := (ha.swap hsw).put (i := c) (by simpa using ho) h1 (dist_arr hd)
    simpa using this
  · rw [on_self hz]; intro h; cases h
  · intro _; exact ⟨wc, hr, by rw [on_set (Ne.symm cs), hs]; rfl⟩
theorem StA.stored (hd : distFrom l = true) (ha : AtSt l.toArray (fun j => if j = c then r else pre j) a0 listed a) (ht : on listed c = true → ∃ wc, R r wc ∧ w = if on listed s then wc.setCell X r else wc) (hl : listed.size = l.length)
    (ho : l[s]? = some o) (h1 : listed.getD s true = false) (hn : o.dst = none) (cs : c ≠ s) (hc : on listed c = true) : R r w ∧ StA b c s pre V WB R X l a0 (listed.setIfInBounds s true) a (w.setCell X r) := by
  have hz : s < listed.size := by rw [hl]; exact (List.getElem?_eq_some_iff.1 ho).1
  obtain ⟨wc, hr, hw⟩ := ht hc
  rw [on_no h1] at hw
  have hw : w = wc := hw
  subst hw
  have := ha.put (i := s) (by simpa using ho) h1 (dist_arr hd)
  rw [hn] at this
  refine ⟨hr, r, this, ?_, ?_⟩
  · rw [on_set cs, hc]; intro h; cases h
  · intro _; exact ⟨w, hr, by rw [on_self hz]; rfl⟩
end
end Go.Proofs.YtchgkfnodcbpiaaDoor
set_option linter.all false
namespace Go.Proofs.YtchgkfnodcbpiaaDoor
open Go.RowKit Go.Sort Go.Rg
set_option maxRecDepth 100000

theorem grown_cell {w w' : World} {row : Option Nat} (h : w.grownBy w' row) {b o : Nat} {u : Value} (hr : row ≠ some b) (hc : w.cell? ⟨b, o, none⟩ = some u) : w'.cell? ⟨b, o, none⟩ = some u :=
  (World.cell?_of_block (a := ⟨b, o, none⟩) (h.block b (Go.Ai.lt_of_cell hc) (Ne.symm hr))).trans hc

def trialC (t : Trial) : List Value := [.int .i64 t.boy, .int .i64 t.week, .int .i64 t.note, .int .i64 t.sang]
theorem trials_len : ∀ l : List Trial, (l.flatMap trialC).length = l.length * 4
  | [] => rfl
  | x :: l => by
    rw [List.flatMap_cons, List.length_append, trials_len l, List.length_cons]
    have : (trialC x).length = 4 := rfl
    omega
theorem trials_get : ∀ (l : List Trial) (i k : Nat) (x : Trial), l[i]? = some x → k < 4 → (l.flatMap trialC)[i * 4 + k]? = (trialC x)[k]?
  | y :: l, 0, k, x, h, hk => by
    simp only [List.getElem?_cons_zero, Option.some.injEq] at h
    subst h
    rw [List.flatMap_cons, List.getElem?_append_left (by show 0 * 4 + k < 4; omega)]
    simp
  | y :: l, i + 1, k, x, h, hk => by
    simp only [List.getElem?_cons_succ] at h
    rw [List.flatMap_cons, List.getElem?_append_right (by show 4 ≤ (i + 1) * 4 + k; omega)]
    have : (i + 1) * 4 + k - (trialC y).length = i * 4 + k := by show (i + 1) * 4 + k - 4 = _; omega
    rw [this]
    exact trials_get l i k x h hk
  | [], _, _, _, h, _ => by simp at h
theorem trials_one (l : List Trial) : ∀ u ∈ l.flatMap trialC, u.oneCell' = true := by
  intro u hu
  obtain ⟨x, _, hx⟩ := List.mem_flatMap.1 hu
  simp only [trialC, List.mem_cons, List.not_mem_nil, or_false] at hx
  rcases hx with rfl | rfl | rfl | rfl <;> rfl
/-- a row of trials that a call owns reads as these trials -/
theorem trialsAt_own {w : World} {base g cap : Nat} {l : List Trial} (h : w.ownsRow base 27 4 (.slice (some ⟨g, 0, none⟩) l.length cap) l.length (l.flatMap trialC)) : TrialsAt w g 0 l := by
  refine ⟨(h.lt g rfl).2, fun i x hx => ?_⟩
  have hi : i < l.length := (List.getElem?_eq_some_iff.1 hx).1
  have hc : ∀ k v, k < 4 → (trialC x)[k]? = some v → w.cell? ⟨g, 0 + i * 4 + k, none⟩ = some v := fun k v hk hv => by
    have h1 := h.cellAt (i * 4 + k) (by omega)
    rw [trials_get _ _ _ _ hx hk, hv] at h1
    simpa using h1
  exact ⟨hc 0 _ (by omega) rfl, hc 1 _ (by omega) rfl, hc 2 _ (by omega) rfl, hc 3 _ (by omega) rfl⟩
theorem ownsRow_set {w : World} {base : Nat} {e : TypeId} {size : Nat} {v : Value} {n : Nat} {xs : List Value} (h : w.ownsRow base e size v n xs) {a : Addr} (ha : a.block < base) (u : Value) : (w.setCell a u).ownsRow base e size v n xs := by
  obtain ⟨h1, h2⟩ := h
  refine ⟨h1, h2.imp id ?_⟩
  rintro ⟨g, cap, cur, e1, e2, e3, e4⟩
  exact ⟨g, cap, cur, e1, e2, (Below.heap_setCell _ _ _ _ (by omega)).trans e3, e4⟩

theorem StA_kept {b c : Nat} {listed : Array Bool} {V WB w : World} (hf : on listed c = false → w = if on listed b then WB else V.drew) (hc : on listed c = false) (hk : Kept V WB) : Kept V w := by
  rw [hf hc]
  split
  · exact hk
  · exact kept_drew (kept_refl V)
theorem grownBy_kept {A B C : World} {row : Option Nat} (hk : Kept A B) (hg : B.grownBy C row) : A.grownBy C row :=
  ⟨hg.os.trans hk.os, hg.tape.trans hk.tape, hg.output.trans hk.output, Nat.le_trans hk.size hg.size, fun k h1 h2 => (hg.block k (Nat.lt_of_lt_of_le h1 hk.size) h2).trans (hk.block k h1)⟩
theorem trial_one (t : Trial) : ∀ u ∈ trialC t, u.oneCell' = true := by
  intro u hu
  simp only [trialC, List.mem_cons, List.not_mem_nil, or_false] at hu
  rcases hu with rfl | rfl | rfl | rfl <;> rfl
theorem trial_news (t : Trial) {wr WB : World} (h : WB = wr.drew.alloc (Obj.cells #[.int .i64 t.boy, .int .i64 t.week, .int .i64 t.note, .int .i64 t.sang] 27)) : ∀ (k : Nat) (u : Value), (trialC t)[k]? = some u → WB.cell? ((⟨wr.heap.size, 0, none⟩ : Addr).add k) = some u := by
  intro k u hu
  have hk : k < 4 := (List.getElem?_eq_some_iff.1 hu).1
  subst h
  match k, hk, hu with
  | 0, _, hu => cases hu; go_simp
  | 1, _, hu => cases hu; go_simp
  | 2, _, hu => cases hu; go_simp
  | 3, _, hu => cases hu; go_simp

theorem getD_some {t : Array Value} {i : Nat} (h : i < t.size) : t.toList[i]? = some (t.getD i undef) := by simp [Array.getD_eq_getD_getElem?, h]
/-- the temporaries behind a region that writes only some in a row -/
theorem atSt_mid {l : List Oper} {vs : Nat → Value} {a0 a : Act} {listed : Array Bool} (h : AtSt l.toArray vs a0 listed a) (lo k : Nat) (hd : l.all (fun o => match o.dst with | some d => Nat.ble lo d && Nat.blt d (lo + k) | none => true) = true) (hn : lo + k ≤ a0.tmps.size) :
    ∃ y : Nat → Value, a = { tmps := (a0.tmps.toList.take lo ++ ((List.range k).map y ++ a0.tmps.toList.drop (lo + k))).toArray, defers := a0.defers } := by
  refine ⟨fun i => a.tmps.getD (lo + i) undef, ?_⟩
  have hoth : ∀ i, (i < lo ∨ lo + k ≤ i) → a.tmps.getD i undef = a0.tmps.getD i undef := fun i hi => h.other i fun j o _ ho hdst => by
    have := List.all_eq_true.1 hd o (List.mem_of_getElem? (by simpa using ho))
    rw [hdst] at this
    simp only [Bool.and_eq_true, Nat.ble_eq, Nat.blt_eq] at this
    omega
  have hsz := h.size
  have hdf := h.defers
  obtain ⟨tm, df⟩ := a
  simp only at hoth hsz hdf ⊢
  subst hdf
  refine congrArg (fun t => Act.mk t a0.defers) ?_
  apply Array.ext'
  apply List.ext_getElem?
  intro i
  show tm.toList[i]? = (a0.tmps.toList.take lo ++ ((List.range k).map (fun i => tm.getD (lo + i) undef) ++ a0.tmps.toList.drop (lo + k)))[i]?
  have hl0 : (a0.tmps.toList.take lo).length = lo := by rw [List.length_take, Array.length_toList]; omega
  by_cases h1 : i < lo
  · rw [List.getElem?_append_left (by omega), List.getElem?_take_of_lt h1, getD_some (by omega), getD_some (by omega), hoth i (.inl h1)]
  · rw [List.getElem?_append_right (by omega), hl0]
    by_cases h2 : i < lo + k
    · rw [List.getElem?_append_left (by simp; omega), getD_some (by omega)]
      simp only [List.getElem?_map, List.getElem?_range (show i - lo < k by omega), Option.map_some]
      rw [show lo + (i - lo) = i by omega]
    · rw [List.getElem?_append_right (by simp; omega), List.length_map, List.length_range, List.getElem?_drop, show lo + k + (i - lo - k) = i by omega]
      rcases Nat.lt_or_ge i a0.tmps.size with h3 | h3
      · rw [getD_some (by omega), getD_some h3, hoth i (.inr (by omega))]
      · rw [List.getElem?_eq_none (by rw [Array.length_toList]; omega), List.getElem?_eq_none (by rw [Array.length_toList]; omega)]

/-- a book at block xb whose trials, so far, are these: a row of its own -/
structure Gathers (V0 V : World) (xb : Nat) (p : Option Addr) (n cap : Nat) (weeks : Int) (v : Value) (ts : List Trial) : Prop where
  kept : Below xb V0 V
  c0 : V.cell? ⟨xb, 0, none⟩ = some (.slice p n cap)
  c1 : V.cell? ⟨xb, 1, none⟩ = some (.int .i64 weeks)
  c2 : V.cell? ⟨xb, 2, none⟩ = some v
  fr : V.frozen? ⟨xb, 2, none⟩ = false
  row : V.ownsRow (xb + 1) 27 4 v ts.length (ts.flatMap trialC)
/-- what an append of one more trial answers -/
def Grew (wr : World) (xb : Nat) (v : Value) (ts : List Trial) (t : Trial) (r : Value) (wc : World) : Prop :=
  ∃ g cap, r = .slice (some ⟨g, 0, none⟩) (ts.length + 1) cap ∧ wc.ownsRow (xb + 1) 27 4 r (ts.length + 1) (ts.flatMap trialC ++ trialC t) ∧ wr.grownBy wc v.ownBlock
theorem Gathers.go {V0 V W : World} {xb n cap : Nat} {p : Option Addr} {weeks : Int} {v : Value} {ts : List Trial} (h : Gathers V0 V xb p n cap weeks v ts) (hk : Kept V W) : Gathers V0 W xb p n cap weeks v ts where
  kept := h.kept.trans (hk.mono (by have := Go.Ai.lt_of_cell h.c0; omega))
  c0 := kcell hk h.c0
  c1 := kcell hk h.c1
  c2 := kcell hk h.c2
  fr := (World.frozen?_of_block (a := ⟨xb, 2, none⟩) (hk.block xb (Go.Ai.lt_of_cell h.c0))).trans h.fr
  row := by
    obtain ⟨h1, h2⟩ := h.row
    refine ⟨h1, h2.imp id ?_⟩
    rintro ⟨g, cap', cur, e1, e2, e3, e4⟩
    refine ⟨g, cap', cur, e1, e2, (hk.block g ?_).trans e3, e4⟩
    rcases Nat.lt_or_ge g V.heap.size with hlt | hge
    · exact hlt
    · rw [Array.getElem?_eq_none hge] at e3; cases e3
theorem Gathers.own {V0 V : World} {xb n cap : Nat} {p : Option Addr} {weeks : Int} {v : Value} {ts : List Trial} (h : Gathers V0 V xb p n cap weeks v ts) {k : Nat} (hk : k ≤ xb) : v.ownBlock ≠ some k := fun e => by
  have := (h.row.lt k e).1
  omega
theorem Gathers.grew {V0 V wc : World} {xb n cap : Nat} {p : Option Addr} {weeks : Int} {v r : Value} {ts : List Trial} {t : Trial} (h : Gathers V0 V xb p n cap weeks v ts) (hg : Grew V xb v ts t r wc) :
    Gathers V0 (wc.setCell ⟨xb, 2, none⟩ r) xb p n cap weeks r (ts ++ [t]) := by
  obtain ⟨g, cap', rfl, hrow, hgr⟩ := hg
  have hz := Go.Ai.lt_of_cell h.c0
  have hx := h.own (Nat.le_refl xb)
  refine ⟨?_, ?_, ?_, ?_, ?_, ?_⟩
  · refine Below.setCell (p := ⟨xb, 2, none⟩) ?_ (Nat.le_refl xb) _
    exact h.kept.grown hgr (by omega) fun k e => by have := h.row.lt k e; omega
  · exact (cell_set_ne (by omega)).trans (grown_cell hgr hx h.c0)
  · exact (cell_set_ne (by omega)).trans (grown_cell hgr hx h.c1)
  · exact cell_set_eq (grown_cell hgr hx h.c2)
  · have h1 := (World.frozen?_of_block (a := ⟨xb, 2, none⟩) (hgr.block xb hz (Ne.symm hx))).trans h.fr
    rw [World.frozen?_setCell]; exact h1
  · have := ownsRow_set hrow (a := ⟨xb, 2, none⟩) (show xb < xb + 1 by omega) (.slice (some ⟨g, 0, none⟩) (ts.length + 1) cap')
    simpa using this
theorem Gathers.trials {V0 V : World} {xb n cap : Nat} {p : Option Addr} {weeks : Int} {v : Value} {ts : List Trial} (h : Gathers V0 V xb p n cap weeks v ts) : ∃ q capt, v = .slice q ts.length capt ∧ (ts = [] ∨ ∃ b o, q = some ⟨b, o, none⟩ ∧ TrialsAt V b o ts) ∧ ts.length ≤ capt := by
  have hrow := h.row
  obtain ⟨h1, h2⟩ := h.row
  rcases h2 with ⟨e, h0⟩ | ⟨g, cap', cur, e, _, _, hnc, _⟩
  · have : ts = [] := List.length_eq_zero_iff.1 h0
    exact ⟨none, 0, by rw [e, h0], .inl this, by omega⟩
  · rw [e] at hrow
    exact ⟨some ⟨g, 0, none⟩, cap', e, .inr ⟨g, 0, rfl, trialsAt_own hrow⟩, hnc⟩
end Go.Proofs.YtchgkfnodcbpiaaDoor
set_option linter.all false
namespace Go.Proofs.YtchgkfnodcbpiaaDoor
open Go.RowKit Go.Sort Go.Rg
set_option maxRecDepth 100000

/-- which lists of numbers are among those that are gone through -/
theorem mem_gen {lo hi : Nat → Int} {boy : Int} {lt : List Trial} {kp : List Int → Bool} : ∀ (d : Nat) (pre x : List Int), x ∈ gen lo hi boy lt kp d pre ↔
    ∃ suf : List Int, suf.length = d ∧ x = pre ++ suf ∧ kp x = true ∧ ∀ i v, suf[i]? = some v → lo (pre.length + i) ≤ v ∧ v ≤ hi (pre.length + i) ∧ fbAt boy lt (pre.length + i) v = false
  | 0, pre, x => by
    unfold gen
    constructor
    · intro h
      by_cases hk : kp pre = true
      · rw [if_pos hk] at h
        have : x = pre := by simpa using h
        subst this
        exact ⟨[], rfl, by simp, hk, fun i v hv => by simp at hv⟩
      · rw [if_neg hk] at h; simp at h
    · rintro ⟨suf, hl, rfl, hk, -⟩
      have : suf = [] := List.length_eq_zero_iff.1 hl
      subst this
      rw [List.append_nil] at hk ⊢
      rw [if_pos hk]; simp
  | d + 1, pre, x => by
    unfold gen
    simp only [List.mem_flatten, List.mem_map, List.mem_range]
    constructor
    · rintro ⟨l, ⟨m, hm, rfl⟩, hx⟩
      by_cases hf : fbAt boy lt pre.length (lo pre.length + (m : Int)) = true
      · rw [if_pos hf] at hx; simp at hx
      · rw [if_neg hf] at hx
        obtain ⟨suf, hl, rfl, hk, hs⟩ := (mem_gen d _ x).1 hx
        refine ⟨(lo pre.length + (m : Int)) :: suf, by simp [hl], by simp, hk, fun i v hv => ?_⟩
        cases i with
        | zero =>
          simp only [List.getElem?_cons_zero, Option.some.injEq] at hv
          subst hv
          refine ⟨by simp only [Nat.add_zero]; omega, by simp only [Nat.add_zero]; omega, by simpa using hf⟩
        | succ i =>
          have := hs i v (by simpa using hv)
          simp only [List.length_append, List.length_cons, List.length_nil] at this
          rw [show pre.length + (i + 1) = pre.length + (0 + 1) + i by omega]
          exact this
    · rintro ⟨suf, hl, rfl, hk, hs⟩
      match suf, hl with
      | v :: suf, hl =>
        have h0 := hs 0 v rfl
        simp only [Nat.add_zero] at h0
        refine ⟨_, ⟨(v - lo pre.length).toNat, by omega, rfl⟩, ?_⟩
        have e : lo pre.length + (((v - lo pre.length).toNat : Nat) : Int) = v := by omega
        rw [e, if_neg (by rw [h0.2.2]; simp)]
        refine (mem_gen d _ _).2 ⟨suf, by simpa using hl, by simp, hk, fun i u hu => ?_⟩
        have := hs (i + 1) u (by simpa using hu)
        simp only [List.length_append, List.length_cons, List.length_nil]
        rw [show pre.length + (0 + 1) + i = pre.length + (i + 1) by omega]
        exact this
theorem mem_truths {B : Book} {boy : Nat} {x : Boy} {n : List Int} : n ∈ B.truths boy x ↔
    n.length = 5 ∧ kpOf B boy x n = true ∧ ∀ i v, n[i]? = some v → x.lo i ≤ v ∧ v ≤ x.hi i ∧ fbAt boy B.trials i v = false := by
  unfold Book.truths
  rw [mem_gen]
  constructor
  · rintro ⟨suf, hl, rfl, hk, hs⟩
    simp only [List.nil_append, List.length_nil, Nat.zero_add] at hk hs ⊢
    exact ⟨hl, hk, hs⟩
  · rintro ⟨hl, hk, hs⟩
    exact ⟨n, hl, by simp, hk, fun i v hv => by simpa using hs i v hv⟩
/-- a book without trials -/
theorem mem_untried {B : Book} (hB : B.trials = []) {boy : Nat} {x : Boy} {n0 n1 n2 n3 n4 : Int} : [n0, n1, n2, n3, n4] ∈ B.truths boy x ↔
    (x.l0 ≤ n0 ∧ n0 ≤ x.l1) ∧ (x.h0 ≤ n1 ∧ n1 ≤ x.h1) ∧ (x.g0 ≤ n2 ∧ n2 ≤ x.g1) ∧ (x.t0 ≤ n3 ∧ n3 ≤ x.t1) ∧ (x.b0 ≤ n4 ∧ n4 ≤ x.b1) := by
  rw [mem_truths]
  have hk : kpOf B boy x [n0, n1, n2, n3, n4] = true := by
    unfold kpOf Book.told
    rw [hB]
    simp
  constructor
  · rintro ⟨-, -, h⟩
    have h0 := h 0 n0 rfl
    have h1 := h 1 n1 rfl
    have h2 := h 2 n2 rfl
    have h3 := h 3 n3 rfl
    have h4 := h 4 n4 rfl
    simp only [Boy.lo, Boy.hi] at h0 h1 h2 h3 h4
    exact ⟨⟨h0.1, h0.2.1⟩, ⟨h1.1, h1.2.1⟩, ⟨h2.1, h2.2.1⟩, ⟨h3.1, h3.2.1⟩, ⟨h4.1, h4.2.1⟩⟩
  · rintro ⟨⟨a0, a1⟩, ⟨b0, b1⟩, ⟨c0, c1⟩, ⟨d0, d1⟩, ⟨e0, e1⟩⟩
    refine ⟨rfl, hk, fun i v hv => ?_⟩
    rw [hB]
    match i, hv with
    | 0, hv => cases hv; exact ⟨a0, a1, rfl⟩
    | 1, hv => cases hv; exact ⟨b0, b1, rfl⟩
    | 2, hv => cases hv; exact ⟨c0, c1, rfl⟩
    | 3, hv => cases hv; exact ⟨d0, d1, rfl⟩
    | 4, hv => cases hv; exact ⟨e0, e1, rfl⟩
theorem can_untried {B : Book} (hok : B.okB = true) (hB : B.trials = []) : Can B := fun boy x hx => by
  obtain ⟨-, hb, -⟩ := okB_boys hok
  obtain ⟨n0, n1, n2, n3, n4⟩ := boy_nums (hb x (List.mem_of_getElem? hx))
  refine List.ne_nil_of_mem ((mem_untried hB (n0 := x.l0) (n1 := x.h0) (n2 := x.g0) (n3 := x.t0) (n4 := x.b0)).2 ?_)
  omega

theorem untried_ok {B : Book} (h : B.okB = true) : (Book.mk B.boys B.weeks []).okB = true := by
  simp only [Book.okB, Bool.and_eq_true] at h ⊢
  exact ⟨⟨⟨⟨h.1.1.1.1, h.1.1.1.2⟩, by simp⟩, h.1.2⟩, rfl⟩
theorem set_ok {B : Book} (h : B.okB = true) {boy : Nat} {y : Boy} (hy : y.okB = true) : (Book.mk (B.boys.set boy y) B.weeks []).okB = true := by
  simp only [Book.okB, Bool.and_eq_true, List.length_set] at h ⊢
  refine ⟨⟨⟨⟨h.1.1.1.1, h.1.1.1.2⟩, by simp⟩, ?_⟩, rfl⟩
  rw [List.all_eq_true]
  intro z hz
  rcases List.mem_or_eq_of_mem_set hz with hz | rfl
  · exact List.all_eq_true.1 h.1.2 z hz
  · exact hy
/-- a boy who is better: who gains more, or loses less, or whose highest note is higher at first -/
structure Better (x y : Boy) : Prop where
  l0 : x.l0 = y.l0
  l1 : x.l1 = y.l1
  t0 : x.t0 = y.t0
  t1 : x.t1 = y.t1
  b0 : x.b0 = y.b0
  b1 : x.b1 = y.b1
  h0 : x.h0 ≤ y.h0
  h1 : x.h1 ≤ y.h1
  g0 : x.g0 ≤ y.g0
  g1 : x.g1 ≤ y.g1
  ls : y.ls ≤ x.ls
theorem ls_ok {x : Boy} (h : x.okB = true) {v : Int} (h1 : 0 ≤ v) (h2 : v ≤ x.ls) : ({ x with ls := v } : Boy).okB = true := by
  have hh := spanAt_ok x h
  simp only [Boy.okB, spanAt, spanB, inB, Bool.and_eq_true, decide_eq_true_eq, Bool.not_eq_true', decide_eq_false_iff_not] at h ⊢
  omega
theorem g_ok {x : Boy} (h : x.okB = true) {u v : Int} (h1 : 0 ≤ u) (h2 : u ≤ v) (h3 : v ≤ 2) (h4 : v - u ≤ 1) : ({ x with g0 := u, g1 := v } : Boy).okB = true := by
  simp only [Boy.okB, spanAt, spanB, inB, Bool.and_eq_true, decide_eq_true_eq, Bool.not_eq_true', decide_eq_false_iff_not] at h ⊢
  omega
theorem h_ok {x : Boy} (h : x.okB = true) {u v : Int} (h1 : 0 ≤ u) (h2 : u ≤ v) (h3 : v ≤ 40) (h4 : v - u ≤ 2) : ({ x with h0 := u, h1 := v } : Boy).okB = true := by
  simp only [Boy.okB, spanAt, spanB, inB, Bool.and_eq_true, decide_eq_true_eq, Bool.not_eq_true', decide_eq_false_iff_not] at h ⊢
  omega
theorem top_mono {h h' g g' t lo lo' wk : Int} (hw : 0 ≤ wk) (ht : 0 ≤ t) (h1 : h ≤ h') (h2 : g ≤ g') (h3 : lo' ≤ lo) : top h g t lo wk ≤ top h' g' t lo' wk := by
  unfold top
  have a := Int.mul_le_mul_of_nonneg_left h2 (show 0 ≤ min wk t by omega)
  have b := Int.mul_le_mul_of_nonneg_left h3 (show 0 ≤ wk - min wk t by omega)
  omega
theorem better_up {x y : Boy} (h : Better x y) (hy : y.okB = true) {n0 n1 n2 n3 n4 : Int} {A B : Book} (hA : A.trials = []) (hB : B.trials = []) {boy : Nat} (hn : [n0, n1, n2, n3, n4] ∈ A.truths boy x) :
    ∃ m1 m2, n1 ≤ m1 ∧ n2 ≤ m2 ∧ [n0, m1, m2, n3, n4] ∈ B.truths boy y := by
  rw [mem_untried hA] at hn
  obtain ⟨a, b, c, d, e⟩ := boy_nums hy
  have := h.l0; have := h.l1; have := h.t0; have := h.t1; have := h.b0; have := h.b1; have := h.h0; have := h.h1; have := h.g0; have := h.g1
  refine ⟨max n1 y.h0, max n2 y.g0, by omega, by omega, (mem_untried hB).2 ?_⟩
  omega
theorem better_down {x y : Boy} (h : Better x y) (hx : x.okB = true) {n0 n1 n2 n3 n4 : Int} {A B : Book} (hA : A.trials = []) (hB : B.trials = []) {boy : Nat} (hn : [n0, n1, n2, n3, n4] ∈ B.truths boy y) :
    ∃ m1 m2, m1 ≤ n1 ∧ m2 ≤ n2 ∧ [n0, m1, m2, n3, n4] ∈ A.truths boy x := by
  rw [mem_untried hB] at hn
  obtain ⟨a, b, c, d, e⟩ := boy_nums hx
  have := h.l0; have := h.l1; have := h.t0; have := h.t1; have := h.b0; have := h.b1; have := h.h0; have := h.h1; have := h.g0; have := h.g1
  refine ⟨min n1 x.h1, min n2 x.g1, by omega, by omega, (mem_untried hA).2 ?_⟩
  omega

/-- what the law says of the better boy -/
structure GainsAt (s0 s1 t0 t1 : Int) (fd gd : Bool) (k m : Int) : Prop where
  e : fd = gd
  a : s0 ≤ t0
  b : s1 ≤ t1
  c : k = 2 → m = 2
  d : k ≠ 0 → m ≠ 0
  k0 : 0 ≤ k
  k2 : k ≤ 2
  m0 : 0 ≤ m
  m2 : m ≤ 2
theorem gains_at {A B : Book} (hA : A.trials = []) (hB : B.trials = []) {boy : Nat} {x y : Boy} (hx : A.boys[boy]? = some x) (hy : B.boys[boy]? = some y) (hxo : x.okB = true) (hyo : y.okB = true) (hb : Better x y) {week note : Int} (hw : 0 ≤ week)
    {s0 s1 t0 t1 k m : Int} {fd gd : Bool} (e1 : spanOf (hiF A boy week) (A.truths boy x) = (s0, s1, fd)) (e2 : spanOf (hiF B boy week) (B.truths boy y) = (t0, t1, gd))
    (e3 : oftenOf (A.truths boy x) (singsN A week note note boy) = k) (e4 : oftenOf (B.truths boy y) (singsN B week note note boy) = m) (hne : A.truths boy x ≠ []) : GainsAt s0 s1 t0 t1 fd gd k m := by
  have hlA : lossOf A boy = x.ls := by simp [lossOf, hx]
  have hlB : lossOf B boy = y.ls := by simp [lossOf, hy]
  obtain ⟨-, -, -, hto, -⟩ := boy_nums hxo
  have up : ∀ n ∈ A.truths boy x, ∃ m ∈ B.truths boy y, (hiF A boy week n).2 = (hiF B boy week m).2 ∧ (hiF A boy week n).1 ≤ (hiF B boy week m).1 ∧ n.getD 0 0 = m.getD 0 0 := by
    intro n hn
    obtain ⟨n0, n1, n2, n3, n4, rfl⟩ := truths_len hn
    obtain ⟨m1, m2, h1, h2, hm⟩ := better_up hb hyo hA hB hn
    have hr := (mem_untried hA).1 hn
    refine ⟨_, hm, rfl, ?_, rfl⟩
    simp only [hiF, hlA, hlB]
    exact top_mono hw (by simp; omega) h1 h2 hb.ls
  have down : ∀ m ∈ B.truths boy y, ∃ n ∈ A.truths boy x, (hiF A boy week n).2 = (hiF B boy week m).2 ∧ (hiF A boy week n).1 ≤ (hiF B boy week m).1 ∧ n.getD 0 0 = m.getD 0 0 := by
    intro m hm
    obtain ⟨n0, n1, n2, n3, n4, rfl⟩ := truths_len hm
    obtain ⟨m1, m2, h1, h2, hn⟩ := better_down hb hxo hA hB hm
    have hr := (mem_untried hA).1 hn
    refine ⟨_, hn, rfl, ?_, rfl⟩
    simp only [hiF, hlA, hlB]
    exact top_mono hw (by simp; omega) h1 h2 hb.ls
  have sing : ∀ {n m : List Int}, (hiF A boy week n).2 = (hiF B boy week m).2 → (hiF A boy week n).1 ≤ (hiF B boy week m).1 → n.getD 0 0 = m.getD 0 0 → singsN A week note note boy n = true → singsN B week note note boy m = true := by
    intro n m h1 h2 h3 h
    rw [singsN_iff] at h ⊢
    rw [← h1, ← h3]
    exact ⟨h.1, h.2.1, by omega⟩
  obtain ⟨k0, k2⟩ := often_rng (A.truths boy x) (singsN A week note note boy)
  obtain ⟨m0, m2⟩ := often_rng (B.truths boy y) (singsN B week note note boy)
  rw [e3] at k0 k2
  rw [e4] at m0 m2
  have hfg : fd = gd ∧ s0 ≤ t0 ∧ s1 ≤ t1 := by
    by_cases hc : ∃ n ∈ A.truths boy x, (hiF A boy week n).2 = true
    · obtain ⟨p0, p1, f1, _, p3, ⟨pm, pm1, pm2, pm3⟩, ⟨pM, pM1, pM2, pM3⟩⟩ := spanOf_some _ _ hc
      have hc' : ∃ m ∈ B.truths boy y, (hiF B boy week m).2 = true := by
        obtain ⟨n, hn, ht⟩ := hc
        obtain ⟨m, hm, g1, _⟩ := up n hn
        exact ⟨m, hm, g1 ▸ ht⟩
      obtain ⟨q0, q1, f2, _, q3, ⟨qm, qm1, qm2, qm3⟩, ⟨qM, qM1, qM2, qM3⟩⟩ := spanOf_some _ _ hc'
      rw [e1] at f1; cases f1
      rw [e2] at f2; cases f2
      refine ⟨rfl, ?_, ?_⟩
      · obtain ⟨n, hn, g1, g2, _⟩ := down qm qm1
        have := (p3 n hn (g1.trans qm2)).1
        omega
      · obtain ⟨m, hm, g1, g2, _⟩ := up pM pM1
        have := (q3 m hm (g1.symm.trans pM2)).2
        omega
    · have hc' : ¬ ∃ m ∈ B.truths boy y, (hiF B boy week m).2 = true := by
        rintro ⟨m, hm, ht⟩
        obtain ⟨n, hn, g1, _⟩ := down m hm
        exact hc ⟨n, hn, g1.trans ht⟩
      have f1 := spanOf_none (hiF A boy week) (A.truths boy x) (fun n hn => by
        cases h : (hiF A boy week n).2 with
        | false => rfl
        | true => exact absurd ⟨n, hn, h⟩ hc)
      have f2 := spanOf_none (hiF B boy week) (B.truths boy y) (fun n hn => by
        cases h : (hiF B boy week n).2 with
        | false => rfl
        | true => exact absurd ⟨n, hn, h⟩ hc')
      rw [e1] at f1; cases f1
      rw [e2] at f2; cases f2
      exact ⟨rfl, by omega, by omega⟩
  refine ⟨hfg.1, hfg.2.1, hfg.2.2, fun hk => ?_, fun hk => ?_, k0, k2, m0, m2⟩
  · have hall : ∀ n ∈ A.truths boy x, singsN A week note note boy n = true := by
      rw [← e3] at hk
      unfold oftenOf at hk
      by_cases h : (A.truths boy x).all (singsN A week note note boy) = true
      · exact List.all_eq_true.1 h
      · rw [if_neg h] at hk
        split at hk <;> simp at hk
    rw [← e4]
    refine often_two fun m hm => ?_
    obtain ⟨n, hn, g1, g2, g3⟩ := down m hm
    exact sing g1 g2 g3 (hall n hn)
  · have hany : ∃ n ∈ A.truths boy x, singsN A week note note boy n = true := by
      refine Classical.byContradiction fun hc => hk ?_
      rw [← e3]
      exact often_zero hne fun n hn => by
        cases h : singsN A week note note boy n with
        | false => rfl
        | true => exact absurd ⟨n, hn, h⟩ hc
    obtain ⟨n, hn, hs⟩ := hany
    obtain ⟨m, hm, g1, g2, g3⟩ := up n hn
    rw [← e4]
    exact often_pos hm (sing g1 g2 g3 hs)
end Go.Proofs.YtchgkfnodcbpiaaDoor
set_option linter.all false
namespace Go.Proofs.YtchgkfnodcbpiaaDoor
open Go.RowKit Go.Sort Go.Rg
set_option maxRecDepth 100000

theorem gen_congr {lo hi : Nat → Int} {boy : Int} {lt lt' : List Trial} {kp kp' : List Int → Bool} (h1 : ∀ i v, fbAt boy lt i v = fbAt boy lt' i v) (h2 : ∀ n, kp n = kp' n) : ∀ (d : Nat) (pre : List Int), gen lo hi boy lt kp d pre = gen lo hi boy lt' kp' d pre
  | 0, pre => by unfold gen; rw [h2]
  | d + 1, pre => by
    unfold gen
    simp only [h1, gen_congr h1 h2 d]
/-- fewer trials: more truths -/
theorem truths_mono {A B : Book} (hw : A.weeks = B.weeks) (ht : ∀ t, t ∈ A.trials → t ∈ B.trials) {boy : Nat} {x : Boy} {n : List Int} (h : n ∈ B.truths boy x) : n ∈ A.truths boy x := by
  rw [mem_truths] at h ⊢
  obtain ⟨h1, h2, h3⟩ := h
  refine ⟨h1, ?_, fun i v hv => ⟨(h3 i v hv).1, (h3 i v hv).2.1, ?_⟩⟩
  · unfold kpOf at h2 ⊢
    rw [hw]
    rw [List.all_eq_true] at h2 ⊢
    intro wk hwk
    have := h2 wk hwk
    simp only [Bool.not_eq_true', List.any_eq_false] at this ⊢
    intro t ht'
    refine this t ?_
    simp only [Book.told, List.mem_filter] at ht' ⊢
    exact ⟨ht t ht'.1, ht'.2⟩
  · have := (h3 i v hv).2.2
    unfold fbAt at this ⊢
    rw [List.any_eq_false] at this ⊢
    exact fun t ht' => this t (ht t ht')
theorem can_mono {A B : Book} (hb : A.boys = B.boys) (hw : A.weeks = B.weeks) (ht : ∀ t, t ∈ A.trials → t ∈ B.trials) (h : Can B) : Can A := fun boy x hx => by
  rw [hb] at hx
  obtain ⟨n, hn⟩ := List.exists_mem_of_ne_nil _ (h boy x hx)
  exact List.ne_nil_of_mem (truths_mono hw ht hn)

/-- the book with the trials of one boy alone -/
def ownT (B : Book) (boy : Nat) : List Trial := B.trials.filter fun t => decide (t.boy = (boy : Int))
def apart (B : Book) (boy : Nat) : Book := ⟨B.boys, B.weeks, ownT B boy⟩
theorem apart_truths (B : Book) (boy : Nat) (x : Boy) : (apart B boy).truths boy x = B.truths boy x := by
  unfold Book.truths
  refine gen_congr (fun i v => ?_) (fun n => ?_) 5 []
  · unfold fbAt apart ownT
    simp only [List.any_filter]
    congr 1
    funext t
    unfold forbidsB
    cases decide (t.boy = (boy : Int)) <;> simp
  · unfold kpOf apart Book.told ownT
    simp only [List.filter_filter]
    congr 1
    funext wk
    congr 2
    refine List.filter_congr fun t _ => ?_
    cases decide (t.boy = (boy : Int)) <;> simp
theorem apart_ok {B : Book} (h : B.okB = true) (boy : Nat) : (apart B boy).okB = true := by
  simp only [Book.okB, Bool.and_eq_true, decide_eq_true_eq, List.all_eq_true] at h ⊢
  refine ⟨⟨⟨⟨h.1.1.1.1, h.1.1.1.2⟩, ?_⟩, h.1.2⟩, fun t ht => h.2 t (List.mem_filter.1 ht).1⟩
  have := List.length_filter_le (fun t => decide (t.boy = (boy : Int))) B.trials
  show (B.trials.filter _).length ≤ 6
  omega
theorem apart_can {B : Book} (h : Can B) (boy : Nat) : Can (apart B boy) := can_mono (A := apart B boy) (B := B) rfl rfl (fun t ht => (List.mem_filter.1 (show t ∈ B.trials.filter (fun t => decide (t.boy = (boy : Int))) from ht)).1) h
theorem ownT_step (B : Book) (boy j : Nat) (t : Trial) (ht : B.trials[j]? = some t) : (B.trials.take (j + 1)).filter (fun t => decide (t.boy = (boy : Int))) = (B.trials.take j).filter (fun t => decide (t.boy = (boy : Int))) ++ (if t.boy = (boy : Int) then [t] else []) := by
  rw [List.take_succ, ht, List.filter_append]
  congr 1
  simp only [Option.toList_some, List.filter_cons, List.filter_nil, decide_eq_true_eq]

/-- one trial more: what is told is part of what was told -/
structure MoreAt (lo0 lo1 lo0' lo1' : Int) : Prop where
  a : lo0 ≤ lo0'
  b : lo1' ≤ lo1
theorem span_sub {f : List Int → Int × Bool} {l l' : List (List Int)} (hs : ∀ n ∈ l', n ∈ l) {a b a' b' : Int} {fd : Bool} (e1 : spanOf f l = (a, b, fd)) (e2 : spanOf f l' = (a', b', true)) : fd = true ∧ a ≤ a' ∧ b' ≤ b ∧ a' ≤ b' := by
  have hy : ∃ n ∈ l', (f n).2 = true := by
    refine Classical.byContradiction fun hc => ?_
    have := spanOf_none f l' (fun n hn => by
      cases h : (f n).2 with
      | false => rfl
      | true => exact absurd ⟨n, hn, h⟩ hc)
    rw [this] at e2; cases e2
  have hx : ∃ n ∈ l, (f n).2 = true := by
    obtain ⟨n, hn, h⟩ := hy
    exact ⟨n, hs n hn, h⟩
  obtain ⟨p0, p1, f1, p2, p3, -, -⟩ := spanOf_some _ _ hx
  obtain ⟨q0, q1, f2, q2, q3, ⟨m, m1, m2, m3⟩, ⟨M, M1, M2, M3⟩⟩ := spanOf_some _ _ hy
  rw [e1] at f1; cases f1
  rw [e2] at f2; cases f2
  have := p3 m (hs m m1) m2
  have := p3 M (hs M M1) M2
  exact ⟨rfl, by omega, by omega, q2⟩
end Go.Proofs.YtchgkfnodcbpiaaDoor
set_option linter.all false
namespace Go.Proofs.YtchgkfnodcbpiaaDoor
open Go.RowKit Go.Sort Go.Rg
set_option maxRecDepth 100000

/-- can the book be true? -/
def RightP (B : Book) (W : World) (e : Ending) (C : World) : Prop :=
  ∃ r : Bool, e = .returned (.tuple #[.bool r, .int .i64 0]) ∧ Kept W C ∧ (r = true ↔ Can B)

set_option maxHeartbeats 4000000 in
theorem right_any (p q : Option Addr) (cap capt : Nat) (B : Book) (W : World) (h : BookAt W p q cap capt B) (hg : Nothing W) (hok : B.okB = true) :
    Calls Tryd.prog 8 #[B.val p q cap capt] W (RightP B W) := by
  unfold Book.val
  have hk0 : Kept W (W.alloc (Obj.cells #[.slice p B.boys.length cap, .int .i64 B.weeks, .slice q B.trials.length capt] 25)) := kept_alloc (kept_refl _) _
  have a0 : (W.alloc (Obj.cells #[.slice p B.boys.length cap, .int .i64 B.weeks, .slice q B.trials.length capt] 25)).cell? ⟨W.heap.size, 0, none⟩ = some (.slice p B.boys.length cap) := by go_simp
  have a1 : (W.alloc (Obj.cells #[.slice p B.boys.length cap, .int .i64 B.weeks, .slice q B.trials.length capt] 25)).cell? ⟨W.heap.size, 1, none⟩ = some (.int .i64 B.weeks) := by go_simp
  have a2 : (W.alloc (Obj.cells #[.slice p B.boys.length cap, .int .i64 B.weeks, .slice q B.trials.length capt] 25)).cell? ⟨W.heap.size, 2, none⟩ = some (.slice q B.trials.length capt) := by go_simp
  go_enter Tryd.func8, Tryd.ntmps8
  go_wp2_with fail
  generalize W.alloc (Obj.cells #[.slice p B.boys.length cap, .int .i64 B.weeks, .slice q B.trials.length capt] 25) = W1 at *
  refine (check_any p q cap capt B _ (h.kept hk0)).mono ?_
  rintro e W2 ⟨rfl, hk2⟩
  have hkW2 := kept_trans hk0 hk2
  replace a0 := kcell hk2 a0
  replace a1 := kcell hk2 a1
  replace a2 := kcell hk2 a2
  simp only [hok, if_true]
  go_wp2_with fail
  refine (newChoir_any p q cap capt B W W2 hok h hkW2).mono ?_
  rintro e W3 ⟨c, hcB, rfl, hk3, hat⟩
  have hcan := canBeTrue_any _ c W3 hat (fun b hb => hb.1) (hg.kept (kept_trans hkW2 hk3))
  have HCAN := Lib.hid hcan; clear hcan
  generalize hcv : c.val = cv at *
  go_wp2_with fail
  refine HCAN.out.mono ?_
  rintro e W4 ⟨r, hr, rfl, hk4⟩
  go_wp2_with fail
  refine bodyPost_ret (v := .tuple #[.bool r, .int .i64 0]) (by simp [results, Tryd.results8, go_sem]) rfl ?_
  subst hcB
  exact ⟨r, rfl, kept_trans (kept_trans hkW2 hk3) hk4, hr⟩
end Go.Proofs.YtchgkfnodcbpiaaDoor
set_option linter.all false
namespace Go.Proofs.YtchgkfnodcbpiaaDoor
open Go.RowKit Go.Sort Go.Rg
set_option maxRecDepth 100000

/-- what is told of a boy if the book can be true -/
def sLo (B : Book) (boy : Nat) (x : Boy) : Int × Int × Bool := spanOf (fun n => (n.getD 0 0, true)) (B.truths boy x)
def sBr (B : Book) (boy : Nat) (x : Boy) : Int × Int × Bool := spanOf (fun n => (n.getD 4 0, true)) (B.truths boy x)
def sHi (B : Book) (boy : Nat) (week : Int) (x : Boy) : Int × Int × Bool := spanOf (hiF B boy week) (B.truths boy x)
def sSi (B : Book) (boy : Nat) (week note : Int) (x : Boy) : Int := oftenOf (B.truths boy x) (singsN B week note note boy)

section
variable {p q : Option Addr} {cap capt : Nat} {B : Book} {boy : Nat} {W : World} {x : Boy} {week note : Int}
theorem lowest_can (h : BookAt W p q cap capt B) (hg : Nothing W) (hok : B.okB = true) (hc : Can B) (hx : B.boys[boy]? = some x) :
    Calls Tryd.prog 10 #[B.val p q cap capt, .int .i64 (boy : Int)] W fun e C => e = .returned (.tuple #[.agg #[.int .i64 (sLo B boy x).1, .int .i64 (sLo B boy x).2.1], .int .i64 0]) ∧ Kept W C := by
  refine (lowest_any p q cap capt B boy W h hg hok (List.getElem?_eq_some_iff.1 hx).1).mono ?_
  rintro e C ⟨lo, hi, err, rfl, hk, ⟨rfl, _, x', hx', rfl, rfl⟩ | ⟨_, hn, _⟩⟩
  · rw [hx] at hx'; cases hx'; exact ⟨rfl, hk⟩
  · exact absurd hc hn
theorem breaks_can (h : BookAt W p q cap capt B) (hg : Nothing W) (hok : B.okB = true) (hc : Can B) (hx : B.boys[boy]? = some x) :
    Calls Tryd.prog 11 #[B.val p q cap capt, .int .i64 (boy : Int)] W fun e C => e = .returned (.tuple #[.agg #[.int .i64 (sBr B boy x).1, .int .i64 (sBr B boy x).2.1], .int .i64 0]) ∧ Kept W C := by
  refine (breaks_any p q cap capt B boy W h hg hok (List.getElem?_eq_some_iff.1 hx).1).mono ?_
  rintro e C ⟨lo, hi, err, rfl, hk, ⟨rfl, _, x', hx', rfl, rfl⟩ | ⟨_, hn, _⟩⟩
  · rw [hx] at hx'; cases hx'; exact ⟨rfl, hk⟩
  · exact absurd hc hn
theorem highest_can (h : BookAt W p q cap capt B) (hg : Nothing W) (hok : B.okB = true) (hc : Can B) (hx : B.boys[boy]? = some x) (hw : 0 ≤ week ∧ week < B.weeks) :
    Calls Tryd.prog 14 #[B.val p q cap capt, .int .i64 (boy : Int), .int .i64 week] W fun e C => e = .returned (.tuple #[.agg #[.int .i64 (sHi B boy week x).1, .int .i64 (sHi B boy week x).2.1], .int .i64 (if (sHi B boy week x).2.2 then 0 else 4)]) ∧ Kept W C := by
  refine (highest_all p q cap capt B boy week W h hg hok (List.getElem?_eq_some_iff.1 hx).1 hw).mono ?_
  rintro e C ⟨lo, hi, err, rfl, hk, ⟨_, x', fd, hx', e1, rfl⟩ | ⟨_, hn, _⟩⟩
  · rw [hx] at hx'; cases hx'
    refine ⟨?_, hk⟩
    unfold sHi
    rw [e1]
  · exact absurd hc hn
theorem sings_can (h : BookAt W p q cap capt B) (hg : Nothing W) (hok : B.okB = true) (hc : Can B) (hx : B.boys[boy]? = some x) (hw : 0 ≤ week ∧ week < B.weeks) (hn : 0 ≤ note ∧ note ≤ 40) :
    Calls Tryd.prog 12 #[B.val p q cap capt, .int .i64 (boy : Int), .int .i64 week, .int .i64 note] W fun e C => e = .returned (.tuple #[.int .i64 (sSi B boy week note x), .int .i64 0]) ∧ Kept W C := by
  refine (sings_all p q cap capt B boy week note W h hg hok (List.getElem?_eq_some_iff.1 hx).1 hw hn).mono ?_
  rintro e C ⟨v, err, rfl, hk, ⟨rfl, _, x', hx', rfl⟩ | ⟨_, hn, _⟩⟩
  · rw [hx] at hx'; cases hx'; exact ⟨rfl, hk⟩
  · exact absurd hc hn
end
theorem apart_sLo (B : Book) (boy : Nat) (x : Boy) : sLo (apart B boy) boy x = sLo B boy x := by unfold sLo; rw [apart_truths]
theorem apart_sBr (B : Book) (boy : Nat) (x : Boy) : sBr (apart B boy) boy x = sBr B boy x := by unfold sBr; rw [apart_truths]
theorem apart_sHi (B : Book) (boy : Nat) (week : Int) (x : Boy) : sHi (apart B boy) boy week x = sHi B boy week x := by unfold sHi; rw [apart_truths]; rfl
theorem apart_sSi (B : Book) (boy : Nat) (week note : Int) (x : Boy) : sSi (apart B boy) boy week note x = sSi B boy week note x := by unfold sSi; rw [apart_truths]; rfl
theorem eqSab (a b : Int) (w : World) : (Op.equalIn 10000 38 (.agg #[.int .i64 a, .int .i64 b]) (.agg #[.int .i64 a, .int .i64 b])).run Tryd.prog w = .ok true w := by
  have h := run_equalIn_struct (P := Tryd.prog) w 9999 38 #[.int .i64 a, .int .i64 b] #[.int .i64 a, .int .i64 b] (by kernel_rfl) (by kernel_rfl)
  refine h.trans ?_
  go_simp
end Go.Proofs.YtchgkfnodcbpiaaDoor
