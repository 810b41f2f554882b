/- A part of the proof: contracts of the program's functions for every input. No conditions. -/
import Derived.Test.YtcgihkaglonnaaaGreatDoorGE
import Derived.OwnWalkIn
import Derived.Test.YtcgihkaglonnaaaGreatDoorGC
set_option linter.all false
set_option linter.all false
namespace Go.Proofs.YtcgihkaglonnaaaGreatDoor
open Go.RowKit Go.Sort Go.Rg
set_option maxRecDepth 100000

/-- an append of something onto a row that is owned, at one operation, in any frame -/
theorem wpIn_append_lies {F : Fence} {nF : Nat} {P : Program} (w : World) {o : Oper} {a : Act} {K : Act → World → Prop} {Q : Exit → Act → World → Prop} (s x : Operand) (t : TypeId)
    (ho : o.op = .call { callee := .builtin .append, args := #[s, x], argTypes := #[t, t] })
    (base : Nat) (e : TypeId) (i : TypeInfo) (z : Value) (size bytes : Nat) (ht : P.underlying t = some (.slice e)) (hi : P.info? e = some i) (hz : i.zero = some z)
    (hsize : i.size = size) (hby : i.bytes = bytes) (hzs : z.cells.size = size) (hsz : 0 < size)
    (v : Value) (n : Nat) (xs : List Value) (hs : a.eval s = v) (hown : w.ownsRow base e size v n xs)
    (ad : Addr) (m c : Nat) (news : List Value) (hx : a.eval x = .slice (some ad) m c) (hl : news.length = m * size) (hnews : ∀ j u, news[j]? = some u → w.cell? (ad.add j) = some u) (h1 : ∀ u ∈ news, u.oneCell' = true)
    (hm : 0 < m) (h63 : n + m ≤ maxLen) (hbytes : (n + m) * bytes ≤ 140737488355328) (hbase : base ≤ w.heap.size)
    (h : ∀ g cap w', w'.ownsRow base e size (.slice (some ⟨g, 0, none⟩) (n + m) cap) (n + m) (xs ++ news) → w.grownBy w' v.ownBlock → (v.ownBlock = some g ∨ g = w.heap.size) → g < w'.heap.size → K (a.put o.dst (.slice (some ⟨g, 0, none⟩) (n + m) cap)) w') : o.wpIn F nF P a w K Q := by
  obtain ⟨g, cap, w', hr, h2, h3, h4, h5⟩ := run_append_lies (P := P) w t o.type base e i z size bytes ht hi hz hsize hby hzs hsz v n xs hown ad m c news hl hnews h1 hm h63 hbytes hbase w.heap.size rfl
  unfold Oper.wpIn
  refine ⟨by simp [Oper.about, ho, resolve, Target.leads, Sem.run_pure], ?_⟩
  rw [Oper.semAt_plain F _ _ (by rw [ho]; intro c hc'; cases hc')]
  simp [execOp, ho, resolve, invoke, builtin, hs, hx, hr, Result.andThen]
  exact h g cap w' h2 h3 h4 h5

/-- what is known while a region is carried out, in whatever order, that makes one block (operation b), appends it (operation c) and stores the answer (operation s) -/
def StA (b c s : Nat) (pre : Nat → Value) (V WB : World) (R : Value → World → Prop) (X : Addr) (l : List Oper) (a0 : Act) (listed : Array Bool) (a : Act) (w : World) : Prop :=
  ∃ r, AtSt l.toArray (fun j => if j = c then r else pre j) a0 listed a ∧ (on listed c = false → w = if on listed b then WB else V.drew) ∧
    (on listed c = true → ∃ wc, R r wc ∧ w = if on listed s then wc.setCell X r else wc)
section
variable {l : List Oper} {a0 a : Act} {b c s : Nat} {pre : Nat → Value} {V WB w : World} {R : Value → World → Prop} {X : Addr} {listed : Array Bool} {i : Nat} {o : Oper} {r : Value}
theorem StA.start : StA b c s pre V WB R X l a0 (Array.replicate l.length false) a0 V.drew := by
  have no : ∀ j, on (Array.replicate l.length false) j = false := fun j => by
    unfold on
    simp only [Array.getD_eq_getD_getElem?, Array.getElem?_replicate]
    split <;> simp
  refine ⟨undef, ⟨rfl, rfl, fun j o d hj => ?_, fun t _ => rfl⟩, (fun _ => by rw [no]; rfl), fun h => by rw [no] at h; cases h⟩
  have := no j
  unfold on at this
  rw [this] at hj; cases hj
theorem StA.pure (hd : distFrom l = true) (ha : AtSt l.toArray (fun j => if j = c then r else pre j) a0 listed a) (hf : on listed c = false → w = if on listed b then WB else V.drew) (ht : on listed c = true → ∃ wc, R r wc ∧ w = if on listed s then wc.setCell X r else wc)
    (ho : l[i]? = some o) (h1 : listed.getD i true = false) (ib : i ≠ b) (ic : i ≠ c) (is : i ≠ s) : StA b c s pre V WB R X l a0 (listed.setIfInBounds i true) (a.put o.dst (pre i)) w := by
  have := ha.put (i := i) (by simpa using ho) h1 (dist_arr hd)
  simp only [if_neg ic] at this
  refine ⟨r, this, ?_, ?_⟩
  · rw [on_set (Ne.symm ic), on_set (Ne.symm ib)]; exact hf
  · rw [on_set (Ne.symm ic), on_set (Ne.symm is)]; exact ht
theorem StA.built (hd : distFrom l = true) (ha : AtSt l.toArray (fun j => if j = c then r else pre j) a0 listed a) (hf : on listed c = false → w = if on listed b then WB else V.drew) (hl : listed.size = l.length)
    (ho : l[b]? = some o) (h1 : listed.getD b true = false) (bc : b ≠ c) (hc : on listed c = false) : w = V.drew ∧ StA b c s pre V WB R X l a0 (listed.setIfInBounds b true) (a.put o.dst (pre b)) WB := by
  have hz : b < listed.size := by rw [hl]; exact (List.getElem?_eq_some_iff.1 ho).1
  have := ha.put (i := b) (by simpa using ho) h1 (dist_arr hd)
  simp only [if_neg bc] at this
  have hb := hf hc
  rw [on_no h1] at hb
  refine ⟨hb, r, this, ?_, ?_⟩
  · rw [on_self hz]; exact fun _ => rfl
  · rw [on_set (Ne.symm bc), hc]; intro h; cases h
theorem StA.appended (hd : distFrom l = true) (ha : AtSt l.toArray (fun j => if j = c then r else pre j) a0 listed a) (hf : on listed c = false → w = if on listed b then WB else V.drew) (hl : listed.size = l.length)
    (ho : l[c]? = some o) (h1 : listed.getD c true = false) (cs : c ≠ s) (hb : on listed b = true) (hs : on listed s = false) : w = WB ∧ ∀ r' wc, R r' wc → StA b c s pre V WB R X l a0 (listed.setIfInBounds c true) (a.put o.dst r') wc := by
  have hz : c < listed.size := by rw [hl]; exact (List.getElem?_eq_some_iff.1 ho).1
  have hcn := on_no h1
  have hw := hf hcn
  rw [hb] at hw
  refine ⟨hw, fun r' wc hr => ⟨r', ?_, ?_, ?_⟩⟩
  · have hsw : ∀ j, listed.getD j false = true → (fun j => if j = c then r else pre j) j = (fun j => if j = c then r' else pre j) j := fun j hj => by
      by_cases e : j = c
      · subst e; unfold on at hcn; rw [hcn] at hj; cases hj
      · simp [e]
    have := (ha.swap hsw).put (i := c) (by simpa using ho) h1 (dist_arr hd)
    simpa using this
  · rw [on_self hz]; intro h; cases h
  · intro _; exact ⟨wc, hr, by rw [on_set (Ne.symm cs), hs]; rfl⟩
theorem StA.stored (hd : distFrom l = true) (ha : AtSt l.toArray (fun j => if j = c then r else pre j) a0 listed a) (ht : on listed c = true → ∃ wc, R r wc ∧ w = if on listed s then wc.setCell X r else wc) (hl : listed.size = l.length)
    (ho : l[s]? = some o) (h1 : listed.getD s true = false) (hn : o.dst = none) (cs : c ≠ s) (hc : on listed c = true) : R r w ∧ StA b c s pre V WB R X l a0 (listed.setIfInBounds s true) a (w.setCell X r) := by
  have hz : s < listed.size := by rw [hl]; exact (List.getElem?_eq_some_iff.1 ho).1
  obtain ⟨wc, hr, hw⟩ := ht hc
  rw [on_no h1] at hw
  have hw : w = wc := hw
  subst hw
  have := ha.put (i := s) (by simpa using ho) h1 (dist_arr hd)
  rw [hn] at this
  refine ⟨hr, r, this, ?_, ?_⟩
  · rw [on_set cs, hc]; intro h; cases h
  · intro _; exact ⟨w, hr, by rw [on_self hz]; rfl⟩
end
end Go.Proofs.YtcgihkaglonnaaaGreatDoor
set_option linter.all false
namespace Go.Proofs.YtcgihkaglonnaaaGreatDoor
open Go.RowKit Go.Sort Go.Rg
set_option maxRecDepth 100000

theorem grown_cell {w w' : World} {row : Option Nat} (h : w.grownBy w' row) {b o : Nat} {u : Value} (hr : row ≠ some b) (hc : w.cell? ⟨b, o, none⟩ = some u) : w'.cell? ⟨b, o, none⟩ = some u :=
  (World.cell?_of_block (a := ⟨b, o, none⟩) (h.block b (Go.Ai.lt_of_cell hc) (Ne.symm hr))).trans hc

def trialC (t : Trial) : List Value := [.int .i64 t.boy, .int .i64 t.week, .int .i64 t.note, .int .i64 t.sang]
theorem trials_len : ∀ l : List Trial, (l.flatMap trialC).length = l.length * 4
  | [] => rfl
  | x :: l => by
    rw [List.flatMap_cons, List.length_append, trials_len l, List.length_cons]
    have : (trialC x).length = 4 := rfl
    omega
theorem trials_get : ∀ (l : List Trial) (i k : Nat) (x : Trial), l[i]? = some x → k < 4 → (l.flatMap trialC)[i * 4 + k]? = (trialC x)[k]?
  | y :: l, 0, k, x, h, hk => by
    simp only [List.getElem?_cons_zero, Option.some.injEq] at h
    subst h
    rw [List.flatMap_cons, List.getElem?_append_left (by show 0 * 4 + k < 4; omega)]
    simp
  | y :: l, i + 1, k, x, h, hk => by
    simp only [List.getElem?_cons_succ] at h
    rw [List.flatMap_cons, List.getElem?_append_right (by show 4 ≤ (i + 1) * 4 + k; omega)]
    have : (i + 1) * 4 + k - (trialC y).length = i * 4 + k := by show (i + 1) * 4 + k - 4 = _; omega
    rw [this]
    exact trials_get l i k x h hk
  | [], _, _, _, h, _ => by simp at h
theorem trials_one (l : List Trial) : ∀ u ∈ l.flatMap trialC, u.oneCell' = true := by
  intro u hu
  obtain ⟨x, _, hx⟩ := List.mem_flatMap.1 hu
  simp only [trialC, List.mem_cons, List.not_mem_nil, or_false] at hx
  rcases hx with rfl | rfl | rfl | rfl <;> rfl
/-- a row of trials that a call owns reads as these trials -/
theorem trialsAt_own {w : World} {base g cap : Nat} {l : List Trial} (h : w.ownsRow base 49 4 (.slice (some ⟨g, 0, none⟩) l.length cap) l.length (l.flatMap trialC)) : TrialsAt w g 0 l := by
  refine ⟨(h.lt g rfl).2, fun i x hx => ?_⟩
  have hi : i < l.length := (List.getElem?_eq_some_iff.1 hx).1
  have hc : ∀ k v, k < 4 → (trialC x)[k]? = some v → w.cell? ⟨g, 0 + i * 4 + k, none⟩ = some v := fun k v hk hv => by
    have h1 := h.cellAt (i * 4 + k) (by omega)
    rw [trials_get _ _ _ _ hx hk, hv] at h1
    simpa using h1
  exact ⟨hc 0 _ (by omega) rfl, hc 1 _ (by omega) rfl, hc 2 _ (by omega) rfl, hc 3 _ (by omega) rfl⟩
theorem ownsRow_set {w : World} {base : Nat} {e : TypeId} {size : Nat} {v : Value} {n : Nat} {xs : List Value} (h : w.ownsRow base e size v n xs) {a : Addr} (ha : a.block < base) (u : Value) : (w.setCell a u).ownsRow base e size v n xs := by
  obtain ⟨h1, h2⟩ := h
  refine ⟨h1, h2.imp id ?_⟩
  rintro ⟨g, cap, cur, e1, e2, e3, e4⟩
  exact ⟨g, cap, cur, e1, e2, (Below.heap_setCell _ _ _ _ (by omega)).trans e3, e4⟩

theorem StA_kept {b c : Nat} {listed : Array Bool} {V WB w : World} (hf : on listed c = false → w = if on listed b then WB else V.drew) (hc : on listed c = false) (hk : Kept V WB) : Kept V w := by
  rw [hf hc]
  split
  · exact hk
  · exact kept_drew (kept_refl V)
theorem grownBy_kept {A B C : World} {row : Option Nat} (hk : Kept A B) (hg : B.grownBy C row) : A.grownBy C row :=
  ⟨hg.os.trans hk.os, hg.tape.trans hk.tape, hg.output.trans hk.output, Nat.le_trans hk.size hg.size, fun k h1 h2 => (hg.block k (Nat.lt_of_lt_of_le h1 hk.size) h2).trans (hk.block k h1)⟩
theorem trial_one (t : Trial) : ∀ u ∈ trialC t, u.oneCell' = true := by
  intro u hu
  simp only [trialC, List.mem_cons, List.not_mem_nil, or_false] at hu
  rcases hu with rfl | rfl | rfl | rfl <;> rfl
theorem trial_news (t : Trial) {wr WB : World} (h : WB = wr.drew.alloc (Obj.cells #[.int .i64 t.boy, .int .i64 t.week, .int .i64 t.note, .int .i64 t.sang] 49)) : ∀ (k : Nat) (u : Value), (trialC t)[k]? = some u → WB.cell? ((⟨wr.heap.size, 0, none⟩ : Addr).add k) = some u := by
  intro k u hu
  have hk : k < 4 := (List.getElem?_eq_some_iff.1 hu).1
  subst h
  match k, hk, hu with
  | 0, _, hu => cases hu; go_simp
  | 1, _, hu => cases hu; go_simp
  | 2, _, hu => cases hu; go_simp
  | 3, _, hu => cases hu; go_simp

theorem getD_some {t : Array Value} {i : Nat} (h : i < t.size) : t.toList[i]? = some (t.getD i undef) := by simp [Array.getD_eq_getD_getElem?, h]
/-- the temporaries behind a region that writes only some in a row -/
theorem atSt_mid {l : List Oper} {vs : Nat → Value} {a0 a : Act} {listed : Array Bool} (h : AtSt l.toArray vs a0 listed a) (lo k : Nat) (hd : l.all (fun o => match o.dst with | some d => Nat.ble lo d && Nat.blt d (lo + k) | none => true) = true) (hn : lo + k ≤ a0.tmps.size) :
    ∃ y : Nat → Value, a = { tmps := (a0.tmps.toList.take lo ++ ((List.range k).map y ++ a0.tmps.toList.drop (lo + k))).toArray, defers := a0.defers } := by
  refine ⟨fun i => a.tmps.getD (lo + i) undef, ?_⟩
  have hoth : ∀ i, (i < lo ∨ lo + k ≤ i) → a.tmps.getD i undef = a0.tmps.getD i undef := fun i hi => h.other i fun j o _ ho hdst => by
    have := List.all_eq_true.1 hd o (List.mem_of_getElem? (by simpa using ho))
    rw [hdst] at this
    simp only [Bool.and_eq_true, Nat.ble_eq, Nat.blt_eq] at this
    omega
  have hsz := h.size
  have hdf := h.defers
  obtain ⟨tm, df⟩ := a
  simp only at hoth hsz hdf ⊢
  subst hdf
  refine congrArg (fun t => Act.mk t a0.defers) ?_
  apply Array.ext'
  apply List.ext_getElem?
  intro i
  show tm.toList[i]? = (a0.tmps.toList.take lo ++ ((List.range k).map (fun i => tm.getD (lo + i) undef) ++ a0.tmps.toList.drop (lo + k)))[i]?
  have hl0 : (a0.tmps.toList.take lo).length = lo := by rw [List.length_take, Array.length_toList]; omega
  by_cases h1 : i < lo
  · rw [List.getElem?_append_left (by omega), List.getElem?_take_of_lt h1, getD_some (by omega), getD_some (by omega), hoth i (.inl h1)]
  · rw [List.getElem?_append_right (by omega), hl0]
    by_cases h2 : i < lo + k
    · rw [List.getElem?_append_left (by simp; omega), getD_some (by omega)]
      simp only [List.getElem?_map, List.getElem?_range (show i - lo < k by omega), Option.map_some]
      rw [show lo + (i - lo) = i by omega]
    · rw [List.getElem?_append_right (by simp; omega), List.length_map, List.length_range, List.getElem?_drop, show lo + k + (i - lo - k) = i by omega]
      rcases Nat.lt_or_ge i a0.tmps.size with h3 | h3
      · rw [getD_some (by omega), getD_some h3, hoth i (.inr (by omega))]
      · rw [List.getElem?_eq_none (by rw [Array.length_toList]; omega), List.getElem?_eq_none (by rw [Array.length_toList]; omega)]

/-- a book at block xb whose trials, so far, are these: a row of its own -/
structure Gathers (V0 V : World) (xb : Nat) (p : Option Addr) (n cap : Nat) (weeks : Int) (v : Value) (ts : List Trial) : Prop where
  kept : Below xb V0 V
  c0 : V.cell? ⟨xb, 0, none⟩ = some (.slice p n cap)
  c1 : V.cell? ⟨xb, 1, none⟩ = some (.int .i64 weeks)
  c2 : V.cell? ⟨xb, 2, none⟩ = some v
  fr : V.frozen? ⟨xb, 2, none⟩ = false
  row : V.ownsRow (xb + 1) 49 4 v ts.length (ts.flatMap trialC)
/-- what an append of one more trial answers -/
def Grew (wr : World) (xb : Nat) (v : Value) (ts : List Trial) (t : Trial) (r : Value) (wc : World) : Prop :=
  ∃ g cap, r = .slice (some ⟨g, 0, none⟩) (ts.length + 1) cap ∧ wc.ownsRow (xb + 1) 49 4 r (ts.length + 1) (ts.flatMap trialC ++ trialC t) ∧ wr.grownBy wc v.ownBlock
theorem Gathers.go {V0 V W : World} {xb n cap : Nat} {p : Option Addr} {weeks : Int} {v : Value} {ts : List Trial} (h : Gathers V0 V xb p n cap weeks v ts) (hk : Kept V W) : Gathers V0 W xb p n cap weeks v ts where
  kept := h.kept.trans (hk.mono (by have := Go.Ai.lt_of_cell h.c0; omega))
  c0 := kcell hk h.c0
  c1 := kcell hk h.c1
  c2 := kcell hk h.c2
  fr := (World.frozen?_of_block (a := ⟨xb, 2, none⟩) (hk.block xb (Go.Ai.lt_of_cell h.c0))).trans h.fr
  row := by
    obtain ⟨h1, h2⟩ := h.row
    refine ⟨h1, h2.imp id ?_⟩
    rintro ⟨g, cap', cur, e1, e2, e3, e4⟩
    refine ⟨g, cap', cur, e1, e2, (hk.block g ?_).trans e3, e4⟩
    rcases Nat.lt_or_ge g V.heap.size with hlt | hge
    · exact hlt
    · rw [Array.getElem?_eq_none hge] at e3; cases e3
theorem Gathers.own {V0 V : World} {xb n cap : Nat} {p : Option Addr} {weeks : Int} {v : Value} {ts : List Trial} (h : Gathers V0 V xb p n cap weeks v ts) {k : Nat} (hk : k ≤ xb) : v.ownBlock ≠ some k := fun e => by
  have := (h.row.lt k e).1
  omega
theorem Gathers.grew {V0 V wc : World} {xb n cap : Nat} {p : Option Addr} {weeks : Int} {v r : Value} {ts : List Trial} {t : Trial} (h : Gathers V0 V xb p n cap weeks v ts) (hg : Grew V xb v ts t r wc) :
    Gathers V0 (wc.setCell ⟨xb, 2, none⟩ r) xb p n cap weeks r (ts ++ [t]) := by
  obtain ⟨g, cap', rfl, hrow, hgr⟩ := hg
  have hz := Go.Ai.lt_of_cell h.c0
  have hx := h.own (Nat.le_refl xb)
  refine ⟨?_, ?_, ?_, ?_, ?_, ?_⟩
  · refine Below.setCell (p := ⟨xb, 2, none⟩) ?_ (Nat.le_refl xb) _
    exact h.kept.grown hgr (by omega) fun k e => by have := h.row.lt k e; omega
  · exact (cell_set_ne (by omega)).trans (grown_cell hgr hx h.c0)
  · exact (cell_set_ne (by omega)).trans (grown_cell hgr hx h.c1)
  · exact cell_set_eq (grown_cell hgr hx h.c2)
  · have h1 := (World.frozen?_of_block (a := ⟨xb, 2, none⟩) (hgr.block xb hz (Ne.symm hx))).trans h.fr
    rw [World.frozen?_setCell]; exact h1
  · have := ownsRow_set hrow (a := ⟨xb, 2, none⟩) (show xb < xb + 1 by omega) (.slice (some ⟨g, 0, none⟩) (ts.length + 1) cap')
    simpa using this
theorem Gathers.trials {V0 V : World} {xb n cap : Nat} {p : Option Addr} {weeks : Int} {v : Value} {ts : List Trial} (h : Gathers V0 V xb p n cap weeks v ts) : ∃ q capt, v = .slice q ts.length capt ∧ (ts = [] ∨ ∃ b o, q = some ⟨b, o, none⟩ ∧ TrialsAt V b o ts) ∧ ts.length ≤ capt := by
  have hrow := h.row
  obtain ⟨h1, h2⟩ := h.row
  rcases h2 with ⟨e, h0⟩ | ⟨g, cap', cur, e, _, _, hnc, _⟩
  · have : ts = [] := List.length_eq_zero_iff.1 h0
    exact ⟨none, 0, by rw [e, h0], .inl this, by omega⟩
  · rw [e] at hrow
    exact ⟨some ⟨g, 0, none⟩, cap', e, .inr ⟨g, 0, rfl, trialsAt_own hrow⟩, hnc⟩
end Go.Proofs.YtcgihkaglonnaaaGreatDoor
set_option linter.all false
namespace Go.Proofs.YtcgihkaglonnaaaGreatDoor
open Go.RowKit Go.Sort Go.Rg
set_option maxRecDepth 100000

/-- an append whose run is known, at one operation, in any frame -/
theorem wpIn_append_run {F : Fence} {nF : Nat} {P : Program} (w : World) {o : Oper} {a : Act} {K : Act → World → Prop} {Q : Exit → Act → World → Prop} (s x : Operand) (t : TypeId)
    (ho : o.op = .call { callee := .builtin .append, args := #[s, x], argTypes := #[t, t] }) {v y v' : Value} {w' : World} (hs : a.eval s = v) (hx : a.eval x = y)
    (hr : (Builtin.append_ #[t, t] o.type #[v, y]).run P w = .ok v' w') (h : K (a.put o.dst v') w') : o.wpIn F nF P a w K Q := by
  unfold Oper.wpIn
  refine ⟨by simp [Oper.about, ho, resolve, Target.leads, Sem.run_pure], ?_⟩
  rw [Oper.semAt_plain F _ _ (by rw [ho]; intro c hc'; cases hc')]
  simp [execOp, ho, resolve, invoke, builtin, hs, hx, hr, Result.andThen]
  exact h

theorem trials_cells {w : World} {b o : Nat} {ts : List Trial} (h : TrialsAt w b o ts) (j : Nat) (u : Value) (hu : (ts.flatMap trialC)[j]? = some u) : w.cell? ((⟨b, o, none⟩ : Addr).add j) = some u := by
  have hlen := trials_len ts
  have hj : j < (ts.flatMap trialC).length := (List.getElem?_eq_some_iff.1 hu).1
  rw [hlen] at hj
  have hii : j / 4 < ts.length := by omega
  have hk : j % 4 < 4 := Nat.mod_lt _ (by omega)
  have e : j = j / 4 * 4 + j % 4 := by omega
  have hx : ts[j / 4]? = some ts[j / 4] := List.getElem?_eq_getElem hii
  rw [e, trials_get ts _ _ _ hx hk] at hu
  obtain ⟨c0, c1, c2, c3⟩ := h.2 _ _ hx
  rw [e]
  generalize j % 4 = k at *
  generalize j / 4 = i at *
  generalize ts[i]'hii = x at *
  have he : ∀ k, ((⟨b, o, none⟩ : Addr).add (i * 4 + k)) = ⟨b, o + i * 4 + k, none⟩ := fun k => by simp [Addr.add, Nat.add_assoc]
  rw [he]
  match k, hk, hu with
  | 0, _, hu => cases hu; exact c0
  | 1, _, hu => cases hu; exact c1
  | 2, _, hu => cases hu; exact c2
  | 3, _, hu => cases hu; exact c3

/-- an append of one trial onto a slice that is full: a new block -/
theorem run_append_full (ty : TypeId) (w : World) (q : Option Addr) (ts : List Trial) (t : Trial) (hq : ts = [] ∨ ∃ b o, q = some ⟨b, o, none⟩ ∧ TrialsAt w b o ts) (hl : ts.length ≤ 1000) (ad : Addr) (c : Nat)
    (hnews : ∀ (k : Nat) (u : Value), (trialC t)[k]? = some u → w.cell? (ad.add k) = some u) :
    ∃ cap w', (Builtin.append_ #[23, 23] ty #[.slice q ts.length ts.length, .slice (some ad) 1 c]).run Tryz.prog w = .ok (.slice (some ⟨w.heap.size, 0, none⟩) (ts.length + 1) cap) w' ∧
      w'.ownsRow w.heap.size 49 4 (.slice (some ⟨w.heap.size, 0, none⟩) (ts.length + 1) cap) (ts.length + 1) (ts.flatMap trialC ++ trialC t) ∧ Kept w w' := by
  obtain ⟨i0, hi, hiz, his, hib⟩ := info_parts infoT
  have hlen := trials_len ts
  have hzl : (Value.agg #[.int .i64 0, .int .i64 0, .int .i64 0, .int .i64 0]).cells.size = 4 := rfl
  have made : ∀ (old : Nat), (w.drew.alloc (.cells ((ts.flatMap trialC).toArray ++ (trialC t).toArray ++ Builtin.zeroCells (Value.agg #[.int .i64 0, .int .i64 0, .int .i64 0, .int .i64 0]).cells (grownCap w (ts.length + 1) old 49 - (ts.length + 1))) 49)).ownsRow w.heap.size 49 4
      (.slice (some ⟨w.heap.size, 0, none⟩) (ts.length + 1) (grownCap w (ts.length + 1) old 49)) (ts.length + 1) (ts.flatMap trialC ++ trialC t) := fun old => by
    have hge := grownCap_ge w (ts.length + 1) old 49
    have hcm := grownCap_le_maxLen w (ts.length + 1) old 49 (by unfold maxLen; omega)
    have hn4 : (trialC t).length = 4 := rfl
    have hall : (ts.flatMap trialC ++ trialC t).length = (ts.length + 1) * 4 := by rw [List.length_append, hlen, hn4]; omega
    refine ⟨hall, .inr ⟨w.heap.size, _, _, rfl, Nat.le_refl _, heap_alloc_new w.drew _, hge, hcm, ?_, ?_⟩⟩
    · simp only [Array.size_append, List.size_toArray, size_zeroCells, hzl, hlen, hn4]
      omega
    · simp only [Array.toList_append, List.append_assoc]
      rw [← List.append_assoc, ← hall]
      exact List.take_left
  have kept : ∀ o : Obj, Kept w (w.drew.alloc o) := fun o => kept_alloc (kept_drew (kept_refl _)) _
  have hn4 : (trialC t).length = 1 * i0.size := by rw [his]; rfl
  cases q with
  | none =>
    have he : ts = [] := by
      rcases hq with e | ⟨b, o, e, _⟩
      · exact e
      · cases e
    subst he
    have hr := run_append_nil (P := Tryz.prog) w 23 ty 49 i0 _ Tryz.underlying23 hi hiz ad 1 c (trialC t) hn4 hnews (by omega) (by omega) (by rw [hib]; omega)
    have hm := made 0
    exact ⟨_, _, hr, by simpa using hm, kept _⟩
  | some b =>
    have holds : ∀ (j : Nat) (v : Value), (ts.flatMap trialC)[j]? = some v → w.cell? (b.add j) = some v := by
      rcases hq with e | ⟨b', o, e, h⟩
      · subst e; intro j v h; simp at h
      · cases e; exact trials_cells h
    have hr := run_append_grow (P := Tryz.prog) w 23 ty 49 i0 _ Tryz.underlying23 hi hiz b ts.length ts.length (ts.flatMap trialC) (by rw [his]; exact hlen) holds ad 1 c (trialC t) hn4 hnews (by omega) (by omega) (growslice_fits (by omega) (by rw [hib]; omega))
    exact ⟨_, _, hr, made ts.length, kept _⟩

/-- nothing is appended -/
theorem run_append_empty (ty : TypeId) (w : World) (b : Addr) (q : Option Addr) (c : Nat) : (Builtin.append_ #[23, 23] ty #[.slice (some b) 0 0, .slice q 0 c]).run Tryz.prog w = .ok (.slice (some b) 0 0) w := by
  obtain ⟨i0, hi, hiz, his, hib⟩ := info_parts infoT
  cases q <;> simp [Builtin.append_, run_underlying Tryz.underlying23, sizeOf, typeInfo, hi, Builtin.lenOf, Builtin.firstCells, loadCells, loadCellsFrom, storeCells]

/-- an append of trials onto a row of one's own -/
theorem run_append_rows (ty : TypeId) (w : World) (base g : Nat) (q : Option Addr) (capt : Nat) (ts : List Trial) (hg : w.ownsRow base 49 4 (.slice (some ⟨g, 0, none⟩) 0 0) 0 []) (hq : ts = [] ∨ ∃ b o, q = some ⟨b, o, none⟩ ∧ TrialsAt w b o ts) (hl : ts.length ≤ 1000) (hb : base ≤ w.heap.size) :
    ∃ v' w', (Builtin.append_ #[23, 23] ty #[.slice (some ⟨g, 0, none⟩) 0 0, .slice q ts.length capt]).run Tryz.prog w = .ok v' w' ∧ w'.ownsRow base 49 4 v' ts.length (ts.flatMap trialC) ∧ w.grownBy w' (some g) ∧ (v'.ownBlock = some g ∨ v'.ownBlock = some w.heap.size) := by
  obtain ⟨i0, hi, hiz, his, hib⟩ := info_parts infoT
  by_cases h0 : ts = []
  · subst h0
    exact ⟨_, _, run_append_empty ty w _ q capt, by simpa using hg, ⟨rfl, rfl, rfl, Nat.le_refl _, fun _ _ _ => rfl⟩, .inl rfl⟩
  · obtain ⟨b, o, rfl, h⟩ := hq.resolve_left h0
    have hnews : ∀ (j : Nat) (v : Value), (ts.flatMap trialC)[j]? = some v → w.cell? ((⟨b, o, none⟩ : Addr).add j) = some v := trials_cells h
    obtain ⟨v', w', hr, h1, h2, _, h3⟩ := run_append_own_at (P := Tryz.prog) w base 23 ty 49 i0 _ 4 32 Tryz.underlying23 hi hiz his hib rfl (by decide) (.slice (some ⟨g, 0, none⟩) 0 0) 0 [] hg ⟨b, o, none⟩ ts.length capt (ts.flatMap trialC) (trials_len ts) hnews (trials_one ts) (by unfold maxLen; omega) (by omega) hb
    refine ⟨v', w', hr, by simpa using h1, h2, h3⟩
/-- as atSt_mid, with what the new ones are -/
theorem atSt_mid2 {l : List Oper} {vs : Nat → Value} {a0 a : Act} {listed : Array Bool} (h : AtSt l.toArray vs a0 listed a) (lo k : Nat) (hd : l.all (fun o => match o.dst with | some d => Nat.ble lo d && Nat.blt d (lo + k) | none => true) = true) (hn : lo + k ≤ a0.tmps.size) :
    ∃ y : Nat → Value, (∀ i, i < k → a.tmps.getD (lo + i) undef = y i) ∧ a = { tmps := (a0.tmps.toList.take lo ++ ((List.range k).map y ++ a0.tmps.toList.drop (lo + k))).toArray, defers := a0.defers } := by
  obtain ⟨y, hy⟩ := atSt_mid h lo k hd hn
  refine ⟨y, fun i hi => ?_, hy⟩
  have hl0 : (a0.tmps.toList.take lo).length = lo := by rw [List.length_take, Array.length_toList]; omega
  have hget : (a0.tmps.toList.take lo ++ ((List.range k).map y ++ a0.tmps.toList.drop (lo + k)))[lo + i]? = some (y i) := by
    rw [List.getElem?_append_right (by omega), hl0, List.getElem?_append_left (by simp; omega)]
    rw [show lo + i - lo = i by omega]
    simp [hi]
  rw [hy]
  simp only [Array.getD_eq_getD_getElem?, List.getElem?_toArray, hget, Option.getD_some]
end Go.Proofs.YtcgihkaglonnaaaGreatDoor
set_option linter.all false
namespace Go.Proofs.YtcgihkaglonnaaaGreatDoor
open Go.RowKit Go.Sort Go.Rg
open Go.ChangeMaps (setBlock)
set_option maxRecDepth 100000

set_option maxHeartbeats 4000000 in
theorem newChoir_in (S0 : Nat → Prop) (p q : Option Addr) (cap capt : Nat) (B : Book) (W : World) (hok : B.okB = true) (hb : BookAt W p q cap capt B) (hSb : ∀ b o, p = some ⟨b, o, none⟩ → S0 b) (hSt : B.trials ≠ [] → ∀ b o, q = some ⟨b, o, none⟩ → S0 b) :
    Calls Tryz.prog 43 #[.agg #[.slice p B.boys.length cap, .int .i64 B.weeks, .slice q B.trials.length capt]] W fun e C => ∃ c : Choir, c.B = B ∧ e = .returned c.val ∧ Kept W C ∧ ChoirAt (fun b => b < C.heap.size ∧ (S0 b ∨ W.heap.size ≤ b)) C c := by
  have h := hb
  have hmm := @run_makeMap Tryz.prog
  go_enter Tryz.func43, Tryz.ntmps43
  go_wp2_with fail
  have hk0 : Kept W ((((W.alloc (Obj.cells #[.slice p B.boys.length cap, .int .i64 B.weeks, .slice q B.trials.length capt] 25)).alloc (Obj.cells #[.slice none 0 0, .int .i64 0, .slice none 0 0, .map none] 70)).alloc (Obj.map #[] 0)).alloc (Obj.cells #[.slice p B.boys.length cap, .int .i64 B.weeks, .slice q B.trials.length capt, .map (some (W.heap.size + 1 + 1))] 70)) := kept_alloc (kept_alloc (kept_alloc (kept_alloc (kept_refl _) _) _) _) _
  have hz0 : ((((W.alloc (Obj.cells #[.slice p B.boys.length cap, .int .i64 B.weeks, .slice q B.trials.length capt] 25)).alloc (Obj.cells #[.slice none 0 0, .int .i64 0, .slice none 0 0, .map none] 70)).alloc (Obj.map #[] 0)).alloc (Obj.cells #[.slice p B.boys.length cap, .int .i64 B.weeks, .slice q B.trials.length capt, .map (some (W.heap.size + 1 + 1))] 70)).heap.size = W.heap.size + 4 := by simp
  have hmap : ((((W.alloc (Obj.cells #[.slice p B.boys.length cap, .int .i64 B.weeks, .slice q B.trials.length capt] 25)).alloc (Obj.cells #[.slice none 0 0, .int .i64 0, .slice none 0 0, .map none] 70)).alloc (Obj.map #[] 0)).alloc (Obj.cells #[.slice p B.boys.length cap, .int .i64 B.weeks, .slice q B.trials.length capt, .map (some (W.heap.size + 1 + 1))] 70)).heap[W.heap.size + 1 + 1]? = some (.map #[] 0) := by
    have h1 := World.alloc_heap_new ((W.alloc (Obj.cells #[.slice p B.boys.length cap, .int .i64 B.weeks, .slice q B.trials.length capt] 25)).alloc (Obj.cells #[.slice none 0 0, .int .i64 0, .slice none 0 0, .map none] 70)) (Obj.map #[] 0)
    simp only [World.size_alloc] at h1
    exact (Below.heap_alloc _ _ _ (by simp)).trans h1
  have c0 : ((((W.alloc (Obj.cells #[.slice p B.boys.length cap, .int .i64 B.weeks, .slice q B.trials.length capt] 25)).alloc (Obj.cells #[.slice none 0 0, .int .i64 0, .slice none 0 0, .map none] 70)).alloc (Obj.map #[] 0)).alloc (Obj.cells #[.slice p B.boys.length cap, .int .i64 B.weeks, .slice q B.trials.length capt, .map (some (W.heap.size + 1 + 1))] 70)).cell? ⟨W.heap.size + 1 + 1 + 1, 0, none⟩ = some (.slice p B.boys.length cap) := by go_simp
  have c1 : ((((W.alloc (Obj.cells #[.slice p B.boys.length cap, .int .i64 B.weeks, .slice q B.trials.length capt] 25)).alloc (Obj.cells #[.slice none 0 0, .int .i64 0, .slice none 0 0, .map none] 70)).alloc (Obj.map #[] 0)).alloc (Obj.cells #[.slice p B.boys.length cap, .int .i64 B.weeks, .slice q B.trials.length capt, .map (some (W.heap.size + 1 + 1))] 70)).cell? ⟨W.heap.size + 1 + 1 + 1, 1, none⟩ = some (.int .i64 B.weeks) := by go_simp
  have c2 : ((((W.alloc (Obj.cells #[.slice p B.boys.length cap, .int .i64 B.weeks, .slice q B.trials.length capt] 25)).alloc (Obj.cells #[.slice none 0 0, .int .i64 0, .slice none 0 0, .map none] 70)).alloc (Obj.map #[] 0)).alloc (Obj.cells #[.slice p B.boys.length cap, .int .i64 B.weeks, .slice q B.trials.length capt, .map (some (W.heap.size + 1 + 1))] 70)).cell? ⟨W.heap.size + 1 + 1 + 1, 2, none⟩ = some (.slice q B.trials.length capt) := by go_simp
  have c3 : ((((W.alloc (Obj.cells #[.slice p B.boys.length cap, .int .i64 B.weeks, .slice q B.trials.length capt] 25)).alloc (Obj.cells #[.slice none 0 0, .int .i64 0, .slice none 0 0, .map none] 70)).alloc (Obj.map #[] 0)).alloc (Obj.cells #[.slice p B.boys.length cap, .int .i64 B.weeks, .slice q B.trials.length capt, .map (some (W.heap.size + 1 + 1))] 70)).cell? ⟨W.heap.size + 1 + 1 + 1, 3, none⟩ = some (.map (some (W.heap.size + 1 + 1))) := by go_simp
  have d0 : ((((W.alloc (Obj.cells #[.slice p B.boys.length cap, .int .i64 B.weeks, .slice q B.trials.length capt] 25)).alloc (Obj.cells #[.slice none 0 0, .int .i64 0, .slice none 0 0, .map none] 70)).alloc (Obj.map #[] 0)).alloc (Obj.cells #[.slice p B.boys.length cap, .int .i64 B.weeks, .slice q B.trials.length capt, .map (some (W.heap.size + 1 + 1))] 70)).cell? ⟨W.heap.size + 1, 0, none⟩ = some (.slice none 0 0) := by go_simp
  have d1 : ((((W.alloc (Obj.cells #[.slice p B.boys.length cap, .int .i64 B.weeks, .slice q B.trials.length capt] 25)).alloc (Obj.cells #[.slice none 0 0, .int .i64 0, .slice none 0 0, .map none] 70)).alloc (Obj.map #[] 0)).alloc (Obj.cells #[.slice p B.boys.length cap, .int .i64 B.weeks, .slice q B.trials.length capt, .map (some (W.heap.size + 1 + 1))] 70)).cell? ⟨W.heap.size + 1, 1, none⟩ = some (.int .i64 0) := by go_simp
  have d2 : ((((W.alloc (Obj.cells #[.slice p B.boys.length cap, .int .i64 B.weeks, .slice q B.trials.length capt] 25)).alloc (Obj.cells #[.slice none 0 0, .int .i64 0, .slice none 0 0, .map none] 70)).alloc (Obj.map #[] 0)).alloc (Obj.cells #[.slice p B.boys.length cap, .int .i64 B.weeks, .slice q B.trials.length capt, .map (some (W.heap.size + 1 + 1))] 70)).cell? ⟨W.heap.size + 1, 2, none⟩ = some (.slice none 0 0) := by go_simp
  have d3 : ((((W.alloc (Obj.cells #[.slice p B.boys.length cap, .int .i64 B.weeks, .slice q B.trials.length capt] 25)).alloc (Obj.cells #[.slice none 0 0, .int .i64 0, .slice none 0 0, .map none] 70)).alloc (Obj.map #[] 0)).alloc (Obj.cells #[.slice p B.boys.length cap, .int .i64 B.weeks, .slice q B.trials.length capt, .map (some (W.heap.size + 1 + 1))] 70)).cell? ⟨W.heap.size + 1, 3, none⟩ = some (.map none) := by go_simp
  have df : ∀ i, ((((W.alloc (Obj.cells #[.slice p B.boys.length cap, .int .i64 B.weeks, .slice q B.trials.length capt] 25)).alloc (Obj.cells #[.slice none 0 0, .int .i64 0, .slice none 0 0, .map none] 70)).alloc (Obj.map #[] 0)).alloc (Obj.cells #[.slice p B.boys.length cap, .int .i64 B.weeks, .slice q B.trials.length capt, .map (some (W.heap.size + 1 + 1))] 70)).frozen? ⟨W.heap.size + 1, i, none⟩ = false := by intro i; go_simp
  generalize ((((W.alloc (Obj.cells #[.slice p B.boys.length cap, .int .i64 B.weeks, .slice q B.trials.length capt] 25)).alloc (Obj.cells #[.slice none 0 0, .int .i64 0, .slice none 0 0, .map none] 70)).alloc (Obj.map #[] 0)).alloc (Obj.cells #[.slice p B.boys.length cap, .int .i64 B.weeks, .slice q B.trials.length capt, .map (some (W.heap.size + 1 + 1))] 70)) = V0 at *
  generalize hcb : W.heap.size + 1 + 1 + 1 = cb at *
  generalize hbm : W.heap.size + 1 + 1 = bm at *
  generalize hrb : W.heap.size + 1 = rb at *
  have hbook : ∀ (i : Nat) (x : Trial), B.trials[i]? = some x → validTrialB B.boys.length B.weeks.toNat x = true := by
    simp only [Book.okB, Bool.and_eq_true, List.all_eq_true] at hok
    exact fun i x hx => hok.2 x (List.mem_of_getElem? hx)
  have hlen : B.boys.length ≤ 4 ∧ B.weeks ≤ 6 ∧ B.trials.length ≤ 6 := by
    simp only [Book.okB, inB, Bool.and_eq_true, decide_eq_true_eq] at hok
    omega
  go_loopw [13] (fun i V => ∃ (j : Nat) (l : List Slot), j ≤ B.trials.length ∧ i = .int .i64 j ∧ Tried V bm (W.heap.size + 4) l (B.trials.take j) ∧ Turns (fun b => b = bm ∨ W.heap.size + 4 ≤ b) V0 V) (fun i V => B.trials.length - (intOf i).toNat)
  case atStart =>
    exact ⟨0, [], by omega, rfl, ⟨hmap, (fun s hs => nomatch hs), (fun i j s t h => by simp at h), (fun s hs => nomatch hs), (fun i j s t h => by simp at h), (fun b k _ _ => .inr ⟨(fun s hs => nomatch hs), rfl⟩)⟩, Turns.refl _ _⟩
  case round =>
    obtain ⟨j, l, hj, rfl, hT, hV⟩ := hrel
    by_cases hlt : j < B.trials.length
    · have hltI : (j : Int) < B.trials.length := by omega
      have hget : B.trials[j]? = some B.trials[j] := List.getElem?_eq_getElem hlt
      generalize B.trials[j] = t at *
      rcases h.trials with h00 | ⟨bT, oT, rfl, hTT⟩
      · rw [h00] at hlt; cases hlt
      have hTV := (hTT.kept hk0).turns hV (by have := hTT.1; omega)
      obtain ⟨t0, t1, t2, t3⟩ := hTV.2 j t hget
      have hbT := hTV.1
      have e3 := tcell hV (by omega) c3
      have hzc := Go.Ai.lt_of_cell e3
      have HT := Lib.hid hT; clear hT
      have HG := Lib.hid hget; clear hget
      have HB := Lib.hid hbook; clear hbook
      have HH := Lib.hid h; clear h
      clear hTT hTV hmap
      have hval := HB.out j t HG.out
      obtain ⟨tb, tw, tn, tg⟩ := t
      simp only [validTrialB, inB, Bool.and_eq_true, decide_eq_true_eq] at hval
      simp only at t0 t1 t2 t3
      obtain ⟨b, rfl⟩ := Int.eq_ofNat_of_zero_le (show 0 ≤ tb by omega)
      obtain ⟨k, rfl⟩ := Int.eq_ofNat_of_zero_le (show 0 ≤ tw by omega)
      have hb4 : b < 4 := by omega
      have hk6 : k < 6 := by omega
      have HV := Lib.hid hval; clear hval
      go_wp2_with fail
      have hk3 : Kept wr (((wr.alloc (Obj.cells #[.int .i64 (b : Int), .int .i64 (k : Int), .int .i64 tn, .int .i64 tg] 49)).alloc (Obj.cells #[.int .i64 (b : Int), .int .i64 (k : Int)] 106)).alloc (Obj.cells #[.int .i64 (b : Int), .int .i64 (k : Int), .int .i64 tn, .int .i64 tg] 49)) := kept_alloc (kept_alloc (kept_alloc (kept_refl _) _) _) _
      have hz3 : (((wr.alloc (Obj.cells #[.int .i64 (b : Int), .int .i64 (k : Int), .int .i64 tn, .int .i64 tg] 49)).alloc (Obj.cells #[.int .i64 (b : Int), .int .i64 (k : Int)] 106)).alloc (Obj.cells #[.int .i64 (b : Int), .int .i64 (k : Int), .int .i64 tn, .int .i64 tg] 49)).heap.size = wr.heap.size + 3 := by simp
      have hnb : (((wr.alloc (Obj.cells #[.int .i64 (b : Int), .int .i64 (k : Int), .int .i64 tn, .int .i64 tg] 49)).alloc (Obj.cells #[.int .i64 (b : Int), .int .i64 (k : Int)] 106)).alloc (Obj.cells #[.int .i64 (b : Int), .int .i64 (k : Int), .int .i64 tn, .int .i64 tg] 49)).heap[wr.heap.size + 1 + 1]? = some (.cells #[.int .i64 (b : Int), .int .i64 (k : Int), .int .i64 tn, .int .i64 tg] 49 (0, 0)) := by
        have h1 := World.alloc_heap_new ((wr.alloc (Obj.cells #[.int .i64 (b : Int), .int .i64 (k : Int), .int .i64 tn, .int .i64 tg] 49)).alloc (Obj.cells #[.int .i64 (b : Int), .int .i64 (k : Int)] 106)) (Obj.cells #[.int .i64 (b : Int), .int .i64 (k : Int), .int .i64 tn, .int .i64 tg] 49)
        simp only [World.size_alloc] at h1
        exact h1
      generalize (((wr.alloc (Obj.cells #[.int .i64 (b : Int), .int .i64 (k : Int), .int .i64 tn, .int .i64 tg] 49)).alloc (Obj.cells #[.int .i64 (b : Int), .int .i64 (k : Int)] 106)).alloc (Obj.cells #[.int .i64 (b : Int), .int .i64 (k : Int), .int .i64 tn, .int .i64 tg] 49)) = W3 at *
      obtain ⟨W3', l', j', s, hme, hT', hs, e1, e2, hW3, hz3'⟩ := entry_any (HT.out.kept hk3) hb4 hk6
      unfold keyV at hme
      rw [hme]
      have HT' := Lib.hid hT'; clear hT'
      have hbmz : bm < wr.heap.size := (Array.getElem?_eq_some_iff.1 HT.out.map).1
      have hnews := World.news_of_block ((hW3.block _ (by omega) (by omega)).trans hnb)
      obtain ⟨i0, hi, hiz, his, hib⟩ := info_parts infoT
      have hrow := (HT'.out.rows s (List.mem_of_getElem? hs)).1
      have hrl : s.ts.length ≤ 6 := by
        have := (HT'.out.rows s (List.mem_of_getElem? hs)).2
        simp only [List.length_take] at this
        omega
      have hbase : W.heap.size + 4 ≤ wr.heap.size := by have := hV.size; omega
      go_wp2_with (at_builtin; refine wpList_append_lies _ rfl _ _ 23 rfl (W.heap.size + 4) 49 i0 _ 4 32 Tryz.underlying23 hi hiz his hib rfl (by decide) s.v s.ts.length _ rfl hrow ⟨wr.heap.size + 1 + 1, 0, none⟩ 1 1 [.int .i64 (b : Int), .int .i64 (k : Int), .int .i64 tn, .int .i64 tg] rfl rfl hnews (by simp [Value.oneCell']) (by decide) (by unfold maxLen; omega) (by omega) (by omega) _ rfl ?_; intro g cap' W4 hown hgrow hat hlt4)
      have hm4 : W4.heap[bm]? = some (.map (entries l') l'.length) := (hgrow.block bm (by omega) (fun e => by
        rcases row_not_map hrow HT'.out.map with h1 | h1
        · rw [h1] at e; cases e
        · exact h1 e.symm)).trans HT'.out.map
      have hes := entryStore_at W4 bm l' l'.length j' s (.slice (some ⟨g, 0, none⟩) (s.ts.length + 1) cap') (s.ts ++ [⟨(b : Int), (k : Int), tn, tg⟩]) hm4 hs
      have htk : B.trials.take (j + 1) = B.trials.take j ++ [⟨(b : Int), (k : Int), tn, tg⟩] := by
        rw [List.take_succ, HG.out]; rfl
      have hend := HT'.out.append (t := ⟨(b : Int), (k : Int), tn, tg⟩) hs (by simp [isAt, e1, e2]) hgrow hown hat
      rw [← htk] at hend
      have hT4 : Turns (fun b => b = bm ∨ W.heap.size + 4 ≤ b) W3' W4 := ⟨hgrow.os, hgrow.tape, hgrow.output, hgrow.size, fun i hi hne => hgrow.block i hi (fun e => hne (.inr (hrow.lt i e.symm).1))⟩
      have hTs := grown_set (W := W4) (bm := bm) (o := .map (entries (l'.set j' { s with v := .slice (some ⟨g, 0, none⟩) (s.ts.length + 1) cap', ts := s.ts ++ [⟨(b : Int), (k : Int), tn, tg⟩] })) l'.length)
      have hT5 : Turns (fun b => b = bm ∨ W.heap.size + 4 ≤ b) V0 (setBlock W4 bm (.map (entries (l'.set j' { s with v := .slice (some ⟨g, 0, none⟩) (s.ts.length + 1) cap', ts := s.ts ++ [⟨(b : Int), (k : Int), tn, tg⟩] })) l'.length)) :=
        (((hV.trans (Ext.refl _ _) (kturns hk3 _)).trans (Ext.refl _ _) (hW3.mono fun _ _ h => .inl h)).trans (Ext.refl _ _) hT4).trans (Ext.refl _ _)
          ⟨hTs.os, hTs.tape, hTs.output, hTs.size, fun i hi hne => hTs.block i hi (fun e => hne (.inl (by cases e; rfl)))⟩
      have HEND : Hid (∃ (j2 : Nat) (l2 : List Slot), j2 ≤ B.trials.length ∧ Value.int .i64 ((j : Int) + 1) = .int .i64 (j2 : Int) ∧ Tried (setBlock W4 bm (.map (entries (l'.set j' { s with v := .slice (some ⟨g, 0, none⟩) (s.ts.length + 1) cap', ts := s.ts ++ [⟨(b : Int), (k : Int), tn, tg⟩] })) l'.length)) bm (W.heap.size + 4) l2 (B.trials.take j2) ∧ Turns (fun b => b = bm ∨ W.heap.size + 4 ≤ b) V0 (setBlock W4 bm (.map (entries (l'.set j' { s with v := .slice (some ⟨g, 0, none⟩) (s.ts.length + 1) cap', ts := s.ts ++ [⟨(b : Int), (k : Int), tn, tg⟩] })) l'.length))) :=
        Lib.hid ⟨j + 1, _, by omega, by simp, hend, hT5⟩
      clear hend hT5 hTs hT4
      rw [hes]
      clear hes hm4 hown hgrow hat hrow
      generalize setBlock W4 bm (.map (entries (l'.set j' { s with v := .slice (some ⟨g, 0, none⟩) (s.ts.length + 1) cap', ts := s.ts ++ [⟨(b : Int), (k : Int), tn, tg⟩] })) l'.length) = W5 at *
      go_wp2_with fail
      go_roundw
      case rel => exact HEND.out
      case measure => simp [intOf]; omega
    · have hltI : ¬ (j : Int) < B.trials.length := by omega
      have e0 := tcell hV (by omega) c0
      have e1 := tcell hV (by omega) c1
      have e2 := tcell hV (by omega) c2
      have e3 := tcell hV (by omega) c3
      have g0 := tcell hV (by omega) d0
      have g1 := tcell hV (by omega) d1
      have g2 := tcell hV (by omega) d2
      have g3 := tcell hV (by omega) d3
      have gf : ∀ i, wr.frozen? ⟨rb, i, none⟩ = false := fun i => (hV.frozen (by omega) (by omega)).trans (df i)
      have gf0 := gf 0
      have gf1 := gf 1
      have gf2 := gf 2
      have gf3 := gf 3
      go_wp2_with fail
      have hje : j = B.trials.length := by omega
      have hTC : Turns (fun b => b = rb) wr ((((wr.setCell ⟨rb, 0, none⟩ (.slice p B.boys.length cap)).setCell ⟨rb, 1, none⟩ (.int .i64 B.weeks)).setCell ⟨rb, 2, none⟩ (.slice q B.trials.length capt)).setCell ⟨rb, 3, none⟩ (.map (some bm))) := ((((Turns.refl (fun b => b = rb) wr).setCell rfl _ _).setCell rfl _ _).setCell rfl _ _).setCell rfl _ _
      have r0 : ((((wr.setCell ⟨rb, 0, none⟩ (.slice p B.boys.length cap)).setCell ⟨rb, 1, none⟩ (.int .i64 B.weeks)).setCell ⟨rb, 2, none⟩ (.slice q B.trials.length capt)).setCell ⟨rb, 3, none⟩ (.map (some bm))).cell? ⟨rb, 0, none⟩ = some (.slice p B.boys.length cap) := by go_simp
      have r1 : ((((wr.setCell ⟨rb, 0, none⟩ (.slice p B.boys.length cap)).setCell ⟨rb, 1, none⟩ (.int .i64 B.weeks)).setCell ⟨rb, 2, none⟩ (.slice q B.trials.length capt)).setCell ⟨rb, 3, none⟩ (.map (some bm))).cell? ⟨rb, 1, none⟩ = some (.int .i64 B.weeks) := by go_simp
      have r2 : ((((wr.setCell ⟨rb, 0, none⟩ (.slice p B.boys.length cap)).setCell ⟨rb, 1, none⟩ (.int .i64 B.weeks)).setCell ⟨rb, 2, none⟩ (.slice q B.trials.length capt)).setCell ⟨rb, 3, none⟩ (.map (some bm))).cell? ⟨rb, 2, none⟩ = some (.slice q B.trials.length capt) := by go_simp
      have r3 : ((((wr.setCell ⟨rb, 0, none⟩ (.slice p B.boys.length cap)).setCell ⟨rb, 1, none⟩ (.int .i64 B.weeks)).setCell ⟨rb, 2, none⟩ (.slice q B.trials.length capt)).setCell ⟨rb, 3, none⟩ (.map (some bm))).cell? ⟨rb, 3, none⟩ = some (.map (some bm)) := by go_simp
      generalize ((((wr.setCell ⟨rb, 0, none⟩ (.slice p B.boys.length cap)).setCell ⟨rb, 1, none⟩ (.int .i64 B.weeks)).setCell ⟨rb, 2, none⟩ (.slice q B.trials.length capt)).setCell ⟨rb, 3, none⟩ (.map (some bm))) = C at *
      have hbl : B.boys ≠ [] := by
        intro e
        simp only [Book.okB, inB, Bool.and_eq_true, decide_eq_true_eq] at hok
        rw [e] at hok; simp at hok
      obtain ⟨bb, ob, rfl, hboysb⟩ : ∃ b o, p = some ⟨b, o, none⟩ ∧ BoysAt W b o B.boys := hb.boys.resolve_left hbl
      have hboys := hboysb
      have hWC : Kept W C := by
        refine Below.trans (Below.trans hk0 (hV.toBelow (n := W.heap.size) ?_ (by omega))) (hTC.toBelow (n := W.heap.size) ?_ ?_)
        · rintro b (rfl | h) <;> omega
        · rintro b rfl; omega
        · have := hV.size; omega
      refine bodyPost_ret (v := .agg #[.slice (some ⟨bb, ob, none⟩) B.boys.length cap, .int .i64 B.weeks, .slice q B.trials.length capt, .map (some bm)]) (by simp [results, Tryz.results43, go_sem, r0, r1, r2, r3]) rfl ?_
      refine ⟨⟨bb, ob, cap, capt, q, bm, B⟩, rfl, rfl, hWC, hok, ?_, hboys.kept hWC, ?_, ?_, hb.nt.2⟩
      · exact ⟨Nat.lt_of_lt_of_le hboys.1 hWC.size, .inl (hSb _ _ rfl)⟩
      · rcases hb.trials with h1 | ⟨b, o, e, ht⟩
        · exact .inl h1
        · by_cases h0 : B.trials = []
          · exact .inl h0
          · exact .inr ⟨b, o, e, ⟨Nat.lt_of_lt_of_le ht.1 hWC.size, .inl (hSt h0 b o e)⟩, ht.kept hWC⟩
      · intro boy wk hb5 hw
        have hT' := hT
        rw [hje, List.take_length] at hT'
        exact hT'.look hTC (by omega) (by rintro b hb2 rfl; omega) ⟨by have := hTC.size; have := (Array.getElem?_eq_some_iff.1 hT.map).1; omega, .inr (by omega)⟩ (fun b hb2 hb3 => ⟨hb3, .inr (by omega)⟩) (by have h5 : boy < B.boys.length := hb5; omega) (by have h6 : (wk : Int) < B.weeks := hw; omega)
end Go.Proofs.YtcgihkaglonnaaaGreatDoor
set_option linter.all false
namespace Go.Proofs.YtcgihkaglonnaaaGreatDoor
open Go.RowKit Go.Sort Go.Rg
set_option maxRecDepth 100000
set_option maxHeartbeats 4000000 in
theorem untried_any (c : Choir) (W : World) (S : Nat → Prop) (h : ChoirAt S W c) (n0 : Nat) (hn0 : n0 ≤ W.heap.size) (hS : ∀ b, S b → b < n0) (hL : Laid W) :
    Calls Tryz.prog 108 #[c.val] W fun e C =>
      ∃ c' : Choir, c'.B = ⟨c.B.boys, c.B.weeks, []⟩ ∧ e = .returned c'.val ∧ Kept W C ∧ ∃ S', ChoirAt S' C c' ∧ ∀ b, S' b → b < C.heap.size ∧ (b < n0 ∨ W.heap.size ≤ b) := by
  have hok : (Book.mk c.B.boys c.B.weeks []).okB = true := by
    have := h.ok
    simp only [Book.okB, Bool.and_eq_true] at this
    unfold Book.okB
    rw [this.1.1.1.1, this.1.1.1.2, this.1.2]
    rfl
  have hbl : c.B.boys.length ≤ 140737488355328 := by
    have := h.ok
    simp only [Book.okB, inB, Bool.and_eq_true, decide_eq_true_eq] at this
    omega
  unfold Choir.val
  have hk0 : Kept W (((W.alloc (Obj.cells #[.slice (some ⟨c.bb, c.ob, none⟩) c.B.boys.length c.capb, .int .i64 c.B.weeks, .slice c.q c.B.trials.length c.capt, .map (some c.bm)] 70)).alloc (Obj.cells #[.slice none 0 0, .int .i64 0, .slice none 0 0, .map none] 70)).alloc (Obj.cells #[.slice (some ⟨c.bb, c.ob, none⟩) c.B.boys.length c.capb, .int .i64 c.B.weeks, .slice none 0 0] 25)) := kept_alloc (kept_alloc (kept_alloc (kept_refl _) _) _) _
  have r0 : (((W.alloc (Obj.cells #[.slice (some ⟨c.bb, c.ob, none⟩) c.B.boys.length c.capb, .int .i64 c.B.weeks, .slice c.q c.B.trials.length c.capt, .map (some c.bm)] 70)).alloc (Obj.cells #[.slice none 0 0, .int .i64 0, .slice none 0 0, .map none] 70)).alloc (Obj.cells #[.slice (some ⟨c.bb, c.ob, none⟩) c.B.boys.length c.capb, .int .i64 c.B.weeks, .slice none 0 0] 25)).cell? ⟨W.heap.size + 1, 0, none⟩ = some (.slice none 0 0) := by go_simp
  have r1 : (((W.alloc (Obj.cells #[.slice (some ⟨c.bb, c.ob, none⟩) c.B.boys.length c.capb, .int .i64 c.B.weeks, .slice c.q c.B.trials.length c.capt, .map (some c.bm)] 70)).alloc (Obj.cells #[.slice none 0 0, .int .i64 0, .slice none 0 0, .map none] 70)).alloc (Obj.cells #[.slice (some ⟨c.bb, c.ob, none⟩) c.B.boys.length c.capb, .int .i64 c.B.weeks, .slice none 0 0] 25)).cell? ⟨W.heap.size + 1, 1, none⟩ = some (.int .i64 0) := by go_simp
  have r2 : (((W.alloc (Obj.cells #[.slice (some ⟨c.bb, c.ob, none⟩) c.B.boys.length c.capb, .int .i64 c.B.weeks, .slice c.q c.B.trials.length c.capt, .map (some c.bm)] 70)).alloc (Obj.cells #[.slice none 0 0, .int .i64 0, .slice none 0 0, .map none] 70)).alloc (Obj.cells #[.slice (some ⟨c.bb, c.ob, none⟩) c.B.boys.length c.capb, .int .i64 c.B.weeks, .slice none 0 0] 25)).cell? ⟨W.heap.size + 1, 2, none⟩ = some (.slice none 0 0) := by go_simp
  have r3 : (((W.alloc (Obj.cells #[.slice (some ⟨c.bb, c.ob, none⟩) c.B.boys.length c.capb, .int .i64 c.B.weeks, .slice c.q c.B.trials.length c.capt, .map (some c.bm)] 70)).alloc (Obj.cells #[.slice none 0 0, .int .i64 0, .slice none 0 0, .map none] 70)).alloc (Obj.cells #[.slice (some ⟨c.bb, c.ob, none⟩) c.B.boys.length c.capb, .int .i64 c.B.weeks, .slice none 0 0] 25)).cell? ⟨W.heap.size + 1, 3, none⟩ = some (.map none) := by go_simp
  have rf : ∀ i, (((W.alloc (Obj.cells #[.slice (some ⟨c.bb, c.ob, none⟩) c.B.boys.length c.capb, .int .i64 c.B.weeks, .slice c.q c.B.trials.length c.capt, .map (some c.bm)] 70)).alloc (Obj.cells #[.slice none 0 0, .int .i64 0, .slice none 0 0, .map none] 70)).alloc (Obj.cells #[.slice (some ⟨c.bb, c.ob, none⟩) c.B.boys.length c.capb, .int .i64 c.B.weeks, .slice none 0 0] 25)).frozen? ⟨W.heap.size + 1, i, none⟩ = false := by intro i; go_simp
  go_enter Tryz.func108, Tryz.ntmps108
  go_wp2_with fail
  generalize (((W.alloc (Obj.cells #[.slice (some ⟨c.bb, c.ob, none⟩) c.B.boys.length c.capb, .int .i64 c.B.weeks, .slice c.q c.B.trials.length c.capt, .map (some c.bm)] 70)).alloc (Obj.cells #[.slice none 0 0, .int .i64 0, .slice none 0 0, .map none] 70)).alloc (Obj.cells #[.slice (some ⟨c.bb, c.ob, none⟩) c.B.boys.length c.capb, .int .i64 c.B.weeks, .slice none 0 0] 25)) = V at *
  have hbook : BookAt V (some ⟨c.bb, c.ob, none⟩) none c.capb 0 ⟨c.B.boys, c.B.weeks, []⟩ := ⟨hL.kept hk0, hbl, (by simp), .inr ⟨_, _, rfl, h.boys.kept hk0⟩, .inl rfl⟩
  refine (newChoir_in (fun b => b < n0) (some ⟨c.bb, c.ob, none⟩) none c.capb 0 ⟨c.B.boys, c.B.weeks, []⟩ V hok hbook (fun b o e => by cases e; exact hS _ h.sb) (fun h => absurd rfl h)).mono ?_
  rintro e C ⟨c', hcB, rfl, hkC, hat⟩
  have HCB := Lib.hid hcB; clear hcB hok hbl hbook
  have hW5 : W.heap.size + 1 < V.heap.size := Go.Ai.lt_of_cell r0
  unfold Choir.val
  replace r0 := kcell hkC r0
  replace r1 := kcell hkC r1
  replace r2 := kcell hkC r2
  replace r3 := kcell hkC r3
  have rf0 := ((kturns hkC (fun _ => False)).frozen hW5 (fun h => h)).trans (rf 0)
  have rf1 := ((kturns hkC (fun _ => False)).frozen hW5 (fun h => h)).trans (rf 1)
  have rf2 := ((kturns hkC (fun _ => False)).frozen hW5 (fun h => h)).trans (rf 2)
  have rf3 := ((kturns hkC (fun _ => False)).frozen hW5 (fun h => h)).trans (rf 3)
  go_wp2_with fail
  have hTC : Turns (fun b => b = W.heap.size + 1) C ((((C.setCell ⟨W.heap.size + 1, 0, none⟩ (.slice (some ⟨c'.bb, c'.ob, none⟩) c'.B.boys.length c'.capb)).setCell ⟨W.heap.size + 1, 1, none⟩ (.int .i64 c'.B.weeks)).setCell ⟨W.heap.size + 1, 2, none⟩ (.slice c'.q c'.B.trials.length c'.capt)).setCell ⟨W.heap.size + 1, 3, none⟩ (.map (some c'.bm))) := ((((Turns.refl (fun b => b = W.heap.size + 1) C).setCell rfl _ _).setCell rfl _ _).setCell rfl _ _).setCell rfl _ _
  have s0 : ((((C.setCell ⟨W.heap.size + 1, 0, none⟩ (.slice (some ⟨c'.bb, c'.ob, none⟩) c'.B.boys.length c'.capb)).setCell ⟨W.heap.size + 1, 1, none⟩ (.int .i64 c'.B.weeks)).setCell ⟨W.heap.size + 1, 2, none⟩ (.slice c'.q c'.B.trials.length c'.capt)).setCell ⟨W.heap.size + 1, 3, none⟩ (.map (some c'.bm))).cell? ⟨W.heap.size + 1, 0, none⟩ = some (.slice (some ⟨c'.bb, c'.ob, none⟩) c'.B.boys.length c'.capb) := by go_simp
  have s1 : ((((C.setCell ⟨W.heap.size + 1, 0, none⟩ (.slice (some ⟨c'.bb, c'.ob, none⟩) c'.B.boys.length c'.capb)).setCell ⟨W.heap.size + 1, 1, none⟩ (.int .i64 c'.B.weeks)).setCell ⟨W.heap.size + 1, 2, none⟩ (.slice c'.q c'.B.trials.length c'.capt)).setCell ⟨W.heap.size + 1, 3, none⟩ (.map (some c'.bm))).cell? ⟨W.heap.size + 1, 1, none⟩ = some (.int .i64 c'.B.weeks) := by go_simp
  have s2 : ((((C.setCell ⟨W.heap.size + 1, 0, none⟩ (.slice (some ⟨c'.bb, c'.ob, none⟩) c'.B.boys.length c'.capb)).setCell ⟨W.heap.size + 1, 1, none⟩ (.int .i64 c'.B.weeks)).setCell ⟨W.heap.size + 1, 2, none⟩ (.slice c'.q c'.B.trials.length c'.capt)).setCell ⟨W.heap.size + 1, 3, none⟩ (.map (some c'.bm))).cell? ⟨W.heap.size + 1, 2, none⟩ = some (.slice c'.q c'.B.trials.length c'.capt) := by go_simp
  have s3 : ((((C.setCell ⟨W.heap.size + 1, 0, none⟩ (.slice (some ⟨c'.bb, c'.ob, none⟩) c'.B.boys.length c'.capb)).setCell ⟨W.heap.size + 1, 1, none⟩ (.int .i64 c'.B.weeks)).setCell ⟨W.heap.size + 1, 2, none⟩ (.slice c'.q c'.B.trials.length c'.capt)).setCell ⟨W.heap.size + 1, 3, none⟩ (.map (some c'.bm))).cell? ⟨W.heap.size + 1, 3, none⟩ = some (.map (some c'.bm)) := by go_simp
  have hkD : Kept W ((((C.setCell ⟨W.heap.size + 1, 0, none⟩ (.slice (some ⟨c'.bb, c'.ob, none⟩) c'.B.boys.length c'.capb)).setCell ⟨W.heap.size + 1, 1, none⟩ (.int .i64 c'.B.weeks)).setCell ⟨W.heap.size + 1, 2, none⟩ (.slice c'.q c'.B.trials.length c'.capt)).setCell ⟨W.heap.size + 1, 3, none⟩ (.map (some c'.bm))) := Below.setCell (p := ⟨W.heap.size + 1, 3, none⟩) (Below.setCell (p := ⟨W.heap.size + 1, 2, none⟩) (Below.setCell (p := ⟨W.heap.size + 1, 1, none⟩) (Below.setCell (p := ⟨W.heap.size + 1, 0, none⟩) (kept_trans hk0 hkC) (show W.heap.size ≤ W.heap.size + 1 by omega) _) (show W.heap.size ≤ W.heap.size + 1 by omega) _) (show W.heap.size ≤ W.heap.size + 1 by omega) _) (show W.heap.size ≤ W.heap.size + 1 by omega) _
  generalize ((((C.setCell ⟨W.heap.size + 1, 0, none⟩ (.slice (some ⟨c'.bb, c'.ob, none⟩) c'.B.boys.length c'.capb)).setCell ⟨W.heap.size + 1, 1, none⟩ (.int .i64 c'.B.weeks)).setCell ⟨W.heap.size + 1, 2, none⟩ (.slice c'.q c'.B.trials.length c'.capt)).setCell ⟨W.heap.size + 1, 3, none⟩ (.map (some c'.bm))) = D at *
  refine bodyPost_ret (v := .agg #[.slice (some ⟨c'.bb, c'.ob, none⟩) c'.B.boys.length c'.capb, .int .i64 c'.B.weeks, .slice c'.q c'.B.trials.length c'.capt, .map (some c'.bm)]) (by simp [results, Tryz.results108, go_sem, s0, s1, s2, s3]) rfl ?_
  exact ⟨c', HCB.out, rfl, hkD, _, hat.turns hTC (fun b hb e => by
    obtain ⟨_, h1 | h1⟩ := hb
    · omega
    · omega), fun b hb => ⟨Nat.lt_of_lt_of_le hb.1 hTC.size, hb.2.imp id fun h1 => by have := hk0.size; omega⟩⟩
end Go.Proofs.YtcgihkaglonnaaaGreatDoor
set_option linter.all false
namespace Go.Proofs.YtcgihkaglonnaaaGreatDoor
open Go.RowKit Go.Sort Go.Rg
set_option maxRecDepth 100000

/-- what is known while a region is carried out, in whatever order: an invariant of its values, of the operations that are over, and of the world -/
def StG (I : (Nat → Value) → (Nat → Bool) → World → Prop) (l : List Oper) (a0 : Act) (listed : Array Bool) (a : Act) (w : World) : Prop :=
  ∃ vs, AtSt l.toArray vs a0 listed a ∧ I vs (on listed) w
theorem on_rep (n j : Nat) : on (Array.replicate n false) j = false := by
  unfold on
  simp only [Array.getD_eq_getD_getElem?, Array.getElem?_replicate]
  split <;> simp
theorem StG.start {I : (Nat → Value) → (Nat → Bool) → World → Prop} {l : List Oper} {a0 : Act} {w : World} (h : I (fun _ => undef) (fun _ => false) w) : StG I l a0 (Array.replicate l.length false) a0 w := by
  refine ⟨fun _ => undef, ⟨rfl, rfl, fun j o d hj => ?_, fun t _ => rfl⟩, ?_⟩
  · have := on_rep l.length j
    unfold on at this
    rw [this] at hj; cases hj
  · rw [show on (Array.replicate l.length false) = fun _ => false from funext (on_rep l.length)]; exact h
theorem StG.step {I : (Nat → Value) → (Nat → Bool) → World → Prop} {l : List Oper} {a0 a : Act} {vs : Nat → Value} {listed : Array Bool} {i : Nat} {o : Oper} (hd : distFrom l = true) (ha : AtSt l.toArray vs a0 listed a) (hl : listed.size = l.length) (ho : l[i]? = some o) (h1 : listed.getD i true = false) {v : Value} {w' : World}
    (hI : I (fun j => if j = i then v else vs j) (fun j => if j = i then true else on listed j) w') : StG I l a0 (listed.setIfInBounds i true) (a.put o.dst v) w' := by
  have hz : i < listed.size := by rw [hl]; exact (List.getElem?_eq_some_iff.1 ho).1
  have hn := on_no h1
  have hsw : ∀ j, listed.getD j false = true → vs j = (fun j => if j = i then v else vs j) j := fun j hj => by
    by_cases e : j = i
    · subst e; unfold on at hn; rw [hn] at hj; cases hj
    · simp [e]
  have hp := (ha.swap hsw).put (i := i) (by simpa using ho) h1 (dist_arr hd)
  simp only [if_true] at hp
  refine ⟨_, hp, ?_⟩
  rw [show on (listed.setIfInBounds i true) = fun j => if j = i then true else on listed j from funext fun j => by
    by_cases e : j = i
    · subst e; rw [on_self hz]; simp
    · rw [on_set e]; simp [e]]
  exact hI

theorem row_kept {A B : World} {base size n : Nat} {e : TypeId} {v : Value} {xs : List Value} (h : A.ownsRow base e size v n xs) (hk : Kept A B) : B.ownsRow base e size v n xs := by
  obtain ⟨h1, h2⟩ := h
  refine ⟨h1, h2.imp id ?_⟩
  rintro ⟨g, cap', cur, e1, e2, e3, e4⟩
  refine ⟨g, cap', cur, e1, e2, (hk.block g ?_).trans e3, e4⟩
  rcases Nat.lt_or_ge g A.heap.size with hlt | hge
  · exact hlt
  · rw [Array.getElem?_eq_none hge] at e3; cases e3

/-- a region 'y.f = append(append([]T{}, xs...), news)': the empty row (0), the first append (3), the row of the new one (5), the second append (6), the store (8) -/
structure Apps (V : World) (e : TypeId) (size n : Nat) (xs news : List Value) (X : Addr) (vs : Nat → Value) (on : Nat → Bool) (w : World) : Prop where
  o30 : on 3 = true → on 0 = true
  o63 : on 6 = true → on 3 = true
  o65 : on 6 = true → on 5 = true
  o86 : on 8 = true → on 6 = true
  kept : on 8 = false → Kept V w
  r0 : on 0 = true → on 3 = false → ∃ g, vs 0 = .slice (some ⟨g, 0, none⟩) 0 0 ∧ w.ownsRow V.heap.size e size (vs 0) 0 []
  r3 : on 3 = true → on 6 = false → w.ownsRow V.heap.size e size (vs 3) n xs
  r5 : on 5 = true → on 6 = false → ∃ g, vs 5 = .slice (some ⟨g, 0, none⟩) 1 1 ∧ g < w.heap.size ∧ V.heap.size ≤ g ∧ (∀ (k : Nat) (u : Value), news[k]? = some u → w.cell? ((⟨g, 0, none⟩ : Addr).add k) = some u) ∧ (on 0 = true → on 3 = false → (vs 0).ownBlock ≠ some g) ∧ (on 3 = true → (vs 3).ownBlock ≠ some g)
  r6 : on 6 = true → ∃ wc, Kept V wc ∧ (∃ g cap, vs 6 = .slice (some ⟨g, 0, none⟩) (n + 1) cap) ∧ wc.ownsRow V.heap.size e size (vs 6) (n + 1) (xs ++ news) ∧ w = if on 8 then wc.setCell X (vs 6) else wc
section
variable {V w w' : World} {e : TypeId} {size n : Nat} {xs news : List Value} {X : Addr} {vs : Nat → Value} {on : Nat → Bool} {v : Value}
theorem Apps.start : Apps V e size n xs news X (fun _ => undef) (fun _ => false) V.drew :=
  ⟨nofun, nofun, nofun, nofun, fun _ => kept_drew (kept_refl V), nofun, nofun, nofun, nofun⟩
theorem Apps.pure (h : Apps V e size n xs news X vs on w) (i : Nat) (h0 : 0 ≠ i) (h3 : 3 ≠ i) (h5 : 5 ≠ i) (h6 : 6 ≠ i) (h8 : 8 ≠ i) : Apps V e size n xs news X (fun j => if j = i then v else vs j) (fun j => if j = i then true else on j) w := by
  obtain ⟨a1, a2, a3, a4, a5, a6, a7, a8, a9⟩ := h
  constructor <;> simp only [if_neg h0, if_neg h3, if_neg h5, if_neg h6, if_neg h8] <;> assumption
theorem add_cell {A : World} {g k : Nat} {u : Value} : A.cell? ((⟨g, 0, none⟩ : Addr).add k) = some u ↔ A.cell? ⟨g, k, none⟩ = some u := by
  rw [show ((⟨g, 0, none⟩ : Addr).add k) = ⟨g, k, none⟩ by unfold Addr.add; split <;> simp_all]
theorem Apps.no3 (h : Apps V e size n xs news X vs on w) (h0 : on 0 = false) : on 3 = false := by
  cases b : on 3 with
  | false => rfl
  | true => rw [h.o30 b] at h0; cases h0
theorem Apps.no6 (h : Apps V e size n xs news X vs on w) (h3 : on 3 = false) : on 6 = false := by
  cases b : on 6 with
  | false => rfl
  | true => rw [h.o63 b] at h3; cases h3
theorem Apps.no6' (h : Apps V e size n xs news X vs on w) (h5 : on 5 = false) : on 6 = false := by
  cases b : on 6 with
  | false => rfl
  | true => rw [h.o65 b] at h5; cases h5
theorem Apps.no8 (h : Apps V e size n xs news X vs on w) (h6 : on 6 = false) : on 8 = false := by
  cases b : on 8 with
  | false => rfl
  | true => rw [h.o86 b] at h6; cases h6
theorem tf {p : Prop} {b : Bool} (h1 : b = true) (h2 : b = false) : p := by rw [h1] at h2; cases h2
theorem Apps.made0 (h : Apps V e size n xs news X vs on w) (h0 : on 0 = false) (hk : Kept w w') (hv : v = .slice (some ⟨w.heap.size, 0, none⟩) 0 0) (hrow : w'.ownsRow V.heap.size e size v 0 []) :
    Apps V e size n xs news X (fun j => if j = 0 then v else vs j) (fun j => if j = 0 then true else on j) w' := by
  have h3 := h.no3 h0
  have h6 := h.no6 h3
  have h8 := h.no8 h6
  have hkk := kept_trans (h.kept h8) hk
  refine ⟨fun _ => rfl, fun b => tf b h6, fun b => tf b h6, fun b => tf b h8, fun _ => hkk, fun _ _ => ⟨_, hv, hrow⟩, fun b => tf b h3, fun b5 _ => ?_, fun b => tf b h6⟩
  obtain ⟨g, e1, e2, e3, e4, e5, e6⟩ := h.r5 b5 h6
  refine ⟨g, e1, Nat.lt_of_lt_of_le e2 hk.size, e3, fun k u hu => add_cell.2 (kcell hk (add_cell.1 (e4 k u hu))), fun _ _ => ?_, fun b => tf b h3⟩
  show v.ownBlock ≠ some g
  rw [hv]
  simp only [Value.ownBlock, ne_eq, Option.some.injEq]
  omega
theorem Apps.made5 (h : Apps V e size n xs news X vs on w) (h5 : on 5 = false) (hk : Kept w w') (hv : v = .slice (some ⟨w.heap.size, 0, none⟩) 1 1) (hz : w.heap.size < w'.heap.size) (hn : ∀ (k : Nat) (u : Value), news[k]? = some u → w'.cell? ((⟨w.heap.size, 0, none⟩ : Addr).add k) = some u) :
    Apps V e size n xs news X (fun j => if j = 5 then v else vs j) (fun j => if j = 5 then true else on j) w' := by
  have h6 := h.no6' h5
  have h8 := h.no8 h6
  have hkk := kept_trans (h.kept h8) hk
  have hVw := (h.kept h8).size
  refine ⟨h.o30, fun b => tf b h6, fun b => tf b h6, fun b => tf b h8, fun _ => hkk, fun b0 b3 => ?_, fun b3 _ => row_kept (h.r3 b3 h6) hk, fun _ _ => ⟨_, hv, hz, hVw, hn, fun b0 b3 ee => ?_, fun b3 ee => ?_⟩, fun b => tf b h6⟩
  · obtain ⟨g, e1, e2⟩ := h.r0 b0 b3
    exact ⟨g, e1, row_kept e2 hk⟩
  · obtain ⟨g, e1, e2⟩ := h.r0 b0 b3
    have := (e2.lt _ ee).2
    omega
  · have := ((h.r3 b3 h6).lt _ ee).2
    omega
theorem Apps.app3 (h : Apps V e size n xs news X vs on w) (h3 : on 3 = false) (h0 : on 0 = true) (hg : w.grownBy w' (vs 0).ownBlock) (hrow : w'.ownsRow V.heap.size e size v n xs) (hat : v.ownBlock = (vs 0).ownBlock ∨ v.ownBlock = some w.heap.size) :
    Apps V e size n xs news X (fun j => if j = 3 then v else vs j) (fun j => if j = 3 then true else on j) w' := by
  have h6 := h.no6 h3
  have h8 := h.no8 h6
  obtain ⟨g0, e0, hr0⟩ := h.r0 h0 h3
  have hkk : Kept V w' := Below.grown (h.kept h8) hg (h.kept h8).size fun k ek => (hr0.lt k ek).1
  refine ⟨fun _ => h0, fun _ => rfl, h.o65, fun b => tf b h8, fun _ => hkk, fun _ b => (nomatch b), fun _ _ => hrow, fun b5 _ => ?_, fun b => tf b h6⟩
  obtain ⟨g, e1, e2, e3, e4, e5, e6⟩ := h.r5 b5 h6
  have hne := e5 h0 h3
  refine ⟨g, e1, Nat.lt_of_lt_of_le e2 hg.size, e3, fun k u hu => add_cell.2 (grown_cell hg hne (add_cell.1 (e4 k u hu))), (fun _ b => (nomatch b)), fun _ ee => ?_⟩
  rcases hat with ha | ha
  · exact hne (ha.symm.trans ee)
  · have ee' : v.ownBlock = some g := ee
    rw [ha] at ee'
    simp only [Option.some.injEq] at ee'
    omega
theorem Apps.app6 (h : Apps V e size n xs news X vs on w) (h6 : on 6 = false) (h3 : on 3 = true) (h5 : on 5 = true) (hg : w.grownBy w' (vs 3).ownBlock) (hv : ∃ g cap, v = .slice (some ⟨g, 0, none⟩) (n + 1) cap) (hrow : w'.ownsRow V.heap.size e size v (n + 1) (xs ++ news)) :
    Apps V e size n xs news X (fun j => if j = 6 then v else vs j) (fun j => if j = 6 then true else on j) w' := by
  have h8 := h.no8 h6
  have hr3 := h.r3 h3 h6
  have hkk : Kept V w' := Below.grown (h.kept h8) hg (h.kept h8).size fun k ek => (hr3.lt k ek).1
  refine ⟨h.o30, fun _ => h3, fun _ => h5, fun _ => rfl, fun _ => hkk, fun _ b3 => tf h3 b3, fun _ b => (nomatch b), fun _ b => (nomatch b), fun _ => ⟨w', hkk, hv, hrow, ?_⟩⟩
  show w' = if on 8 = true then _ else w'
  rw [h8]; rfl
theorem Apps.stored (h : Apps V e size n xs news X vs on w) (h8 : on 8 = false) (h6 : on 6 = true) :
    Apps V e size n xs news X (fun j => if j = 8 then v else vs j) (fun j => if j = 8 then true else on j) (w.setCell X (vs 6)) := by
  refine ⟨h.o30, h.o63, h.o65, fun _ => h6, fun b => (nomatch b), fun _ b3 => tf (h.o63 h6) b3, fun _ b6 => tf h6 b6, fun _ b6 => tf h6 b6, fun _ => ?_⟩
  obtain ⟨wc, c1, c2, c3, c4⟩ := h.r6 h6
  rw [h8] at c4
  refine ⟨wc, c1, c2, c3, ?_⟩
  rw [c4]; rfl
end
end Go.Proofs.YtcgihkaglonnaaaGreatDoor
set_option linter.all false
namespace Go.Proofs.YtcgihkaglonnaaaGreatDoor
open Go.RowKit Go.Sort Go.Rg
set_option maxRecDepth 100000

theorem grownBy_of_kept {A B C : World} {r : Option Nat} (h : Kept A B) (g : B.grownBy C r) : A.grownBy C r :=
  ⟨g.os.trans h.os, g.tape.trans h.tape, g.output.trans h.output, Nat.le_trans h.size g.size, fun i hi hne => (g.block i (Nat.lt_of_lt_of_le hi h.size) hne).trans (h.block i hi)⟩
theorem grownBy_drew {A : World} {r : Option Nat} : A.grownBy A.drew r := ⟨rfl, rfl, rfl, Nat.le_refl _, fun _ _ _ => rfl⟩
/-- a region 'l = append(l, f(..))', l in a box: three loads (0 to 2), the call (3), the row of its answer (4), the append (5), the store (6) -/
structure Push (V : World) (base : Nat) (e : TypeId) (n : Nat) (row : Value) (xs : List Value) (F : Value → World → Prop) (bl : Nat) (vs : Nat → Value) (on : Nat → Bool) (w : World) : Prop where
  o43 : on 4 = true → on 3 = true
  o54 : on 5 = true → on 4 = true
  o65 : on 6 = true → on 5 = true
  kept : on 5 = false → Kept V w
  r3 : on 3 = true → on 5 = false → F (vs 3) w
  r4 : on 4 = true → on 5 = false → ∃ g, vs 4 = .slice (some ⟨g, 0, none⟩) 1 1 ∧ g < w.heap.size ∧ V.heap.size ≤ g ∧ w.cell? ⟨g, 0, none⟩ = some (vs 3)
  r5 : on 5 = true → ∃ wc, V.grownBy wc row.ownBlock ∧ F (vs 3) wc ∧ wc.ownsRow base e 1 (vs 5) (n + 1) (xs ++ [vs 3]) ∧ (∃ g cap, vs 5 = .slice (some ⟨g, 0, none⟩) (n + 1) cap ∧ (row.ownBlock = some g ∨ V.heap.size ≤ g) ∧ (vs 3).ownBlock ≠ some g ∧ g < wc.heap.size) ∧ w = if on 6 then wc.setCell ⟨bl, 0, none⟩ (vs 5) else wc
section
variable {V w w' : World} {base : Nat} {e : TypeId} {n : Nat} {row : Value} {xs : List Value} {F : Value → World → Prop} {bl : Nat} {vs : Nat → Value} {on : Nat → Bool} {v : Value}
theorem Push.start : Push V base e n row xs F bl (fun _ => undef) (fun _ => false) V.drew :=
  ⟨nofun, nofun, nofun, fun _ => kept_drew (kept_refl V), nofun, nofun, nofun⟩
theorem Push.no4 (h : Push V base e n row xs F bl vs on w) (h3 : on 3 = false) : on 4 = false := by
  cases b : on 4 with
  | false => rfl
  | true => rw [h.o43 b] at h3; cases h3
theorem Push.no5 (h : Push V base e n row xs F bl vs on w) (h4 : on 4 = false) : on 5 = false := by
  cases b : on 5 with
  | false => rfl
  | true => rw [h.o54 b] at h4; cases h4
theorem Push.no6 (h : Push V base e n row xs F bl vs on w) (h5 : on 5 = false) : on 6 = false := by
  cases b : on 6 with
  | false => rfl
  | true => rw [h.o65 b] at h5; cases h5
theorem Push.pure (h : Push V base e n row xs F bl vs on w) (i : Nat) (h3 : 3 ≠ i) (h4 : 4 ≠ i) (h5 : 5 ≠ i) (h6 : 6 ≠ i) : Push V base e n row xs F bl (fun j => if j = i then v else vs j) (fun j => if j = i then true else on j) w := by
  obtain ⟨a1, a2, a3, a4, a5, a6, a7⟩ := h
  constructor <;> simp only [if_neg h3, if_neg h4, if_neg h5, if_neg h6] <;> assumption
theorem Push.called (h : Push V base e n row xs F bl vs on w) (h3 : on 3 = false) (hk : Kept w w') (hF : F v w') :
    Push V base e n row xs F bl (fun j => if j = 3 then v else vs j) (fun j => if j = 3 then true else on j) w' := by
  have h4 := h.no4 h3
  have h5 := h.no5 h4
  have h6 := h.no6 h5
  exact ⟨fun _ => rfl, fun b => tf b h5, fun b => tf b h6, fun _ => kept_trans (h.kept h5) hk, fun _ _ => hF, fun b => tf b h4, fun b => tf b h5⟩
theorem Push.built (h : Push V base e n row xs F bl vs on w) (h4 : on 4 = false) (h3 : on 3 = true) (hFk : ∀ v A B, F v A → Kept A B → F v B) (hk : Kept w w') (hv : v = .slice (some ⟨w.heap.size, 0, none⟩) 1 1) (hz : w.heap.size < w'.heap.size) (hc : w'.cell? ⟨w.heap.size, 0, none⟩ = some (vs 3)) :
    Push V base e n row xs F bl (fun j => if j = 4 then v else vs j) (fun j => if j = 4 then true else on j) w' := by
  have h5 := h.no5 h4
  have h6 := h.no6 h5
  exact ⟨fun _ => h3, fun _ => rfl, fun b => tf b h6, fun _ => kept_trans (h.kept h5) hk, fun _ _ => hFk _ _ _ (h.r3 h3 h5) hk, fun _ _ => ⟨_, hv, hz, (h.kept h5).size, hc⟩, fun b => tf b h5⟩
theorem Push.app (h : Push V base e n row xs F bl vs on w) (h5 : on 5 = false) (h4 : on 4 = true) (hFg : ∀ v A B, V.heap.size ≤ A.heap.size → F v A → A.grownBy B row.ownBlock → F v B) (hFb : ∀ v A b, F v A → v.ownBlock = some b → V.heap.size ≤ b ∧ b < A.heap.size) (hR : ∀ b, row.ownBlock = some b → b < V.heap.size) (hg : w.grownBy w' row.ownBlock) {g cap : Nat} (hv : v = .slice (some ⟨g, 0, none⟩) (n + 1) cap) (hat : row.ownBlock = some g ∨ g = w.heap.size) (hlt : g < w'.heap.size) (hrow : w'.ownsRow base e 1 v (n + 1) (xs ++ [vs 3])) :
    Push V base e n row xs F bl (fun j => if j = 5 then v else vs j) (fun j => if j = 5 then true else on j) w' := by
  have h6 := h.no6 h5
  have hk := h.kept h5
  refine ⟨h.o43, fun _ => h4, fun _ => rfl, fun b => (nomatch b), fun _ b => (nomatch b), fun _ b => (nomatch b), fun _ => ⟨w', grownBy_of_kept hk hg, hFg _ _ _ hk.size (h.r3 (h.o43 h4) h5) hg, hrow, ⟨g, cap, hv, hat.imp id (fun (e : g = w.heap.size) => by rw [e]; exact hk.size), fun e => ?_, hlt⟩, ?_⟩⟩
  · have h3 := hFb _ _ _ (h.r3 (h.o43 h4) h5) e
    rcases hat with e2 | e2
    · have := hR _ e2; omega
    · omega
  show w' = if on 6 = true then _ else w'
  rw [h6]; rfl
theorem Push.stored (h : Push V base e n row xs F bl vs on w) (h6 : on 6 = false) (h5 : on 5 = true) :
    Push V base e n row xs F bl (fun j => if j = 6 then v else vs j) (fun j => if j = 6 then true else on j) (w.setCell ⟨bl, 0, none⟩ (vs 5)) := by
  refine ⟨h.o43, h.o54, fun _ => h5, fun b => tf h5 b, fun _ b => tf h5 b, fun _ b => tf h5 b, fun _ => ?_⟩
  obtain ⟨wc, c1, c2, c3, c4, c5⟩ := h.r5 h5
  rw [h6] at c5
  exact ⟨wc, c1, c2, c3, c4, by rw [c5]; rfl⟩
end
end Go.Proofs.YtcgihkaglonnaaaGreatDoor
set_option linter.all false
namespace Go.Proofs.YtcgihkaglonnaaaGreatDoor
open Go.RowKit Go.Sort Go.Rg
set_option maxRecDepth 100000
attribute [local go_sem] Oper.semAt_some

theorem turns_grown {A B : World} {r : Option Nat} (h : A.grownBy B r) : Turns (fun b => r = some b) A B :=
  ⟨h.os, h.tape, h.output, h.size, fun b hb hn => h.block b hb (fun e => hn e.symm)⟩
theorem ListAt.turns {A B : World} {U : Nat → Prop} {v : Value} {l : List Nat} (h : ListAt A v l) (k : Turns U A B) (hu : ∀ b, v.ownBlock = some b → ¬ U b) : ListAt B v l :=
  h.imp id fun ⟨b, cap, e, hb, hc⟩ => ⟨b, cap, e, Nat.lt_of_lt_of_le hb k.size, fun i x hx => tcell k (hu b (by rw [e]; rfl)) (hc i x hx)⟩
theorem ListAt.quiet {A B : World} {lo : Nat} {T : Nat → Prop} {v : Value} {l : List Nat} (h : ListAt A v l) (k : Quiet lo T A B) (hu : ∀ b, v.ownBlock = some b → T b) : ListAt B v l :=
  h.imp id fun ⟨b, cap, e, hb, hc⟩ => ⟨b, cap, e, Nat.lt_of_lt_of_le hb k.size, fun i x hx => (k.cell (Go.Ai.lt_of_cell (hc i x hx)) (.inr (hu b (by rw [e]; rfl)))).trans (hc i x hx)⟩
theorem row_quiet {A B : World} {lo : Nat} {T : Nat → Prop} {base size n : Nat} {e : TypeId} {v : Value} {xs : List Value} (h : A.ownsRow base e size v n xs) (k : Quiet lo T A B) (hu : ∀ b, v.ownBlock = some b → T b) : B.ownsRow base e size v n xs := by
  obtain ⟨h1, h2⟩ := h
  refine ⟨h1, h2.imp id ?_⟩
  rintro ⟨g, cap', cur, e1, e2, e3, e4⟩
  exact ⟨g, cap', cur, e1, e2, (k.block g (Array.getElem?_eq_some_iff.1 e3).1 (.inr (hu g (by rw [e1]; rfl)))).trans e3, e4⟩
theorem row_turns {A B : World} {U : Nat → Prop} {base size n : Nat} {e : TypeId} {v : Value} {xs : List Value} (h : A.ownsRow base e size v n xs) (k : Turns U A B) (hu : ∀ b, v.ownBlock = some b → ¬ U b) : B.ownsRow base e size v n xs := by
  obtain ⟨h1, h2⟩ := h
  refine ⟨h1, h2.imp id ?_⟩
  rintro ⟨g, cap', cur, e1, e2, e3, e4⟩
  exact ⟨g, cap', cur, e1, e2, (k.block g (Array.getElem?_eq_some_iff.1 e3).1 (hu g (by rw [e1]; rfl))).trans e3, e4⟩

/-- the lists so far -/
structure Gath (bl base : Nat) (ls : List (List Nat)) (k : Nat) (T : Nat → Prop) (A : World) : Prop where
  tb : T bl
  lt : bl < base
  at' : ∃ row xs, A.cell? ⟨bl, 0, none⟩ = some row ∧ A.frozen? ⟨bl, 0, none⟩ = false ∧ A.ownsRow base 41 1 row k xs ∧ (∀ b, row.ownBlock = some b → T b) ∧
    ∀ i l, i < k → ls[i]? = some l → ∃ v, xs[i]? = some v ∧ ListAt A v l ∧ ∀ b, v.ownBlock = some b → T b ∧ b ≠ bl ∧ row.ownBlock ≠ some b
theorem Gath.quiet {bl base : Nat} {ls : List (List Nat)} {k lo : Nat} {T : Nat → Prop} {A B : World} (h : Gath bl base ls k T A) (q : Quiet lo T A B) : Gath bl base ls k T B := by
  obtain ⟨h1, h2, row, xs, a1, a2, a3, a4, a5⟩ := h
  have z := Go.Ai.lt_of_cell a1
  refine ⟨h1, h2, row, xs, (q.cell z (.inr h1)).trans a1, (q.frozen z (.inr h1)).trans a2, row_quiet a3 q a4, a4, fun i l hi hl => ?_⟩
  obtain ⟨v, b1, b2, b3⟩ := a5 i l hi hl
  exact ⟨v, b1, b2.quiet q fun b hb => (b3 b hb).1, b3⟩
end Go.Proofs.YtcgihkaglonnaaaGreatDoor
set_option linter.all false
namespace Go.Proofs.YtcgihkaglonnaaaGreatDoor
open Go.RowKit Go.Sort Go.Rg
set_option maxRecDepth 100000
attribute [local go_sem] Oper.semAt_some

def belLs (B : Book) (boy : Nat) (x : Boy) : List (List Nat) := ((Book.mk B.boys B.weeks []).truths boy x).map fun n => belL B boy x n B.trials.length

theorem row_apart {w B : World} {base size n : Nat} {e : TypeId} {v : Value} {xs : List Value} {r : Option Nat} (h : w.ownsRow base e size v n xs) (hg : w.grownBy B r) (hr : ∀ b, r = some b → b < base) : B.ownsRow base e size v n xs := h.kept hg (by
  cases hb : v.ownBlock with
  | none => exact .inl rfl
  | some b => exact .inr fun e => by have h1 := (h.lt b hb).1; have h2 := hr b e.symm; omega)
theorem ListAt.mark {B C : World} {v : Value} {l : List Nat} {Db : Nat} {x : Option (List Deferred)} (h : ListAt B v l) (hK : B.heap[Db]? = some (.deferred x)) (k : Turns (fun b => b = Db) B C) : ListAt C v l :=
  h.imp id fun ⟨b, cap, e, hb, hc⟩ => ⟨b, cap, e, Nat.lt_of_lt_of_le hb k.size, fun i y hx => by
    have h1 := hc i y hx
    refine tcell k (fun e => ?_) h1
    subst e
    simp [World.cell?, hK] at h1⟩
theorem gen_count {lo hi : Nat → Int} {boy : Int} {lt : List Trial} {kp : List Int → Bool} (hb : ∀ i, i < 5 → hi i ≤ lo i + 3) : ∀ (d : Nat) (pre : List Int), pre.length + d = 5 → (gen lo hi boy lt kp d pre).length ≤ 4 ^ d
  | 0, pre, _ => by unfold gen; split <;> simp
  | d + 1, pre, h => by
    unfold gen
    rw [List.length_flatten, List.map_map]
    have h1 : ∀ l : List Nat, (l.map (List.length ∘ fun m : Nat => if fbAt boy lt pre.length (lo pre.length + (m : Int)) then [] else gen lo hi boy lt kp d (pre ++ [lo pre.length + (m : Int)]))).sum ≤ l.length * 4 ^ d := by
      intro l
      induction l with
      | nil => simp
      | cons a l ih =>
        have h2 : (if fbAt boy lt pre.length (lo pre.length + (a : Int)) then [] else gen lo hi boy lt kp d (pre ++ [lo pre.length + (a : Int)])).length ≤ 4 ^ d := by
          split
          · simp
          · exact gen_count hb d _ (by simp; omega)
        rw [List.map_cons, List.sum_cons, List.length_cons, Nat.succ_mul]
        have h3 : (List.length ∘ fun m : Nat => if fbAt boy lt pre.length (lo pre.length + (m : Int)) then [] else gen lo hi boy lt kp d (pre ++ [lo pre.length + (m : Int)])) a ≤ 4 ^ d := h2
        omega
    refine Nat.le_trans (h1 _) ?_
    rw [List.length_range, Nat.pow_succ, Nat.mul_comm (4 ^ d)]
    have := hb pre.length (by omega)
    exact Nat.mul_le_mul_right _ (by omega)
theorem truths_count {B : Book} {boy : Nat} {x : Boy} (hx : x.okB = true) : (B.truths boy x).length ≤ 1024 :=
  gen_count (fun i hi => ((spanAt_ok x hx).1 i hi).2.2.2.1) 5 [] rfl
theorem gen_ne {lo hi : Nat → Int} {boy : Int} {kp : List Int → Bool} (hk : ∀ p, kp p = true) (hb : ∀ i, i < 5 → lo i ≤ hi i) : ∀ (d : Nat) (pre : List Int), pre.length + d = 5 → gen lo hi boy [] kp d pre ≠ []
  | 0, pre, _ => by unfold gen; rw [hk]; simp
  | d + 1, pre, h => by
    unfold gen
    have h1 := hb pre.length (by omega)
    intro e
    rw [List.flatten_eq_nil_iff] at e
    have h2 := e (if fbAt boy [] pre.length (lo pre.length + ((0 : Nat) : Int)) then [] else gen lo hi boy [] kp d (pre ++ [lo pre.length + ((0 : Nat) : Int)])) (List.mem_map.2 ⟨0, List.mem_range.2 (by omega), rfl⟩)
    rw [if_neg (by simp [fbAt])] at h2
    exact gen_ne hk hb d _ (by simp; omega) h2
theorem untried_ne {bs : List Boy} {wk : Int} {boy : Nat} {x : Boy} (hx : x.okB = true) : (Book.mk bs wk []).truths boy x ≠ [] :=
  gen_ne (fun p => by simp [kpOf, Book.told]) (fun i hi => ((spanAt_ok x hx).1 i hi).2.2.1) 5 [] rfl
theorem infoII : (Tryz.prog.info? 41).map (fun i => (i.zero, i.size, i.bytes)) = some (some (.slice none 0 0), 1, 24) := by kernel_rfl
theorem cell_one {w : World} {g : Nat} {v : Value} (h : w.cell? ⟨g, 0, none⟩ = some v) : ∀ (k : Nat) (u : Value), [v][k]? = some u → w.cell? ((⟨g, 0, none⟩ : Addr).add k) = some u := by
  intro k u hu
  have hk : k < 1 := (List.getElem?_eq_some_iff.1 hu).1
  match k, hk, hu with
  | 0, _, hu => cases hu; simpa [Addr.add] using h
theorem store_row {F : Fence} {o : Oper} {a : Act} {K : Act → World → Prop} {Q : Exit → Act → World → Prop} {p x : Nat} (w : World) (ho : o.op = .store 132 (.tmp p) (.tmp x)) (bl : Nat) (u : Value) (q : Option Addr) {n c : Nat} (hp : a.eval (.tmp p) = .pointer (some ⟨bl, 0, none⟩)) (hx : a.eval (.tmp x) = .slice q n c) (hc : w.cell? ⟨bl, 0, none⟩ = some u) (hf : w.frozen? ⟨bl, 0, none⟩ = false)
    (h : K (a.put o.dst undef) (w.setCell ⟨bl, 0, none⟩ (.slice q n c))) : o.wpIn F 0 Tryz.prog a w K Q := by
  obtain ⟨dst, op, type, pos, after, guard⟩ := o
  simp only at ho
  subst ho
  simp [Act.eval] at hp hx
  unfold Oper.wpIn
  refine ⟨by simp [Oper.about, resolve, Target.leads, Sem.run_pure], ?_⟩
  rw [Oper.semAt_plain F _ _ (by intro c hc; cases hc)]
  go_simp
  exact h
theorem row_slice {w : World} {base size n : Nat} {e : TypeId} {v : Value} {xs : List Value} (h : w.ownsRow base e size v n xs) : ∃ p n' c', v = .slice p n' c' := by
  rcases h.2 with ⟨rfl, _⟩ | ⟨g, cap, cur, rfl, _⟩
  · exact ⟨_, _, _, rfl⟩
  · exact ⟨_, _, _, rfl⟩
theorem row_oneCell {w : World} {base size n : Nat} {e : TypeId} {v : Value} {xs : List Value} (h : w.ownsRow base e size v n xs) : v.oneCell' = true := by
  rcases h.2 with ⟨rfl, _⟩ | ⟨g, cap, cur, rfl, _⟩ <;> rfl

set_option maxHeartbeats 4000000 in
theorem wrongOf_any (S : Nat → Prop) (c : Choir) (boy : Nat) (x : Boy) (hx : c.B.boys[boy]? = some x) (W : World) (h : ChoirAt S W c) (hS : ∀ b, S b → b < W.heap.size) (hL : Laid W) :
    Calls Tryz.prog 101 #[c.val, .int .i64 (boy : Int)] W fun e C => ∃ v, e = .returned v ∧ Kept W C ∧ ListAt C v (minL (belLs c.B boy x)) := by
  refine callsIn_wide.1 (callsIn_of_wp_marks (n := 0) Tryz.func101 rfl trivial ?_ rfl)
  simp only [Tryz.ntmps101, List.size_toArray, List.length_cons, List.length_nil, Nat.reduceAdd, Nat.reduceSub, Array.replicate_succ, Array.replicate_zero, List.push_toArray, List.append_toArray, List.nil_append, List.cons_append]
  have hxo : x.okB = true := by
    have := h.ok
    simp only [Book.okB, Bool.and_eq_true, List.all_eq_true] at this
    exact this.1.2 x (List.mem_of_getElem? hx)
  unfold Choir.val
  gi_wp2_with fail
  have hk0 : Kept W ((W.alloc (Obj.cells #[.slice (some ⟨c.bb, c.ob, none⟩) c.B.boys.length c.capb, .int .i64 c.B.weeks, .slice c.q c.B.trials.length c.capt, .map (some c.bm)] 70)).alloc (Obj.cells #[.slice none 0 0] 132)) := kept_alloc (kept_alloc (kept_refl _) _) _
  have hz0 : ((W.alloc (Obj.cells #[.slice (some ⟨c.bb, c.ob, none⟩) c.B.boys.length c.capb, .int .i64 c.B.weeks, .slice c.q c.B.trials.length c.capt, .map (some c.bm)] 70)).alloc (Obj.cells #[.slice none 0 0] 132)).heap.size = W.heap.size + 1 + 1 := by simp
  have c0 : ((W.alloc (Obj.cells #[.slice (some ⟨c.bb, c.ob, none⟩) c.B.boys.length c.capb, .int .i64 c.B.weeks, .slice c.q c.B.trials.length c.capt, .map (some c.bm)] 70)).alloc (Obj.cells #[.slice none 0 0] 132)).cell? ⟨W.heap.size, 0, none⟩ = some (.slice (some ⟨c.bb, c.ob, none⟩) c.B.boys.length c.capb) := by go_simp
  have c1 : ((W.alloc (Obj.cells #[.slice (some ⟨c.bb, c.ob, none⟩) c.B.boys.length c.capb, .int .i64 c.B.weeks, .slice c.q c.B.trials.length c.capt, .map (some c.bm)] 70)).alloc (Obj.cells #[.slice none 0 0] 132)).cell? ⟨W.heap.size, 1, none⟩ = some (.int .i64 c.B.weeks) := by go_simp
  have c2 : ((W.alloc (Obj.cells #[.slice (some ⟨c.bb, c.ob, none⟩) c.B.boys.length c.capb, .int .i64 c.B.weeks, .slice c.q c.B.trials.length c.capt, .map (some c.bm)] 70)).alloc (Obj.cells #[.slice none 0 0] 132)).cell? ⟨W.heap.size, 2, none⟩ = some (.slice c.q c.B.trials.length c.capt) := by go_simp
  have c3 : ((W.alloc (Obj.cells #[.slice (some ⟨c.bb, c.ob, none⟩) c.B.boys.length c.capb, .int .i64 c.B.weeks, .slice c.q c.B.trials.length c.capt, .map (some c.bm)] 70)).alloc (Obj.cells #[.slice none 0 0] 132)).cell? ⟨W.heap.size, 3, none⟩ = some (.map (some c.bm)) := by go_simp
  have r0 : ((W.alloc (Obj.cells #[.slice (some ⟨c.bb, c.ob, none⟩) c.B.boys.length c.capb, .int .i64 c.B.weeks, .slice c.q c.B.trials.length c.capt, .map (some c.bm)] 70)).alloc (Obj.cells #[.slice none 0 0] 132)).cell? ⟨W.heap.size + 1, 0, none⟩ = some (.slice none 0 0) := by go_simp
  have rf : ((W.alloc (Obj.cells #[.slice (some ⟨c.bb, c.ob, none⟩) c.B.boys.length c.capb, .int .i64 c.B.weeks, .slice c.q c.B.trials.length c.capt, .map (some c.bm)] 70)).alloc (Obj.cells #[.slice none 0 0] 132)).frozen? ⟨W.heap.size + 1, 0, none⟩ = false := by go_simp
  generalize ((W.alloc (Obj.cells #[.slice (some ⟨c.bb, c.ob, none⟩) c.B.boys.length c.capb, .int .i64 c.B.weeks, .slice c.q c.B.trials.length c.capt, .map (some c.bm)] 70)).alloc (Obj.cells #[.slice none 0 0] 132)) = W1 at *
  have hcall := untried_any c W1 S (h.turns (kturns hk0 (fun _ => False)) (fun _ _ h => h)) W.heap.size hk0.size hS (hL.kept hk0)
  unfold Choir.val at hcall
  refine ⟨trivial, rfl, (callsIn_wide.2 hcall).mono ?_⟩
  rintro e W2 ⟨c', hB', rfl, hk1, S', hat1, hS'⟩
  have HB' := Lib.hid hB'; clear hB'
  replace c0 := kcell hk1 c0
  replace c1 := kcell hk1 c1
  replace c2 := kcell hk1 c2
  replace c3 := kcell hk1 c3
  replace r0 := kcell hk1 r0
  have rf : W2.frozen? ⟨W.heap.size + 1, 0, none⟩ = false := ((kturns hk1 (fun _ => False)).frozen (by omega) (fun h => h)).trans rf
  clear hcall
  gi_wp2_with fail
  have hcall := truths_any c' boy W2
  unfold Choir.val at hcall
  refine ⟨trivial, rfl, (callsIn_wide.2 hcall).mono ?_⟩
  rintro e W3 ⟨rfl, hk2, hz2, d0, d1, d2, d3, d4⟩
  have HKW := Lib.hid (kept_trans (kept_trans hk0 hk1) hk2)
  have hat := truthsAt_of hat1 hk2 rfl d0 d1 d2 d3 d4
  have HAT := Lib.hid hat; clear hat
  replace c0 := kcell hk2 c0
  replace c1 := kcell hk2 c1
  replace c2 := kcell hk2 c2
  replace c3 := kcell hk2 c3
  replace r0 := kcell hk2 r0
  have rf : W3.frozen? ⟨W.heap.size + 1, 0, none⟩ = false := ((kturns hk2 (fun _ => False)).frozen (by have := hk1.size; omega) (fun h => h)).trans rf
  have hz3 : W.heap.size + 1 + 1 ≤ W2.heap.size := by have := hk1.size; omega
  have hx' : c'.B.boys[boy]? = some x := by rw [HB'.out]; exact hx
  have hTL : c'.B.truths boy x = (Book.mk c.B.boys c.B.weeks []).truths boy x := by rw [HB'.out]
  have HTL := Lib.hid hTL; clear hTL
  clear hcall d0 d1 d2 d3 d4
  have hat0 := (h.turns (kturns HKW.out (fun _ => False)) (fun _ _ h => h))
  have HC := Lib.hid hat0; clear hat0
  generalize hbl : W.heap.size + 1 = bl at *
  gi_wp2_with fail
  refine wpIn_range (gf := 104) (lb := #[.pointer (some ⟨W2.heap.size, 0, none⟩), .pointer (some ⟨W2.heap.size + 1, 0, none⟩)]) rfl (enters_of Tryz.func104 (by kernel_rfl) rfl)
    (truths1_gives S' c' boy x hx' W2.heap.size (W2.heap.size + 1)) rfl (fun b => b = bl) (by rintro b rfl; omega) ?hS (fun B hB => HAT.out.kept hB)
    (fun k T' A => Gath bl (bl + 1) (belLs c.B boy x) k T' A)
    (fun e k T' A => False)
    ?hI ?hIx ⟨rfl, by omega, _, [], r0, rf, World.ownsRow_nil _ _ _ _, (fun b hb => by cases hb), fun i l hi => by omega⟩ ?round ?done ?stop
  case hS =>
    rintro b (hb | rfl | rfl)
    · have := hS' b hb
      have := hk2.size
      exact ⟨by omega, by omega⟩
    · exact ⟨by omega, by omega⟩
    · exact ⟨by omega, by omega⟩
  case hI =>
    intro k T' A B hg hq
    exact hg.quiet hq
  case hIx =>
    intro e k T' A B hg hq
    exact hg
  case stop =>
    intro Db e k T' B hDb hnD hE hTB hk hg hK
    exact hg.elim
  case round =>
    rintro l k n T' A hn hE hz hTA hl hlA hnl ⟨hg1, hg2, row, xs, h1, h2, h3, h4, h5⟩
    have hmem := List.mem_of_getElem? hn
    obtain ⟨n0, n1, n2, n3, n4, rfl⟩ := truths_len hmem
    have hrng := truths_rng hmem
    have HN : Hid ((belLs c.B boy x)[k]? = some (belL c.B boy x [n0, n1, n2, n3, n4] c.B.trials.length)) := Lib.hid (by
      rw [HTL.out] at hn
      unfold belLs
      rw [List.getElem?_map, hn]; rfl)
    have hWA := hTA.size
    have hk1024 : k < 1024 := Nat.lt_of_lt_of_le (List.getElem?_eq_some_iff.1 hn).1 (truths_count hxo)
    have hlb := (belL_len c.B boy x [n0, n1, n2, n3, n4] c.B.trials.length)
    have hkA : Kept W A := Below.trans HKW.out (hTA.toBelow (n := W.heap.size) (by rintro b rfl; omega) (by have := HKW.out.size; omega))
    simp only [encT, List.map_cons, List.map_nil, List.append_toArray, List.cons_append, List.nil_append, Choir.k0, Choir.k2, Choir.m]
    gi_wp2_with fail
    refine ⟨_, Ext.refl _ _, (Turns.refl _ _).alloc _, ?_⟩
    intro A2 hA2 hs2 hr
    have hb1 := Go.Ai.lt_of_cell h1
    have hk1A : Kept A (A.alloc (Obj.cells #[.slice (some ⟨c'.bb, c'.ob, none⟩) c'.B.boys.length c'.capb, .int .i64 c'.B.weeks, .slice c'.q c'.B.trials.length c'.capt, .map (some c'.bm), .int .i64 (boy : Int), .int .i64 n0, .int .i64 n1, .int .i64 n2, .int .i64 n3, .int .i64 n4] 86)) := kept_alloc (kept_refl _) _
    have e0 := tcell hA2 (by omega) (show (A.alloc (Obj.cells #[.slice (some ⟨c'.bb, c'.ob, none⟩) c'.B.boys.length c'.capb, .int .i64 c'.B.weeks, .slice c'.q c'.B.trials.length c'.capt, .map (some c'.bm), .int .i64 (boy : Int), .int .i64 n0, .int .i64 n1, .int .i64 n2, .int .i64 n3, .int .i64 n4] 86)).cell? ⟨A.heap.size, 0, none⟩ = some (.slice (some ⟨c'.bb, c'.ob, none⟩) c'.B.boys.length c'.capb) by go_simp)
    have e1 := tcell hA2 (by omega) (show (A.alloc (Obj.cells #[.slice (some ⟨c'.bb, c'.ob, none⟩) c'.B.boys.length c'.capb, .int .i64 c'.B.weeks, .slice c'.q c'.B.trials.length c'.capt, .map (some c'.bm), .int .i64 (boy : Int), .int .i64 n0, .int .i64 n1, .int .i64 n2, .int .i64 n3, .int .i64 n4] 86)).cell? ⟨A.heap.size, 1, none⟩ = some (.int .i64 c'.B.weeks) by go_simp)
    have e2 := tcell hA2 (by omega) (show (A.alloc (Obj.cells #[.slice (some ⟨c'.bb, c'.ob, none⟩) c'.B.boys.length c'.capb, .int .i64 c'.B.weeks, .slice c'.q c'.B.trials.length c'.capt, .map (some c'.bm), .int .i64 (boy : Int), .int .i64 n0, .int .i64 n1, .int .i64 n2, .int .i64 n3, .int .i64 n4] 86)).cell? ⟨A.heap.size, 2, none⟩ = some (.slice c'.q c'.B.trials.length c'.capt) by go_simp)
    have e3 := tcell hA2 (by omega) (show (A.alloc (Obj.cells #[.slice (some ⟨c'.bb, c'.ob, none⟩) c'.B.boys.length c'.capb, .int .i64 c'.B.weeks, .slice c'.q c'.B.trials.length c'.capt, .map (some c'.bm), .int .i64 (boy : Int), .int .i64 n0, .int .i64 n1, .int .i64 n2, .int .i64 n3, .int .i64 n4] 86)).cell? ⟨A.heap.size, 3, none⟩ = some (.map (some c'.bm)) by go_simp)
    have e4 := tcell hA2 (by omega) (show (A.alloc (Obj.cells #[.slice (some ⟨c'.bb, c'.ob, none⟩) c'.B.boys.length c'.capb, .int .i64 c'.B.weeks, .slice c'.q c'.B.trials.length c'.capt, .map (some c'.bm), .int .i64 (boy : Int), .int .i64 n0, .int .i64 n1, .int .i64 n2, .int .i64 n3, .int .i64 n4] 86)).cell? ⟨A.heap.size, 4, none⟩ = some (.int .i64 (boy : Int)) by go_simp)
    have e5 := tcell hA2 (by omega) (show (A.alloc (Obj.cells #[.slice (some ⟨c'.bb, c'.ob, none⟩) c'.B.boys.length c'.capb, .int .i64 c'.B.weeks, .slice c'.q c'.B.trials.length c'.capt, .map (some c'.bm), .int .i64 (boy : Int), .int .i64 n0, .int .i64 n1, .int .i64 n2, .int .i64 n3, .int .i64 n4] 86)).cell? ⟨A.heap.size, 5, none⟩ = some (.int .i64 n0) by go_simp)
    have e6 := tcell hA2 (by omega) (show (A.alloc (Obj.cells #[.slice (some ⟨c'.bb, c'.ob, none⟩) c'.B.boys.length c'.capb, .int .i64 c'.B.weeks, .slice c'.q c'.B.trials.length c'.capt, .map (some c'.bm), .int .i64 (boy : Int), .int .i64 n0, .int .i64 n1, .int .i64 n2, .int .i64 n3, .int .i64 n4] 86)).cell? ⟨A.heap.size, 6, none⟩ = some (.int .i64 n1) by go_simp)
    have e7 := tcell hA2 (by omega) (show (A.alloc (Obj.cells #[.slice (some ⟨c'.bb, c'.ob, none⟩) c'.B.boys.length c'.capb, .int .i64 c'.B.weeks, .slice c'.q c'.B.trials.length c'.capt, .map (some c'.bm), .int .i64 (boy : Int), .int .i64 n0, .int .i64 n1, .int .i64 n2, .int .i64 n3, .int .i64 n4] 86)).cell? ⟨A.heap.size, 7, none⟩ = some (.int .i64 n2) by go_simp)
    have e8 := tcell hA2 (by omega) (show (A.alloc (Obj.cells #[.slice (some ⟨c'.bb, c'.ob, none⟩) c'.B.boys.length c'.capb, .int .i64 c'.B.weeks, .slice c'.q c'.B.trials.length c'.capt, .map (some c'.bm), .int .i64 (boy : Int), .int .i64 n0, .int .i64 n1, .int .i64 n2, .int .i64 n3, .int .i64 n4] 86)).cell? ⟨A.heap.size, 8, none⟩ = some (.int .i64 n3) by go_simp)
    have e9 := tcell hA2 (by omega) (show (A.alloc (Obj.cells #[.slice (some ⟨c'.bb, c'.ob, none⟩) c'.B.boys.length c'.capb, .int .i64 c'.B.weeks, .slice c'.q c'.B.trials.length c'.capt, .map (some c'.bm), .int .i64 (boy : Int), .int .i64 n0, .int .i64 n1, .int .i64 n2, .int .i64 n3, .int .i64 n4] 86)).cell? ⟨A.heap.size, 9, none⟩ = some (.int .i64 n4) by go_simp)
    have p0 := tcell hA2 (by omega) (kcell hk1A h1)
    have pf : A2.frozen? ⟨bl, 0, none⟩ = false := (hA2.frozen (by simp; omega) (by omega)).trans (((kturns hk1A (fun _ => False)).frozen hb1 (fun h => h)).trans h2)
    have f0 := tcell hA2 (by omega) (kcell hk1A (tcell hTA (by omega) c0))
    have f1 := tcell hA2 (by omega) (kcell hk1A (tcell hTA (by omega) c1))
    have f2 := tcell hA2 (by omega) (kcell hk1A (tcell hTA (by omega) c2))
    have f3 := tcell hA2 (by omega) (kcell hk1A (tcell hTA (by omega) c3))
    have hzA2 : A2.heap.size = A.heap.size + 1 := by rw [hs2]; simp
    have hb2 := Go.Ai.lt_of_cell p0
    have HZ := Lib.hid hzA2; clear hzA2 hs2
    have hrow := row_turns (row_kept h3 hk1A) hA2 (fun b hb e => hnl (e ▸ h4 b hb))
    have hR : ∀ b, row.ownBlock = some b → b < A2.heap.size := fun b hb => (hrow.lt b hb).2
    have HLS := Lib.hid (show ∀ i l', i < k → (belLs c.B boy x)[i]? = some l' → ∃ v, xs[i]? = some v ∧ ListAt A2 v l' ∧ ∀ b, v.ownBlock = some b → T' b ∧ b ≠ bl ∧ row.ownBlock ≠ some b from fun i l' hi hl' => by
      obtain ⟨v, q1, q2, q3⟩ := h5 i l' hi hl'
      exact ⟨v, q1, (q2.kept hk1A).turns hA2 (fun b hb e => hnl (e ▸ (q3 b hb).1)), q3⟩)
    have HCH := Lib.hid (show ChoirAt S A2 c from ((HC.out.turns hTA (fun b hb e => by have := hS b hb; omega)).turns (kturns hk1A (fun _ => False)) (fun _ _ h => h)).turns hA2 (fun b hb e => by have := hS b hb; omega))
    have HCC := Lib.hid (show ChoirAt S' A2 c' from (((hat1.turns (kturns hk2 (fun _ => False)) (fun _ _ h => h)).turns hTA (fun b hb e => by have := hS' b hb; omega)).turns (kturns hk1A (fun _ => False)) (fun _ _ h => h)).turns hA2 (fun b hb e => by have := hS' b hb; have := hk2.size; omega))
    have HT4 := Lib.hid h4
    have hcall0 := fun w (kw : Kept A2 w) => belied_any S c boy x hx w (HCH.out.turns (kturns kw (fun _ => False)) (fun _ _ h => h)) S' c' (HCC.out.turns (kturns kw (fun _ => False)) (fun _ _ h => h)) hx' n0 n1 n2 n3 n4 hrng
    unfold Choir.val at hcall0
    generalize belL c.B boy x [n0, n1, n2, n3, n4] c.B.trials.length = LB at *
    have HCALL := Lib.hid hcall0; clear hcall0
    clear h1 h2 h3 h4 h5 hmem hrng hn
    gi_wp2_with fail
    refine wpIn_region_invL (StG (fun vs on w => Push A2 (bl + 1) 41 k row xs (fun v w => w.ownsRow A2.heap.size 3 1 v LB.length (intsV LB)) bl vs on w ∧ (on 0 = true → vs 0 = row) ∧ (on 1 = true → vs 1 = .agg #[.slice (some ⟨c.bb, c.ob, none⟩) c.B.boys.length c.capb, .int .i64 c.B.weeks, .slice c.q c.B.trials.length c.capt, .map (some c.bm)]) ∧ (on 2 = true → vs 2 = .agg #[.slice (some ⟨c'.bb, c'.ob, none⟩) c'.B.boys.length c'.capb, .int .i64 c'.B.weeks, .slice c'.q c'.B.trials.length c'.capt, .map (some c'.bm), .int .i64 (boy : Int), .int .i64 n0, .int .i64 n1, .int .i64 n2, .int .i64 n3, .int .i64 n4]))) (by kernel_rfl) (by kernel_rfl) (StG.start ⟨Push.start, nofun, nofun, nofun⟩) ?hop ?hend
    case hop =>
      rintro i o listed a w zl ho z1 z2 zcl ⟨vs, ha, hA, hP⟩
      have hi7 : i < 7 := (List.getElem?_eq_some_iff.1 ho).1
      have n5 : i < 5 → on listed 5 = false := fun hi5 => by
        cases b5 : on listed 5 with
        | false => rfl
        | true =>
          exfalso
          have b4 := zcl 5 _ rfl b5 ⟨4, .data⟩ (by simp) rfl
          have b0 := zcl 5 _ rfl b5 ⟨0, .data⟩ (by simp) rfl
          have b3 := zcl 4 _ rfl b4 ⟨3, .data⟩ (by simp) rfl
          have b1 := zcl 3 _ rfl b3 ⟨1, .data⟩ (by simp) rfl
          have b2 := zcl 3 _ rfl b3 ⟨2, .data⟩ (by simp) rfl
          have hno := on_no z1
          match i, hi5, hno with
          | 0, _, hno => exact tf b0 hno
          | 1, _, hno => exact tf b1 hno
          | 2, _, hno => exact tf b2 hno
          | 3, _, hno => exact tf b3 hno
          | 4, _, hno => exact tf b4 hno
      match i, ho with
      | 0, ho =>
        have kw := hA.kept (n5 (by omega))
        have ST := Lib.hid (StG.step (I := (fun vs on w => Push A2 (bl + 1) 41 k row xs (fun v w => w.ownsRow A2.heap.size 3 1 v LB.length (intsV LB)) bl vs on w ∧ (on 0 = true → vs 0 = row) ∧ (on 1 = true → vs 1 = .agg #[.slice (some ⟨c.bb, c.ob, none⟩) c.B.boys.length c.capb, .int .i64 c.B.weeks, .slice c.q c.B.trials.length c.capt, .map (some c.bm)]) ∧ (on 2 = true → vs 2 = .agg #[.slice (some ⟨c'.bb, c'.ob, none⟩) c'.B.boys.length c'.capb, .int .i64 c'.B.weeks, .slice c'.q c'.B.trials.length c'.capt, .map (some c'.bm), .int .i64 (boy : Int), .int .i64 n0, .int .i64 n1, .int .i64 n2, .int .i64 n3, .int .i64 n4]))) (v := row) (w' := w) (by kernel_rfl) ha zl ho z1 ⟨hA.pure 0 (by omega) (by omega) (by omega) (by omega), fun _ => rfl, hP.2.1, hP.2.2⟩)
        cases ho
        rw [if_pos (by rfl)]
        have t5 := ha.old 5 (by kernel_rfl)
        simp at t5
        have q0 := kcell kw p0
        go_simp
        exact ST.out
      | 1, ho =>
        have kw := hA.kept (n5 (by omega))
        have ST := Lib.hid (StG.step (I := (fun vs on w => Push A2 (bl + 1) 41 k row xs (fun v w => w.ownsRow A2.heap.size 3 1 v LB.length (intsV LB)) bl vs on w ∧ (on 0 = true → vs 0 = row) ∧ (on 1 = true → vs 1 = .agg #[.slice (some ⟨c.bb, c.ob, none⟩) c.B.boys.length c.capb, .int .i64 c.B.weeks, .slice c.q c.B.trials.length c.capt, .map (some c.bm)]) ∧ (on 2 = true → vs 2 = .agg #[.slice (some ⟨c'.bb, c'.ob, none⟩) c'.B.boys.length c'.capb, .int .i64 c'.B.weeks, .slice c'.q c'.B.trials.length c'.capt, .map (some c'.bm), .int .i64 (boy : Int), .int .i64 n0, .int .i64 n1, .int .i64 n2, .int .i64 n3, .int .i64 n4]))) (v := .agg #[.slice (some ⟨c.bb, c.ob, none⟩) c.B.boys.length c.capb, .int .i64 c.B.weeks, .slice c.q c.B.trials.length c.capt, .map (some c.bm)]) (w' := w) (by kernel_rfl) ha zl ho z1 ⟨hA.pure 1 (by omega) (by omega) (by omega) (by omega), hP.1, fun _ => rfl, hP.2.2⟩)
        cases ho
        rw [if_pos (by rfl)]
        have t2 := ha.old 2 (by kernel_rfl)
        simp at t2
        have q0 := kcell kw f0
        have q1 := kcell kw f1
        have q2 := kcell kw f2
        have q3 := kcell kw f3
        go_simp
        exact ST.out
      | 2, ho =>
        have kw := hA.kept (n5 (by omega))
        have ST := Lib.hid (StG.step (I := (fun vs on w => Push A2 (bl + 1) 41 k row xs (fun v w => w.ownsRow A2.heap.size 3 1 v LB.length (intsV LB)) bl vs on w ∧ (on 0 = true → vs 0 = row) ∧ (on 1 = true → vs 1 = .agg #[.slice (some ⟨c.bb, c.ob, none⟩) c.B.boys.length c.capb, .int .i64 c.B.weeks, .slice c.q c.B.trials.length c.capt, .map (some c.bm)]) ∧ (on 2 = true → vs 2 = .agg #[.slice (some ⟨c'.bb, c'.ob, none⟩) c'.B.boys.length c'.capb, .int .i64 c'.B.weeks, .slice c'.q c'.B.trials.length c'.capt, .map (some c'.bm), .int .i64 (boy : Int), .int .i64 n0, .int .i64 n1, .int .i64 n2, .int .i64 n3, .int .i64 n4]))) (v := .agg #[.slice (some ⟨c'.bb, c'.ob, none⟩) c'.B.boys.length c'.capb, .int .i64 c'.B.weeks, .slice c'.q c'.B.trials.length c'.capt, .map (some c'.bm), .int .i64 (boy : Int), .int .i64 n0, .int .i64 n1, .int .i64 n2, .int .i64 n3, .int .i64 n4]) (w' := w) (by kernel_rfl) ha zl ho z1 ⟨hA.pure 2 (by omega) (by omega) (by omega) (by omega), hP.1, hP.2.1, fun _ => rfl⟩)
        cases ho
        rw [if_pos (by rfl)]
        have t6 := ha.old 6 (by kernel_rfl)
        simp at t6
        have q0 := kcell kw e0
        have q1 := kcell kw e1
        have q2 := kcell kw e2
        have q3 := kcell kw e3
        have q4 := kcell kw e4
        have q5 := kcell kw e5
        have q6 := kcell kw e6
        have q7 := kcell kw e7
        have q8 := kcell kw e8
        have q9 := kcell kw e9
        go_simp
        exact ST.out
      | 3, ho =>
        have kw := hA.kept (n5 (by omega))
        have b1 : on listed 1 = true := z2 ⟨1, .data⟩ (by cases ho; simp) rfl
        have b2 : on listed 2 = true := z2 ⟨2, .data⟩ (by cases ho; simp) rfl
        have ST := Lib.hid (fun v w' (hk : Kept w w') (hF : w'.ownsRow A2.heap.size 3 1 v LB.length (intsV LB)) => StG.step (I := (fun vs on w => Push A2 (bl + 1) 41 k row xs (fun v w => w.ownsRow A2.heap.size 3 1 v LB.length (intsV LB)) bl vs on w ∧ (on 0 = true → vs 0 = row) ∧ (on 1 = true → vs 1 = .agg #[.slice (some ⟨c.bb, c.ob, none⟩) c.B.boys.length c.capb, .int .i64 c.B.weeks, .slice c.q c.B.trials.length c.capt, .map (some c.bm)]) ∧ (on 2 = true → vs 2 = .agg #[.slice (some ⟨c'.bb, c'.ob, none⟩) c'.B.boys.length c'.capb, .int .i64 c'.B.weeks, .slice c'.q c'.B.trials.length c'.capt, .map (some c'.bm), .int .i64 (boy : Int), .int .i64 n0, .int .i64 n1, .int .i64 n2, .int .i64 n3, .int .i64 n4]))) (v := v) (w' := w') (by kernel_rfl) ha zl ho z1 ⟨hA.called (on_no z1) hk hF, hP.1, hP.2.1, hP.2.2⟩)
        have t13 := ha.new 1 b1 (d := 13) rfl rfl (by simp)
        have t14 := ha.new 2 b2 (d := 14) rfl rfl (by simp)
        simp at t13 t14
        rw [hP.2.1 b1] at t13
        rw [hP.2.2 b2] at t14
        have hcall := HCALL.out w kw
        cases ho
        rw [if_pos (by rfl)]
        go_simp
        refine ⟨trivial, rfl, (CallsIn.inRound _ (callsIn_wide.2 hcall)).mono ?_⟩
        rintro e w' ⟨v, rfl, hk, hF⟩
        exact ST.out v w' hk (row_le hF kw.size)
      | 4, ho =>
        have kw := hA.kept (n5 (by omega))
        have b3 : on listed 3 = true := z2 ⟨3, .data⟩ (by cases ho; simp) rfl
        have ST := Lib.hid (fun v w' (hk : Kept w w') (hv : v = .slice (some ⟨w.heap.size, 0, none⟩) 1 1) hz hc => StG.step (I := (fun vs on w => Push A2 (bl + 1) 41 k row xs (fun v w => w.ownsRow A2.heap.size 3 1 v LB.length (intsV LB)) bl vs on w ∧ (on 0 = true → vs 0 = row) ∧ (on 1 = true → vs 1 = .agg #[.slice (some ⟨c.bb, c.ob, none⟩) c.B.boys.length c.capb, .int .i64 c.B.weeks, .slice c.q c.B.trials.length c.capt, .map (some c.bm)]) ∧ (on 2 = true → vs 2 = .agg #[.slice (some ⟨c'.bb, c'.ob, none⟩) c'.B.boys.length c'.capb, .int .i64 c'.B.weeks, .slice c'.q c'.B.trials.length c'.capt, .map (some c'.bm), .int .i64 (boy : Int), .int .i64 n0, .int .i64 n1, .int .i64 n2, .int .i64 n3, .int .i64 n4]))) (v := v) (w' := w') (by kernel_rfl) ha zl ho z1 ⟨hA.built (on_no z1) b3 (fun _ _ _ h k => row_kept h k) hk hv hz hc, hP.1, hP.2.1, hP.2.2⟩)
        have t15 := ha.new 3 b3 (d := 15) rfl rfl (by simp)
        simp at t15
        obtain ⟨p3, n3', c3', ev3⟩ := row_slice (hA.r3 b3 (n5 (by omega)))
        rw [ev3] at t15 ST
        cases ho
        rw [if_pos (by rfl)]
        go_simp
        refine ST.out _ _ (kept_alloc (kept_refl w) _) rfl ?_ ?_
        · simp
        · go_simp
      | 5, ho =>
        have b4 : on listed 4 = true := z2 ⟨4, .data⟩ (by cases ho; simp) rfl
        have b0 : on listed 0 = true := z2 ⟨0, .data⟩ (by cases ho; simp) rfl
        have n5' := on_no z1
        have kw := hA.kept n5'
        have t12 : a.eval (.tmp 12) = vs 0 := ha.new 0 b0 (d := 12) rfl rfl (by simp)
        have t16 : a.eval (.tmp 16) = vs 4 := ha.new 4 b4 (d := 16) rfl rfl (by simp)
        rw [hP.1 b0] at t12
        obtain ⟨g4, e4', _, _, hc4⟩ := hA.r4 b4 n5'
        rw [e4'] at t16
        have hv3 := hA.r3 (hA.o43 b4) n5'
        have ST := Lib.hid (fun v w' (g cap : Nat) (hg : w.grownBy w' row.ownBlock) (hv : v = .slice (some ⟨g, 0, none⟩) (k + 1) cap) (hat : row.ownBlock = some g ∨ g = w.heap.size) (hlt : g < w'.heap.size) hr => StG.step (I := (fun vs on w => Push A2 (bl + 1) 41 k row xs (fun v w => w.ownsRow A2.heap.size 3 1 v LB.length (intsV LB)) bl vs on w ∧ (on 0 = true → vs 0 = row) ∧ (on 1 = true → vs 1 = .agg #[.slice (some ⟨c.bb, c.ob, none⟩) c.B.boys.length c.capb, .int .i64 c.B.weeks, .slice c.q c.B.trials.length c.capt, .map (some c.bm)]) ∧ (on 2 = true → vs 2 = .agg #[.slice (some ⟨c'.bb, c'.ob, none⟩) c'.B.boys.length c'.capb, .int .i64 c'.B.weeks, .slice c'.q c'.B.trials.length c'.capt, .map (some c'.bm), .int .i64 (boy : Int), .int .i64 n0, .int .i64 n1, .int .i64 n2, .int .i64 n3, .int .i64 n4]))) (v := v) (w' := w') (by kernel_rfl) ha zl ho z1 ⟨hA.app n5' b4 (fun v A B hz h hg => row_apart h hg hR) (fun v A b h hb => h.lt b hb) hR hg hv hat hlt hr, hP.1, hP.2.1, hP.2.2⟩)
        obtain ⟨i0, hi, hiz, his, hib⟩ := info_parts infoII
        cases ho
        rw [if_pos (by rfl)]
        refine wpIn_append_lies _ (.tmp 12) (.tmp 16) 132 rfl (bl + 1) 41 i0 _ 1 24 Tryz.underlying132 hi hiz his hib rfl (by decide) row _ _ t12 (row_kept hrow kw) ⟨g4, 0, none⟩ 1 1 [vs 3] t16 rfl (cell_one hc4) (by simpa using row_oneCell hv3) (by omega) (by unfold maxLen; omega) (by omega) (by have := kw.size; omega) ?_
        intro g cap' w' hown hgrow hat hlt3
        exact ST.out _ _ g cap' hgrow rfl hat hlt3 hown
      | 6, ho =>
        have b5 : on listed 5 = true := z2 ⟨5, .data⟩ (by cases ho; simp) rfl
        obtain ⟨wc, hg, -, -, ⟨g, cap', hv5, -, -, -⟩, hwc⟩ := hA.r5 b5
        rw [on_no z1] at hwc
        have hwc : w = wc := hwc
        subst hwc
        have ST := Lib.hid (StG.step (I := (fun vs on w => Push A2 (bl + 1) 41 k row xs (fun v w => w.ownsRow A2.heap.size 3 1 v LB.length (intsV LB)) bl vs on w ∧ (on 0 = true → vs 0 = row) ∧ (on 1 = true → vs 1 = .agg #[.slice (some ⟨c.bb, c.ob, none⟩) c.B.boys.length c.capb, .int .i64 c.B.weeks, .slice c.q c.B.trials.length c.capt, .map (some c.bm)]) ∧ (on 2 = true → vs 2 = .agg #[.slice (some ⟨c'.bb, c'.ob, none⟩) c'.B.boys.length c'.capb, .int .i64 c'.B.weeks, .slice c'.q c'.B.trials.length c'.capt, .map (some c'.bm), .int .i64 (boy : Int), .int .i64 n0, .int .i64 n1, .int .i64 n2, .int .i64 n3, .int .i64 n4]))) (v := undef) (w' := _) (by kernel_rfl) ha zl ho z1 ⟨hA.stored (on_no z1) b5, hP.1, hP.2.1, hP.2.2⟩)
        have t17 : a.eval (.tmp 17) = vs 5 := ha.new 5 b5 (d := 17) rfl rfl (by simp)
        have t5 : a.eval (.tmp 5) = .pointer (some ⟨bl, 0, none⟩) := ha.old 5 (by kernel_rfl)
        have hne : ∀ b, row.ownBlock = some b → b ≠ bl := fun b hb e => by have := (hrow.lt b hb).1; omega
        have q0 := tcell (turns_grown hg) (fun e => hne _ e rfl) p0
        have qf := ((turns_grown hg).frozen (Go.Ai.lt_of_cell p0) (fun e => hne _ e rfl)).trans pf
        rw [hv5] at t17
        cases ho
        rw [if_pos (by rfl)]
        rw [hv5] at ST
        exact store_row _ rfl _ _ _ t5 t17 q0 qf ST.out
    case hend =>
      rintro listed a w hall ⟨vs, ha, hA, hP⟩
      have b5 : on listed 5 = true := hall 5 (by simp)
      have b6 : on listed 6 = true := hall 6 (by simp)
      obtain ⟨wc, hg, hF, hrow5, ⟨g, cap', hv5, hg5, hne5, hlt5⟩, hw⟩ := hA.r5 b5
      rw [b6, if_pos rfl] at hw
      subst hw
      have hTg := turns_grown hg
      have hTs : Turns (fun b => b = bl) wc (wc.setCell ⟨bl, 0, none⟩ (vs 5)) := (Turns.refl (fun b => b = bl) wc).setCell rfl _ _
      have hne : ∀ b, row.ownBlock = some b → b ≠ bl := fun b hb e => by have := (hrow.lt b hb).1; omega
      have q0 := tcell hTg (fun e => hne _ e rfl) p0
      have qf := (hTg.frozen (Go.Ai.lt_of_cell p0) (fun e => hne _ e rfl)).trans pf
      have hwz : (wc.setCell ⟨bl, 0, none⟩ (vs 5)).heap.size = wc.heap.size := by simp
      have hzz := HZ.out
      have hgz := hTg.size
      show ∃ T2 : Nat → Prop, Ext A2.heap.size T' T2 ∧ (∀ b, T2 b → b < (wc.setCell ⟨bl, 0, none⟩ (vs 5)).heap.size) ∧ Turns T2 A2 (wc.setCell ⟨bl, 0, none⟩ (vs 5)) ∧ Gath bl (bl + 1) (belLs c.B boy x) (k + 1) T2 (wc.setCell ⟨bl, 0, none⟩ (vs 5))
      refine ⟨fun b => T' b ∨ (A2.heap.size ≤ b ∧ b < wc.heap.size), ⟨fun b h => .inl h, fun b h => h.imp id And.left⟩, ?_, ?_, .inl hg1, hg2, vs 5, xs ++ [vs 3], cell_set_eq q0, (World.frozen?_setCell _ _ _ _).trans qf, ownsRow_set hrow5 (a := ⟨bl, 0, none⟩) (Nat.lt_succ_self bl) _, ?_, ?_⟩
      · rintro b (h | h)
        · have := hz b h; omega
        · omega
      · exact (hTg.mono (T' := fun b => T' b ∨ (A2.heap.size ≤ b ∧ b < wc.heap.size)) (fun b _ e => .inl (HT4.out b e))).trans (Ext.refl _ _) (hTs.mono (fun b _ e => .inl (e ▸ hg1)))
      · intro b hb
        rw [hv5] at hb
        cases hb
        rcases hg5 with e | e
        · exact .inl (HT4.out _ e)
        · exact .inr ⟨e, hlt5⟩
      · have hxl : xs.length = k := by have := hrow.1; omega
        intro i l' hi hl'
        by_cases e : i = k
        · subst e
          rw [HN.out] at hl'
          cases hl'
          refine ⟨vs 3, by rw [List.getElem?_append_right (by omega), hxl]; simp, (ListAt.of_row hF).turns hTs (fun b hb e => by have := (hF.lt b hb).1; omega), fun b hb => ⟨.inr (hF.lt b hb), (by have := (hF.lt b hb).1; omega), fun e5 => ?_⟩⟩
          rw [hv5] at e5
          cases e5
          exact hne5 hb
        · obtain ⟨v, q1, q2, q3⟩ := HLS.out i l' (by omega) hl'
          refine ⟨v, by rw [List.getElem?_append_left (by omega)]; exact q1, (q2.turns hTg (fun b hb e => (q3 b hb).2.2 e)).turns hTs (fun b hb e => (q3 b hb).2.1 e), fun b hb => ⟨.inl (q3 b hb).1, (q3 b hb).2.1, fun e5 => ?_⟩⟩
          rw [hv5] at e5
          cases e5
          rcases hg5 with e | e
          · exact (q3 g hb).2.2 e
          · have := hz g (q3 g hb).1; omega
  case done =>
    rintro Db T' B hDb hnD hE hTB ⟨hg1, hg2, row, xs, h1, h2, h3, h4, h5⟩ hK
    have hkB : Below W.heap.size W B := Below.trans HKW.out (hTB.toBelow (n := W.heap.size) (by rintro b rfl; omega) (by have := HKW.out.size; omega))
    have hlen : (c'.B.truths boy x).length = (belLs c.B boy x).length := by rw [HTL.out]; unfold belLs; rw [List.length_map]
    have hcnt : (c'.B.truths boy x).length ≤ 1024 := truths_count hxo
    have hne0 : belLs c.B boy x ≠ [] := by
      unfold belLs
      intro e
      exact untried_ne hxo (List.map_eq_nil_iff.1 e)
    rw [hlen] at h3 h5 hcnt
    have hpos := List.length_pos_iff.2 hne0
    obtain ⟨gb, capg, cur, rfl, -, -, -⟩ := h3.2.resolve_left (fun e => by omega)
    have hLA : ListsAt B (.slice (some ⟨gb, 0, none⟩) (belLs c.B boy x).length capg) (belLs c.B boy x) := ⟨gb, capg, rfl, fun i l hl => by
      have hi := (List.getElem?_eq_some_iff.1 hl).1
      obtain ⟨v, q1, q2, q3⟩ := h5 i l hi hl
      exact ⟨v, (h3.cellAt i (by omega)).trans q1, q2⟩⟩
    have hl100 : ∀ l ∈ belLs c.B boy x, l.length ≤ 100 := by
      intro l hl
      obtain ⟨n, -, rfl⟩ := List.mem_map.1 hl
      have h6 : c.B.trials.length ≤ 6 := by
        have := h.ok
        simp only [Book.okB, inB, Bool.and_eq_true, decide_eq_true_eq] at this
        omega
      exact Nat.le_trans (belL_len _ _ _ _ _) (by omega)
    have hcall := min_any _ _ B hLA hne0 hl100 (by omega)
    clear h3 h5 hLA hl100
    gi_wp2_with fail
    refine ⟨trivial, rfl, (callsIn_wide.2 hcall).mono ?_⟩
    rintro e B2 ⟨v, rfl, hk2, hl2⟩
    have hK2 := (hk2.block Db (Array.getElem?_eq_some_iff.1 hK).1).trans hK
    clear hcall
    gi_wp2_with fail
    refine leave_mark (v := v) hK2 fun C hC hCT => ?_
    refine ⟨by simp [results, Tryz.results101, go_sem], v, rfl, ?_, hl2.mark hK2 hCT⟩
    exact Below.trans (Below.trans hkB (Below.mono hk2 hkB.size)) (hCT.toBelow (by rintro b rfl; omega) (by have := hkB.size; have := hk2.size; omega))
end Go.Proofs.YtcgihkaglonnaaaGreatDoor
set_option linter.all false
namespace Go.Proofs.YtcgihkaglonnaaaGreatDoor
open Go.RowKit Go.Sort Go.Rg
set_option maxRecDepth 100000

theorem wpList_append_run {P : Program} {ops : Array Oper} {rest : List Oper} {o : Oper} {a : Act} {Q : Exit → Act → World → Prop} (w : World) (hgd : o.guard = none) (s x : Operand) (t : TypeId)
    (ho : o.op = .call { callee := .builtin .append, args := #[s, x], argTypes := #[t, t] }) {v y v' : Value} {w' : World} (hs : a.eval s = v) (hx : a.eval x = y)
    (hr : (Builtin.append_ #[t, t] o.type #[v, y]).run P w = .ok v' w') (h : wpList P ops Q rest (a.put o.dst v') w') : wpList P ops Q (o :: rest) a w :=
  wpList_plain hgd fun _ hK => by
    unfold Oper.wp execOp
    simp only [ho, resolve, invoke, builtin, Sem.run_bind, Sem.run_pure, Result.andThen_ok, List.map_toArray, List.map_cons, List.map_nil, hs, hx, hr]
    exact hK _ _ h
theorem run_append_nothing (ty : TypeId) (w : World) (b q : Option Addr) (n cap c : Nat) (hn : n ≤ cap) : (Builtin.append_ #[41, 41] ty #[.slice b n cap, .slice q 0 c]).run Tryz.prog w = .ok (.slice b n cap) w := by
  obtain ⟨i0, hi, hiz, his, hib⟩ := info_parts infoI
  cases b <;> cases q <;> simp [Builtin.append_, run_underlying Tryz.underlying41, sizeOf, typeInfo, hi, Builtin.lenOf, Builtin.firstCells, loadCells, loadCellsFrom, storeCells, hn]

theorem list_cells {w : World} {b cap : Nat} {l : List Nat} (hc : ∀ i x, l[i]? = some x → w.cell? ⟨b, i, none⟩ = some (.int .i64 ((x : Nat) : Int))) : ∀ (k : Nat) (u : Value), (intsV l)[k]? = some u → w.cell? ((⟨b, 0, none⟩ : Addr).add k) = some u := by
  intro k u hu
  simp only [intsV, List.getElem?_map, Option.map_eq_some_iff] at hu
  obtain ⟨x, hx, rfl⟩ := hu
  have := hc k x hx
  exact add_cell.2 this
theorem ints_one (l : List Nat) : ∀ u ∈ intsV l, u.oneCell' = true := by
  intro u hu
  obtain ⟨x, -, rfl⟩ := List.mem_map.1 hu
  rfl
/-- an append of a list that can be read, to a row of one's own -/
theorem run_append_list {w : World} {base : Nat} {v y : Value} {L M : List Nat} (ty : TypeId) (h : w.ownsRow base 3 1 v L.length (intsV L)) (hy : ListAt w y M) (hl : L.length + M.length ≤ 1000) (hb : base ≤ w.heap.size) :
    ∃ v' w', (Builtin.append_ #[41, 41] ty #[v, y]).run Tryz.prog w = .ok v' w' ∧ w'.ownsRow base 3 1 v' (L ++ M).length (intsV (L ++ M)) ∧ w.grownBy w' v.ownBlock := by
  by_cases hM : M = []
  · subst hM
    obtain ⟨q, c, rfl⟩ := listAt_len hy
    have hv : ∃ b cap, v = .slice b L.length cap ∧ L.length ≤ cap := by
      rcases h.2 with ⟨rfl, h0⟩ | ⟨g, cap, cur, rfl, h1, h2, h3, h4⟩
      · exact ⟨none, 0, by rw [h0], by omega⟩
      · exact ⟨_, cap, rfl, by omega⟩
    obtain ⟨b, cap, rfl, hn⟩ := hv
    exact ⟨_, w, run_append_nothing ty w b q _ _ _ hn, by simpa using h, ⟨rfl, rfl, rfl, Nat.le_refl _, fun _ _ _ => rfl⟩⟩
  · rcases hy with ⟨_, e⟩ | ⟨b, c, rfl, hb', hc⟩
    · exact absurd e hM
    obtain ⟨i0, hi, hiz, his, hib⟩ := info_parts infoI
    have hpos := List.length_pos_iff.2 hM
    obtain ⟨g, cap, w', hr, h2, h3, -, -⟩ := run_append_lies (P := Tryz.prog) w 41 ty base 3 i0 _ 1 8 Tryz.underlying41 hi hiz his hib rfl (by decide) v L.length (intsV L) h ⟨b, 0, none⟩ M.length c (intsV M) (by simp [intsV]) (list_cells (cap := c) hc) (ints_one M) hpos (by unfold maxLen; omega) (by omega) hb w.heap.size rfl
    exact ⟨_, w', hr, by simpa [intsV] using h2, h3⟩


def wrongAt (B : Book) (i : Nat) : List Nat := match B.boys[i]? with
  | some x => minL (belLs B i x)
  | none => []
def accL (B : Book) (k : Nat) : List Nat := (List.range k).flatMap (wrongAt B)
theorem accL_succ (B : Book) (k : Nat) : accL B (k + 1) = accL B k ++ wrongAt B k := by
  unfold accL
  rw [List.range_succ, List.flatMap_append]
  simp
theorem minL_mem : ∀ {L : List (List Nat)}, L ≠ [] → minL L ∈ L
  | [], h => absurd rfl h
  | a :: L, _ => by
    have : ∀ (L : List (List Nat)) (m : List Nat), L.foldl minStep m = m ∨ L.foldl minStep m ∈ L := by
      intro L
      induction L with
      | nil => intro m; exact .inl rfl
      | cons b L ih =>
        intro m
        rw [List.foldl_cons]
        rcases ih (minStep m b) with h | h
        · rw [h]
          unfold minStep
          split
          · exact .inr List.mem_cons_self
          · exact .inl rfl
        · exact .inr (List.mem_cons_of_mem _ h)
    rcases this L a with h | h
    · show L.foldl minStep a ∈ _
      rw [h]; exact List.mem_cons_self
    · exact List.mem_cons_of_mem _ h
theorem wrongAt_len (B : Book) (hB : B.okB = true) (i : Nat) : (wrongAt B i).length ≤ 6 := by
  have h6 : B.trials.length ≤ 6 := by
    have := hB
    simp only [Book.okB, inB, Bool.and_eq_true, decide_eq_true_eq] at this
    omega
  unfold wrongAt
  split
  · rename_i x hx
    have hxo : x.okB = true := by
      have := hB
      simp only [Book.okB, Bool.and_eq_true, List.all_eq_true] at this
      exact this.1.2 x (List.mem_of_getElem? hx)
    have hne : belLs B i x ≠ [] := fun e => untried_ne hxo (List.map_eq_nil_iff.1 e)
    obtain ⟨n, -, e⟩ := List.mem_map.1 (minL_mem hne)
    have e' : minL (belLs B i x) = belL B i x n B.trials.length := e.symm
    rw [e']
    exact Nat.le_trans (belL_len _ _ _ _ _) h6
  · simp
theorem accL_len (B : Book) (hB : B.okB = true) : ∀ k, (accL B k).length ≤ 6 * k
  | 0 => by simp [accL]
  | k + 1 => by
    rw [accL_succ, List.length_append]
    have := accL_len B hB k
    have := wrongAt_len B hB k
    omega

set_option maxHeartbeats 4000000 in
theorem wrong_any (S : Nat → Prop) (c : Choir) (W : World) (h : ChoirAt S W c) (hS : ∀ b, S b → b < W.heap.size) (hL : Laid W)
    (hsort : ∀ (v : Value) (l : List Nat) (base : Nat) (V : World), base ≤ V.heap.size → V.ownsRow base 3 1 v l.length (intsV l) → l.length ≤ 1000 → Calls Tryz.prog 102 #[v] V fun e C => e = .returned (.tuple #[]) ∧ ListAt C v (l.mergeSort fun x y => decide (x ≤ y)) ∧ Below base V C) :
    Calls Tryz.prog 82 #[c.val] W fun e C => ∃ v, e = .returned v ∧ Kept W C ∧ ListAt C v ((accL c.B c.B.boys.length).mergeSort fun x y => decide (x ≤ y)) := by
  have hlen : c.B.boys.length ≤ 4 := by
    have := h.ok
    simp only [Book.okB, inB, Bool.and_eq_true, decide_eq_true_eq] at this
    omega
  have hok := h.ok
  have HSORT := Lib.hid hsort; clear hsort
  have hwo := fun V (k : Kept W V) boy x (hx : c.B.boys[boy]? = some x) => wrongOf_any S c boy x hx V (h.turns (kturns k (fun _ => False)) (fun _ _ h => h)) (fun b hb => Nat.lt_of_lt_of_le (hS b hb) k.size) (hL.kept k)
  have HWO := Lib.hid hwo; clear hwo
  unfold Choir.val at HWO
  unfold Choir.val
  have hk0 : Kept W (W.alloc (Obj.cells #[.slice (some ⟨c.bb, c.ob, none⟩) c.B.boys.length c.capb, .int .i64 c.B.weeks, .slice c.q c.B.trials.length c.capt, .map (some c.bm)] 70)) := kept_alloc (kept_refl _) _
  have hz0 : (W.alloc (Obj.cells #[.slice (some ⟨c.bb, c.ob, none⟩) c.B.boys.length c.capb, .int .i64 c.B.weeks, .slice c.q c.B.trials.length c.capt, .map (some c.bm)] 70)).heap.size = W.heap.size + 1 := by simp
  have c0 : (W.alloc (Obj.cells #[.slice (some ⟨c.bb, c.ob, none⟩) c.B.boys.length c.capb, .int .i64 c.B.weeks, .slice c.q c.B.trials.length c.capt, .map (some c.bm)] 70)).cell? ⟨W.heap.size, 0, none⟩ = some (.slice (some ⟨c.bb, c.ob, none⟩) c.B.boys.length c.capb) := by go_simp
  have c1 : (W.alloc (Obj.cells #[.slice (some ⟨c.bb, c.ob, none⟩) c.B.boys.length c.capb, .int .i64 c.B.weeks, .slice c.q c.B.trials.length c.capt, .map (some c.bm)] 70)).cell? ⟨W.heap.size, 1, none⟩ = some (.int .i64 c.B.weeks) := by go_simp
  have c2 : (W.alloc (Obj.cells #[.slice (some ⟨c.bb, c.ob, none⟩) c.B.boys.length c.capb, .int .i64 c.B.weeks, .slice c.q c.B.trials.length c.capt, .map (some c.bm)] 70)).cell? ⟨W.heap.size, 2, none⟩ = some (.slice c.q c.B.trials.length c.capt) := by go_simp
  have c3 : (W.alloc (Obj.cells #[.slice (some ⟨c.bb, c.ob, none⟩) c.B.boys.length c.capb, .int .i64 c.B.weeks, .slice c.q c.B.trials.length c.capt, .map (some c.bm)] 70)).cell? ⟨W.heap.size, 3, none⟩ = some (.map (some c.bm)) := by go_simp
  go_enter Tryz.func82, Tryz.ntmps82
  go_wp2_with fail
  generalize (W.alloc (Obj.cells #[.slice (some ⟨c.bb, c.ob, none⟩) c.B.boys.length c.capb, .int .i64 c.B.weeks, .slice c.q c.B.trials.length c.capt, .map (some c.bm)] 70)) = V0 at *
  go_loopw [3, 9] (fun v i V => ∃ j : Nat, j ≤ c.B.boys.length ∧ i = .int .i64 j ∧ V.ownsRow V0.heap.size 3 1 v (accL c.B j).length (intsV (accL c.B j)) ∧ Kept V0 V) (fun v i V => c.B.boys.length - (intOf i).toNat)
  case atStart => exact ⟨0, by omega, rfl, World.ownsRow_nil _ _ _ _, kept_refl _⟩
  case round =>
    obtain ⟨j, hj, rfl, hrow, hV⟩ := hrel
    have hkV := kept_trans hk0 hV
    have hzV := hV.size
    by_cases hlt : j < c.B.boys.length
    · have hltI : (j : Int) < c.B.boys.length := by omega
      have hget : c.B.boys[j]? = some c.B.boys[j] := List.getElem?_eq_getElem hlt
      generalize c.B.boys[j] = x at *
      have a0 := kcell hV c0
      have a1 := kcell hV c1
      have a2 := kcell hV c2
      have a3 := kcell hV c3
      have hwa : wrongAt c.B j = minL (belLs c.B j x) := by unfold wrongAt; rw [hget]
      have hal := accL_len c.B hok j
      have hwl := wrongAt_len c.B hok j
      have hsucc := accL_succ c.B j
      have hcall := HWO.out _ hkV j x hget
      rw [← hwa] at hcall
      have HCALL := Lib.hid hcall
      have HS := Lib.hid hsucc
      have HROW := Lib.hid hrow
      clear hcall hsucc hrow hwa hget c0 c1 c2 c3
      go_wp2_with (first
        | (go_at_call 101; refine HCALL.out.mono ?_; rintro e V2 ⟨y, rfl, hk2, hl2⟩)
        | (at_builtin
           obtain ⟨v', w', hr, hrow', hg'⟩ := run_append_list 41 (row_kept HROW.out hk2) hl2 (by omega) (by have := hk2.size; omega)
           refine wpList_append_run _ rfl _ _ 41 rfl rfl rfl hr ?_))
      go_roundw
      case rel =>
        refine ⟨j + 1, by omega, by go_num, by rw [HS.out]; exact hrow', ?_⟩
        exact Below.trans (kept_trans hV hk2) ⟨hg'.os, hg'.tape, hg'.output, hg'.size, fun k hk => hg'.block k (Nat.lt_of_lt_of_le hk (kept_trans hV hk2).size) (fun e => by have := (HROW.out.lt k e.symm).1; omega)⟩
      case measure => simp [intOf]; omega
    · have hltI : ¬ (j : Int) < c.B.boys.length := by omega
      have hje : j = c.B.boys.length := by omega
      have hal := accL_len c.B hok j
      have hcall := HSORT.out u3 _ V0.heap.size _ hzV hrow (by omega)
      rw [hje] at hcall
      have HCALL := Lib.hid hcall
      clear hcall hrow
      go_wp2_with (go_at_call 102; refine HCALL.out.mono ?_; rintro e V2 ⟨rfl, hl2, hb2⟩)
      go_ret
      exact ⟨_, rfl, Below.trans hkV ⟨hb2.os, hb2.tape, hb2.output, hb2.size, fun k hk => hb2.block k (by omega)⟩, hl2⟩
end Go.Proofs.YtcgihkaglonnaaaGreatDoor
