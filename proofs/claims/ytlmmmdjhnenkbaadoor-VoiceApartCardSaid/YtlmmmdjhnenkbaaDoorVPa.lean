/- A part of the proof: contracts of the program's functions for every input. No conditions. -/
import Derived.Test.YtlmmmdjhnenkbaaDoorVF
import Derived.OwnWalkIn
import Derived.Test.YtlmmmdjhnenkbaaDoorVE
import Derived.Test.YtlmmmdjhnenkbaaDoorVD
import Derived.Test.YtlmmmdjhnenkbaaDoorVI
set_option linter.all false
set_option linter.all false
namespace Go.Proofs.YtlmmmdjhnenkbaaDoor
open Go.RowKit Go.Sort Go.Rg
set_option maxRecDepth 100000

/-- an append of something onto a row that is owned, at one operation, in any frame -/
theorem wpIn_append_lies {F : Fence} {nF : Nat} {P : Program} (w : World) {o : Oper} {a : Act} {K : Act → World → Prop} {Q : Exit → Act → World → Prop} (s x : Operand) (t : TypeId)
    (ho : o.op = .call { callee := .builtin .append, args := #[s, x], argTypes := #[t, t] })
    (base : Nat) (e : TypeId) (i : TypeInfo) (z : Value) (size bytes : Nat) (ht : P.underlying t = some (.slice e)) (hi : P.info? e = some i) (hz : i.zero = some z)
    (hsize : i.size = size) (hby : i.bytes = bytes) (hzs : z.cells.size = size) (hsz : 0 < size)
    (v : Value) (n : Nat) (xs : List Value) (hs : a.eval s = v) (hown : w.ownsRow base e size v n xs)
    (ad : Addr) (m c : Nat) (news : List Value) (hx : a.eval x = .slice (some ad) m c) (hl : news.length = m * size) (hnews : ∀ j u, news[j]? = some u → w.cell? (ad.add j) = some u) (h1 : ∀ u ∈ news, u.oneCell' = true)
    (hm : 0 < m) (h63 : n + m ≤ maxLen) (hbytes : (n + m) * bytes ≤ 140737488355328) (hbase : base ≤ w.heap.size)
    (h : ∀ g cap w', w'.ownsRow base e size (.slice (some ⟨g, 0, none⟩) (n + m) cap) (n + m) (xs ++ news) → w.grownBy w' v.ownBlock → (v.ownBlock = some g ∨ g = w.heap.size) → g < w'.heap.size → K (a.put o.dst (.slice (some ⟨g, 0, none⟩) (n + m) cap)) w') : o.wpIn F nF P a w K Q := by
  obtain ⟨g, cap, w', hr, h2, h3, h4, h5⟩ := run_append_lies (P := P) w t o.type base e i z size bytes ht hi hz hsize hby hzs hsz v n xs hown ad m c news hl hnews h1 hm h63 hbytes hbase w.heap.size rfl
  unfold Oper.wpIn
  refine ⟨by simp [Oper.about, ho, resolve, Target.leads, Sem.run_pure], ?_⟩
  rw [Oper.semAt_plain F _ _ (by rw [ho]; intro c hc'; cases hc')]
  simp [execOp, ho, resolve, invoke, builtin, hs, hx, hr, Result.andThen]
  exact h g cap w' h2 h3 h4 h5

/-- what is known while a region is carried out, in whatever order, that makes one block (operation b), appends it (operation c) and stores the answer (operation s) -/
def StA (b c s : Nat) (pre : Nat → Value) (V WB : World) (R : Value → World → Prop) (X : Addr) (l : List Oper) (a0 : Act) (listed : Array Bool) (a : Act) (w : World) : Prop :=
  ∃ r, AtSt l.toArray (fun j => if j = c then r else pre j) a0 listed a ∧ (on listed c = false → w = if on listed b then WB else V.drew) ∧
    (on listed c = true → ∃ wc, R r wc ∧ w = if on listed s then wc.setCell X r else wc)
section
variable {l : List Oper} {a0 a : Act} {b c s : Nat} {pre : Nat → Value} {V WB w : World} {R : Value → World → Prop} {X : Addr} {listed : Array Bool} {i : Nat} {o : Oper} {r : Value}
theorem StA.start : StA b c s pre V WB R X l a0 (Array.replicate l.length false) a0 V.drew := by
  have no : ∀ j, on (Array.replicate l.length false) j = false := fun j => by
    unfold on
    simp only [Array.getD_eq_getD_getElem?, Array.getElem?_replicate]
    split <;> simp
  refine ⟨undef, ⟨rfl, rfl, fun j o d hj => ?_, fun t _ => rfl⟩, (fun _ => by rw [no]; rfl), fun h => by rw [no] at h; cases h⟩
  have := no j
  unfold on at this
  rw [this] at hj; cases hj
theorem StA.pure (hd : distFrom l = true) (ha : AtSt l.toArray (fun j => if j = c then r else pre j) a0 listed a) (hf : on listed c = false → w = if on listed b then WB else V.drew) (ht : on listed c = true → ∃ wc, R r wc ∧ w = if on listed s then wc.setCell X r else wc)
    (ho : l[i]? = some o) (h1 : listed.getD i true = false) (ib : i ≠ b) (ic : i ≠ c) (is : i ≠ s) : StA b c s pre V WB R X l a0 (listed.setIfInBounds i true) (a.put o.dst (pre i)) w := by
  have := ha.put (i := i) (by simpa using ho) h1 (dist_arr hd)
  simp only [if_neg ic] at this
  refine ⟨r, this, ?_, ?_⟩
  · rw [on_set (Ne.symm ic), on_set (Ne.symm ib)]; exact hf
  · rw [on_set (Ne.symm ic), on_set (Ne.symm is)]; exact ht
theorem StA.built (hd : distFrom l = true) (ha : AtSt l.toArray (fun j => if j = c then r else pre j) a0 listed a) (hf : on listed c = false → w = if on listed b then WB else V.drew) (hl : listed.size = l.length)
    (ho : l[b]? = some o) (h1 : listed.getD b true = false) (bc : b ≠ c) (hc : on listed c = false) : w = V.drew ∧ StA b c s pre V WB R X l a0 (listed.setIfInBounds b true) (a.put o.dst (pre b)) WB := by
  have hz : b < listed.size := by rw [hl]; exact (List.getElem?_eq_some_iff.1 ho).1
  have := ha.put (i := b) (by simpa using ho) h1 (dist_arr hd)
  simp only [if_neg bc] at this
  have hb := hf hc
  rw [on_no h1] at hb
  refine ⟨hb, r, this, ?_, ?_⟩
  · rw [on_self hz]; exact fun _ => rfl
  · rw [on_set (Ne.symm bc), hc]; intro h; cases h
theorem StA.appended (hd : distFrom l = true) (ha : AtSt l.toArray (fun j => if j = c then r else pre j) a0 listed a) (hf : on listed c = false → w = if on listed b then WB else V.drew) (hl : listed.size = l.length)
    (ho : l[c]? = some o) (h1 : listed.getD c true = false) (cs : c ≠ s) (hb : on listed b = true) (hs : on listed s = false) : w = WB ∧ ∀ r' wc, R r' wc → StA b c s pre V WB R X l a0 (listed.setIfInBounds c true) (a.put o.dst r') wc := by
  have hz : c < listed.size := by rw [hl]; exact (List.getElem?_eq_some_iff.1 ho).1
  have hcn := on_no h1
  have hw := hf hcn
  rw [hb] at hw
  refine ⟨hw, fun r' wc hr => ⟨r', ?_, ?_, ?_⟩⟩
  · have hsw : ∀ j, listed.getD j false = true → (fun j => if j = c then r else pre j) j = (fun j => if j = c then r' else pre j) j := fun j hj => by
      by_cases e : j = c
      · subst e; unfold on at hcn; rw [hcn] at hj; cases hj
      · simp [e]
    have := (ha.swap hsw).put (i := c) (by simpa using ho) h1 (dist_arr hd)
    simpa using this
  · rw [on_self hz]; intro h; cases h
  · intro _; exact ⟨wc, hr, by rw [on_set (Ne.symm cs), hs]; rfl⟩
theorem StA.stored (hd : distFrom l = true) (ha : AtSt l.toArray (fun j => if j = c then r else pre j) a0 listed a) (ht : on listed c = true → ∃ wc, R r wc ∧ w = if on listed s then wc.setCell X r else wc) (hl : listed.size = l.length)
    (ho : l[s]? = some o) (h1 : listed.getD s true = false) (hn : o.dst = none) (cs : c ≠ s) (hc : on listed c = true) : R r w ∧ StA b c s pre V WB R X l a0 (listed.setIfInBounds s true) a (w.setCell X r) := by
  have hz : s < listed.size := by rw [hl]; exact (List.getElem?_eq_some_iff.1 ho).1
  obtain ⟨wc, hr, hw⟩ := ht hc
  rw [on_no h1] at hw
  have hw : w = wc := hw
  subst hw
  have := ha.put (i := s) (by simpa using ho) h1 (dist_arr hd)
  rw [hn] at this
  refine ⟨hr, r, this, ?_, ?_⟩
  · rw [on_set cs, hc]; intro h; cases h
  · intro _; exact ⟨w, hr, by rw [on_self hz]; rfl⟩
end
end Go.Proofs.YtlmmmdjhnenkbaaDoor
set_option linter.all false
namespace Go.Proofs.YtlmmmdjhnenkbaaDoor
open Go.RowKit Go.Sort Go.Rg
set_option maxRecDepth 100000

theorem grown_cell {w w' : World} {row : Option Nat} (h : w.grownBy w' row) {b o : Nat} {u : Value} (hr : row ≠ some b) (hc : w.cell? ⟨b, o, none⟩ = some u) : w'.cell? ⟨b, o, none⟩ = some u :=
  (World.cell?_of_block (a := ⟨b, o, none⟩) (h.block b (Go.Ai.lt_of_cell hc) (Ne.symm hr))).trans hc

def trialC (t : Trial) : List Value := [.int .i64 t.boy, .int .i64 t.week, .int .i64 t.note, .int .i64 t.sang]
theorem trials_len : ∀ l : List Trial, (l.flatMap trialC).length = l.length * 4
  | [] => rfl
  | x :: l => by
    rw [List.flatMap_cons, List.length_append, trials_len l, List.length_cons]
    have : (trialC x).length = 4 := rfl
    omega
theorem trials_get : ∀ (l : List Trial) (i k : Nat) (x : Trial), l[i]? = some x → k < 4 → (l.flatMap trialC)[i * 4 + k]? = (trialC x)[k]?
  | y :: l, 0, k, x, h, hk => by
    simp only [List.getElem?_cons_zero, Option.some.injEq] at h
    subst h
    rw [List.flatMap_cons, List.getElem?_append_left (by show 0 * 4 + k < 4; omega)]
    simp
  | y :: l, i + 1, k, x, h, hk => by
    simp only [List.getElem?_cons_succ] at h
    rw [List.flatMap_cons, List.getElem?_append_right (by show 4 ≤ (i + 1) * 4 + k; omega)]
    have : (i + 1) * 4 + k - (trialC y).length = i * 4 + k := by show (i + 1) * 4 + k - 4 = _; omega
    rw [this]
    exact trials_get l i k x h hk
  | [], _, _, _, h, _ => by simp at h
theorem trials_one (l : List Trial) : ∀ u ∈ l.flatMap trialC, u.oneCell' = true := by
  intro u hu
  obtain ⟨x, _, hx⟩ := List.mem_flatMap.1 hu
  simp only [trialC, List.mem_cons, List.not_mem_nil, or_false] at hx
  rcases hx with rfl | rfl | rfl | rfl <;> rfl
/-- a row of trials that a call owns reads as these trials -/
theorem trialsAt_own {w : World} {base g cap : Nat} {l : List Trial} (h : w.ownsRow base 27 4 (.slice (some ⟨g, 0, none⟩) l.length cap) l.length (l.flatMap trialC)) : TrialsAt w g 0 l := by
  refine ⟨(h.lt g rfl).2, fun i x hx => ?_⟩
  have hi : i < l.length := (List.getElem?_eq_some_iff.1 hx).1
  have hc : ∀ k v, k < 4 → (trialC x)[k]? = some v → w.cell? ⟨g, 0 + i * 4 + k, none⟩ = some v := fun k v hk hv => by
    have h1 := h.cellAt (i * 4 + k) (by omega)
    rw [trials_get _ _ _ _ hx hk, hv] at h1
    simpa using h1
  exact ⟨hc 0 _ (by omega) rfl, hc 1 _ (by omega) rfl, hc 2 _ (by omega) rfl, hc 3 _ (by omega) rfl⟩
theorem ownsRow_set {w : World} {base : Nat} {e : TypeId} {size : Nat} {v : Value} {n : Nat} {xs : List Value} (h : w.ownsRow base e size v n xs) {a : Addr} (ha : a.block < base) (u : Value) : (w.setCell a u).ownsRow base e size v n xs := by
  obtain ⟨h1, h2⟩ := h
  refine ⟨h1, h2.imp id ?_⟩
  rintro ⟨g, cap, cur, e1, e2, e3, e4⟩
  exact ⟨g, cap, cur, e1, e2, (Below.heap_setCell _ _ _ _ (by omega)).trans e3, e4⟩

theorem StA_kept {b c : Nat} {listed : Array Bool} {V WB w : World} (hf : on listed c = false → w = if on listed b then WB else V.drew) (hc : on listed c = false) (hk : Kept V WB) : Kept V w := by
  rw [hf hc]
  split
  · exact hk
  · exact kept_drew (kept_refl V)
theorem grownBy_kept {A B C : World} {row : Option Nat} (hk : Kept A B) (hg : B.grownBy C row) : A.grownBy C row :=
  ⟨hg.os.trans hk.os, hg.tape.trans hk.tape, hg.output.trans hk.output, Nat.le_trans hk.size hg.size, fun k h1 h2 => (hg.block k (Nat.lt_of_lt_of_le h1 hk.size) h2).trans (hk.block k h1)⟩
theorem trial_one (t : Trial) : ∀ u ∈ trialC t, u.oneCell' = true := by
  intro u hu
  simp only [trialC, List.mem_cons, List.not_mem_nil, or_false] at hu
  rcases hu with rfl | rfl | rfl | rfl <;> rfl
theorem trial_news (t : Trial) {wr WB : World} (h : WB = wr.drew.alloc (Obj.cells #[.int .i64 t.boy, .int .i64 t.week, .int .i64 t.note, .int .i64 t.sang] 27)) : ∀ (k : Nat) (u : Value), (trialC t)[k]? = some u → WB.cell? ((⟨wr.heap.size, 0, none⟩ : Addr).add k) = some u := by
  intro k u hu
  have hk : k < 4 := (List.getElem?_eq_some_iff.1 hu).1
  subst h
  match k, hk, hu with
  | 0, _, hu => cases hu; go_simp
  | 1, _, hu => cases hu; go_simp
  | 2, _, hu => cases hu; go_simp
  | 3, _, hu => cases hu; go_simp

theorem getD_some {t : Array Value} {i : Nat} (h : i < t.size) : t.toList[i]? = some (t.getD i undef) := by simp [Array.getD_eq_getD_getElem?, h]
/-- the temporaries behind a region that writes only some in a row -/
theorem atSt_mid {l : List Oper} {vs : Nat → Value} {a0 a : Act} {listed : Array Bool} (h : AtSt l.toArray vs a0 listed a) (lo k : Nat) (hd : l.all (fun o => match o.dst with | some d => Nat.ble lo d && Nat.blt d (lo + k) | none => true) = true) (hn : lo + k ≤ a0.tmps.size) :
    ∃ y : Nat → Value, a = { tmps := (a0.tmps.toList.take lo ++ ((List.range k).map y ++ a0.tmps.toList.drop (lo + k))).toArray, defers := a0.defers } := by
  refine ⟨fun i => a.tmps.getD (lo + i) undef, ?_⟩
  have hoth : ∀ i, (i < lo ∨ lo + k ≤ i) → a.tmps.getD i undef = a0.tmps.getD i undef := fun i hi => h.other i fun j o _ ho hdst => by
    have := List.all_eq_true.1 hd o (List.mem_of_getElem? (by simpa using ho))
    rw [hdst] at this
    simp only [Bool.and_eq_true, Nat.ble_eq, Nat.blt_eq] at this
    omega
  have hsz := h.size
  have hdf := h.defers
  obtain ⟨tm, df⟩ := a
  simp only at hoth hsz hdf ⊢
  subst hdf
  refine congrArg (fun t => Act.mk t a0.defers) ?_
  apply Array.ext'
  apply List.ext_getElem?
  intro i
  show tm.toList[i]? = (a0.tmps.toList.take lo ++ ((List.range k).map (fun i => tm.getD (lo + i) undef) ++ a0.tmps.toList.drop (lo + k)))[i]?
  have hl0 : (a0.tmps.toList.take lo).length = lo := by rw [List.length_take, Array.length_toList]; omega
  by_cases h1 : i < lo
  · rw [List.getElem?_append_left (by omega), List.getElem?_take_of_lt h1, getD_some (by omega), getD_some (by omega), hoth i (.inl h1)]
  · rw [List.getElem?_append_right (by omega), hl0]
    by_cases h2 : i < lo + k
    · rw [List.getElem?_append_left (by simp; omega), getD_some (by omega)]
      simp only [List.getElem?_map, List.getElem?_range (show i - lo < k by omega), Option.map_some]
      rw [show lo + (i - lo) = i by omega]
    · rw [List.getElem?_append_right (by simp; omega), List.length_map, List.length_range, List.getElem?_drop, show lo + k + (i - lo - k) = i by omega]
      rcases Nat.lt_or_ge i a0.tmps.size with h3 | h3
      · rw [getD_some (by omega), getD_some h3, hoth i (.inr (by omega))]
      · rw [List.getElem?_eq_none (by rw [Array.length_toList]; omega), List.getElem?_eq_none (by rw [Array.length_toList]; omega)]

/-- a book at block xb whose trials, so far, are these: a row of its own -/
structure Gathers (V0 V : World) (xb : Nat) (p : Option Addr) (n cap : Nat) (weeks : Int) (v : Value) (ts : List Trial) : Prop where
  kept : Below xb V0 V
  c0 : V.cell? ⟨xb, 0, none⟩ = some (.slice p n cap)
  c1 : V.cell? ⟨xb, 1, none⟩ = some (.int .i64 weeks)
  c2 : V.cell? ⟨xb, 2, none⟩ = some v
  fr : V.frozen? ⟨xb, 2, none⟩ = false
  row : V.ownsRow (xb + 1) 27 4 v ts.length (ts.flatMap trialC)
/-- what an append of one more trial answers -/
def Grew (wr : World) (xb : Nat) (v : Value) (ts : List Trial) (t : Trial) (r : Value) (wc : World) : Prop :=
  ∃ g cap, r = .slice (some ⟨g, 0, none⟩) (ts.length + 1) cap ∧ wc.ownsRow (xb + 1) 27 4 r (ts.length + 1) (ts.flatMap trialC ++ trialC t) ∧ wr.grownBy wc v.ownBlock
theorem Gathers.go {V0 V W : World} {xb n cap : Nat} {p : Option Addr} {weeks : Int} {v : Value} {ts : List Trial} (h : Gathers V0 V xb p n cap weeks v ts) (hk : Kept V W) : Gathers V0 W xb p n cap weeks v ts where
  kept := h.kept.trans (hk.mono (by have := Go.Ai.lt_of_cell h.c0; omega))
  c0 := kcell hk h.c0
  c1 := kcell hk h.c1
  c2 := kcell hk h.c2
  fr := (World.frozen?_of_block (a := ⟨xb, 2, none⟩) (hk.block xb (Go.Ai.lt_of_cell h.c0))).trans h.fr
  row := by
    obtain ⟨h1, h2⟩ := h.row
    refine ⟨h1, h2.imp id ?_⟩
    rintro ⟨g, cap', cur, e1, e2, e3, e4⟩
    refine ⟨g, cap', cur, e1, e2, (hk.block g ?_).trans e3, e4⟩
    rcases Nat.lt_or_ge g V.heap.size with hlt | hge
    · exact hlt
    · rw [Array.getElem?_eq_none hge] at e3; cases e3
theorem Gathers.own {V0 V : World} {xb n cap : Nat} {p : Option Addr} {weeks : Int} {v : Value} {ts : List Trial} (h : Gathers V0 V xb p n cap weeks v ts) {k : Nat} (hk : k ≤ xb) : v.ownBlock ≠ some k := fun e => by
  have := (h.row.lt k e).1
  omega
theorem Gathers.grew {V0 V wc : World} {xb n cap : Nat} {p : Option Addr} {weeks : Int} {v r : Value} {ts : List Trial} {t : Trial} (h : Gathers V0 V xb p n cap weeks v ts) (hg : Grew V xb v ts t r wc) :
    Gathers V0 (wc.setCell ⟨xb, 2, none⟩ r) xb p n cap weeks r (ts ++ [t]) := by
  obtain ⟨g, cap', rfl, hrow, hgr⟩ := hg
  have hz := Go.Ai.lt_of_cell h.c0
  have hx := h.own (Nat.le_refl xb)
  refine ⟨?_, ?_, ?_, ?_, ?_, ?_⟩
  · refine Below.setCell (p := ⟨xb, 2, none⟩) ?_ (Nat.le_refl xb) _
    exact h.kept.grown hgr (by omega) fun k e => by have := h.row.lt k e; omega
  · exact (cell_set_ne (by omega)).trans (grown_cell hgr hx h.c0)
  · exact (cell_set_ne (by omega)).trans (grown_cell hgr hx h.c1)
  · exact cell_set_eq (grown_cell hgr hx h.c2)
  · have h1 := (World.frozen?_of_block (a := ⟨xb, 2, none⟩) (hgr.block xb hz (Ne.symm hx))).trans h.fr
    rw [World.frozen?_setCell]; exact h1
  · have := ownsRow_set hrow (a := ⟨xb, 2, none⟩) (show xb < xb + 1 by omega) (.slice (some ⟨g, 0, none⟩) (ts.length + 1) cap')
    simpa using this
theorem Gathers.trials {V0 V : World} {xb n cap : Nat} {p : Option Addr} {weeks : Int} {v : Value} {ts : List Trial} (h : Gathers V0 V xb p n cap weeks v ts) : ∃ q capt, v = .slice q ts.length capt ∧ (ts = [] ∨ ∃ b o, q = some ⟨b, o, none⟩ ∧ TrialsAt V b o ts) := by
  have hrow := h.row
  obtain ⟨h1, h2⟩ := h.row
  rcases h2 with ⟨e, h0⟩ | ⟨g, cap', cur, e, _⟩
  · have : ts = [] := List.length_eq_zero_iff.1 h0
    exact ⟨none, 0, by rw [e, h0], .inl this⟩
  · rw [e] at hrow
    exact ⟨some ⟨g, 0, none⟩, cap', e, .inr ⟨g, 0, rfl, trialsAt_own hrow⟩⟩
end Go.Proofs.YtlmmmdjhnenkbaaDoor
set_option linter.all false
namespace Go.Proofs.YtlmmmdjhnenkbaaDoor
open Go.RowKit Go.Sort Go.Rg
set_option maxRecDepth 100000

/-- which lists of numbers are among those that are gone through -/
theorem mem_gen {lo hi : Nat → Int} {boy : Int} {lt : List Trial} {kp : List Int → Bool} : ∀ (d : Nat) (pre x : List Int), x ∈ gen lo hi boy lt kp d pre ↔
    ∃ suf : List Int, suf.length = d ∧ x = pre ++ suf ∧ kp x = true ∧ ∀ i v, suf[i]? = some v → lo (pre.length + i) ≤ v ∧ v ≤ hi (pre.length + i) ∧ fbAt boy lt (pre.length + i) v = false
  | 0, pre, x => by
    unfold gen
    constructor
    · intro h
      by_cases hk : kp pre = true
      · rw [if_pos hk] at h
        have : x = pre := by simpa using h
        subst this
        exact ⟨[], rfl, by simp, hk, fun i v hv => by simp at hv⟩
      · rw [if_neg hk] at h; simp at h
    · rintro ⟨suf, hl, rfl, hk, -⟩
      have : suf = [] := List.length_eq_zero_iff.1 hl
      subst this
      rw [List.append_nil] at hk ⊢
      rw [if_pos hk]; simp
  | d + 1, pre, x => by
    unfold gen
    simp only [List.mem_flatten, List.mem_map, List.mem_range]
    constructor
    · rintro ⟨l, ⟨m, hm, rfl⟩, hx⟩
      by_cases hf : fbAt boy lt pre.length (lo pre.length + (m : Int)) = true
      · rw [if_pos hf] at hx; simp at hx
      · rw [if_neg hf] at hx
        obtain ⟨suf, hl, rfl, hk, hs⟩ := (mem_gen d _ x).1 hx
        refine ⟨(lo pre.length + (m : Int)) :: suf, by simp [hl], by simp, hk, fun i v hv => ?_⟩
        cases i with
        | zero =>
          simp only [List.getElem?_cons_zero, Option.some.injEq] at hv
          subst hv
          refine ⟨by simp only [Nat.add_zero]; omega, by simp only [Nat.add_zero]; omega, by simpa using hf⟩
        | succ i =>
          have := hs i v (by simpa using hv)
          simp only [List.length_append, List.length_cons, List.length_nil] at this
          rw [show pre.length + (i + 1) = pre.length + (0 + 1) + i by omega]
          exact this
    · rintro ⟨suf, hl, rfl, hk, hs⟩
      match suf, hl with
      | v :: suf, hl =>
        have h0 := hs 0 v rfl
        simp only [Nat.add_zero] at h0
        refine ⟨_, ⟨(v - lo pre.length).toNat, by omega, rfl⟩, ?_⟩
        have e : lo pre.length + (((v - lo pre.length).toNat : Nat) : Int) = v := by omega
        rw [e, if_neg (by rw [h0.2.2]; simp)]
        refine (mem_gen d _ _).2 ⟨suf, by simpa using hl, by simp, hk, fun i u hu => ?_⟩
        have := hs (i + 1) u (by simpa using hu)
        simp only [List.length_append, List.length_cons, List.length_nil]
        rw [show pre.length + (0 + 1) + i = pre.length + (i + 1) by omega]
        exact this
theorem mem_truths {B : Book} {boy : Nat} {x : Boy} {n : List Int} : n ∈ B.truths boy x ↔
    n.length = 5 ∧ kpOf B boy x n = true ∧ ∀ i v, n[i]? = some v → x.lo i ≤ v ∧ v ≤ x.hi i ∧ fbAt boy B.trials i v = false := by
  unfold Book.truths
  rw [mem_gen]
  constructor
  · rintro ⟨suf, hl, rfl, hk, hs⟩
    simp only [List.nil_append, List.length_nil, Nat.zero_add] at hk hs ⊢
    exact ⟨hl, hk, hs⟩
  · rintro ⟨hl, hk, hs⟩
    exact ⟨n, hl, by simp, hk, fun i v hv => by simpa using hs i v hv⟩
/-- a book without trials -/
theorem mem_untried {B : Book} (hB : B.trials = []) {boy : Nat} {x : Boy} {n0 n1 n2 n3 n4 : Int} : [n0, n1, n2, n3, n4] ∈ B.truths boy x ↔
    (x.l0 ≤ n0 ∧ n0 ≤ x.l1) ∧ (x.h0 ≤ n1 ∧ n1 ≤ x.h1) ∧ (x.g0 ≤ n2 ∧ n2 ≤ x.g1) ∧ (x.t0 ≤ n3 ∧ n3 ≤ x.t1) ∧ (x.b0 ≤ n4 ∧ n4 ≤ x.b1) := by
  rw [mem_truths]
  have hk : kpOf B boy x [n0, n1, n2, n3, n4] = true := by
    unfold kpOf Book.told
    rw [hB]
    simp
  constructor
  · rintro ⟨-, -, h⟩
    have h0 := h 0 n0 rfl
    have h1 := h 1 n1 rfl
    have h2 := h 2 n2 rfl
    have h3 := h 3 n3 rfl
    have h4 := h 4 n4 rfl
    simp only [Boy.lo, Boy.hi] at h0 h1 h2 h3 h4
    exact ⟨⟨h0.1, h0.2.1⟩, ⟨h1.1, h1.2.1⟩, ⟨h2.1, h2.2.1⟩, ⟨h3.1, h3.2.1⟩, ⟨h4.1, h4.2.1⟩⟩
  · rintro ⟨⟨a0, a1⟩, ⟨b0, b1⟩, ⟨c0, c1⟩, ⟨d0, d1⟩, ⟨e0, e1⟩⟩
    refine ⟨rfl, hk, fun i v hv => ?_⟩
    rw [hB]
    match i, hv with
    | 0, hv => cases hv; exact ⟨a0, a1, rfl⟩
    | 1, hv => cases hv; exact ⟨b0, b1, rfl⟩
    | 2, hv => cases hv; exact ⟨c0, c1, rfl⟩
    | 3, hv => cases hv; exact ⟨d0, d1, rfl⟩
    | 4, hv => cases hv; exact ⟨e0, e1, rfl⟩
theorem can_untried {B : Book} (hok : B.okB = true) (hB : B.trials = []) : Can B := fun boy x hx => by
  obtain ⟨-, hb, -⟩ := okB_boys hok
  obtain ⟨n0, n1, n2, n3, n4⟩ := boy_nums (hb x (List.mem_of_getElem? hx))
  refine List.ne_nil_of_mem ((mem_untried hB (n0 := x.l0) (n1 := x.h0) (n2 := x.g0) (n3 := x.t0) (n4 := x.b0)).2 ?_)
  omega

theorem untried_ok {B : Book} (h : B.okB = true) : (Book.mk B.boys B.weeks []).okB = true := by
  simp only [Book.okB, Bool.and_eq_true] at h ⊢
  exact ⟨⟨⟨⟨h.1.1.1.1, h.1.1.1.2⟩, by simp⟩, h.1.2⟩, rfl⟩
theorem set_ok {B : Book} (h : B.okB = true) {boy : Nat} {y : Boy} (hy : y.okB = true) : (Book.mk (B.boys.set boy y) B.weeks []).okB = true := by
  simp only [Book.okB, Bool.and_eq_true, List.length_set] at h ⊢
  refine ⟨⟨⟨⟨h.1.1.1.1, h.1.1.1.2⟩, by simp⟩, ?_⟩, rfl⟩
  rw [List.all_eq_true]
  intro z hz
  rcases List.mem_or_eq_of_mem_set hz with hz | rfl
  · exact List.all_eq_true.1 h.1.2 z hz
  · exact hy
/-- a boy who is better: who gains more, or loses less, or whose highest note is higher at first -/
structure Better (x y : Boy) : Prop where
  l0 : x.l0 = y.l0
  l1 : x.l1 = y.l1
  t0 : x.t0 = y.t0
  t1 : x.t1 = y.t1
  b0 : x.b0 = y.b0
  b1 : x.b1 = y.b1
  h0 : x.h0 ≤ y.h0
  h1 : x.h1 ≤ y.h1
  g0 : x.g0 ≤ y.g0
  g1 : x.g1 ≤ y.g1
  ls : y.ls ≤ x.ls
theorem ls_ok {x : Boy} (h : x.okB = true) {v : Int} (h1 : 0 ≤ v) (h2 : v ≤ x.ls) : ({ x with ls := v } : Boy).okB = true := by
  have hh := spanAt_ok x h
  simp only [Boy.okB, spanAt, spanB, inB, Bool.and_eq_true, decide_eq_true_eq, Bool.not_eq_true', decide_eq_false_iff_not] at h ⊢
  omega
theorem g_ok {x : Boy} (h : x.okB = true) {u v : Int} (h1 : 0 ≤ u) (h2 : u ≤ v) (h3 : v ≤ 2) (h4 : v - u ≤ 1) : ({ x with g0 := u, g1 := v } : Boy).okB = true := by
  simp only [Boy.okB, spanAt, spanB, inB, Bool.and_eq_true, decide_eq_true_eq, Bool.not_eq_true', decide_eq_false_iff_not] at h ⊢
  omega
theorem h_ok {x : Boy} (h : x.okB = true) {u v : Int} (h1 : 0 ≤ u) (h2 : u ≤ v) (h3 : v ≤ 40) (h4 : v - u ≤ 2) : ({ x with h0 := u, h1 := v } : Boy).okB = true := by
  simp only [Boy.okB, spanAt, spanB, inB, Bool.and_eq_true, decide_eq_true_eq, Bool.not_eq_true', decide_eq_false_iff_not] at h ⊢
  omega
theorem top_mono {h h' g g' t lo lo' wk : Int} (hw : 0 ≤ wk) (ht : 0 ≤ t) (h1 : h ≤ h') (h2 : g ≤ g') (h3 : lo' ≤ lo) : top h g t lo wk ≤ top h' g' t lo' wk := by
  unfold top
  have a := Int.mul_le_mul_of_nonneg_left h2 (show 0 ≤ min wk t by omega)
  have b := Int.mul_le_mul_of_nonneg_left h3 (show 0 ≤ wk - min wk t by omega)
  omega
theorem better_up {x y : Boy} (h : Better x y) (hy : y.okB = true) {n0 n1 n2 n3 n4 : Int} {A B : Book} (hA : A.trials = []) (hB : B.trials = []) {boy : Nat} (hn : [n0, n1, n2, n3, n4] ∈ A.truths boy x) :
    ∃ m1 m2, n1 ≤ m1 ∧ n2 ≤ m2 ∧ [n0, m1, m2, n3, n4] ∈ B.truths boy y := by
  rw [mem_untried hA] at hn
  obtain ⟨a, b, c, d, e⟩ := boy_nums hy
  have := h.l0; have := h.l1; have := h.t0; have := h.t1; have := h.b0; have := h.b1; have := h.h0; have := h.h1; have := h.g0; have := h.g1
  refine ⟨max n1 y.h0, max n2 y.g0, by omega, by omega, (mem_untried hB).2 ?_⟩
  omega
theorem better_down {x y : Boy} (h : Better x y) (hx : x.okB = true) {n0 n1 n2 n3 n4 : Int} {A B : Book} (hA : A.trials = []) (hB : B.trials = []) {boy : Nat} (hn : [n0, n1, n2, n3, n4] ∈ B.truths boy y) :
    ∃ m1 m2, m1 ≤ n1 ∧ m2 ≤ n2 ∧ [n0, m1, m2, n3, n4] ∈ A.truths boy x := by
  rw [mem_untried hB] at hn
  obtain ⟨a, b, c, d, e⟩ := boy_nums hx
  have := h.l0; have := h.l1; have := h.t0; have := h.t1; have := h.b0; have := h.b1; have := h.h0; have := h.h1; have := h.g0; have := h.g1
  refine ⟨min n1 x.h1, min n2 x.g1, by omega, by omega, (mem_untried hA).2 ?_⟩
  omega

/-- what the law says of the better boy -/
structure GainsAt (s0 s1 t0 t1 : Int) (fd gd : Bool) (k m : Int) : Prop where
  e : fd = gd
  a : s0 ≤ t0
  b : s1 ≤ t1
  c : k = 2 → m = 2
  d : k ≠ 0 → m ≠ 0
  k0 : 0 ≤ k
  k2 : k ≤ 2
  m0 : 0 ≤ m
  m2 : m ≤ 2
theorem gains_at {A B : Book} (hA : A.trials = []) (hB : B.trials = []) {boy : Nat} {x y : Boy} (hx : A.boys[boy]? = some x) (hy : B.boys[boy]? = some y) (hxo : x.okB = true) (hyo : y.okB = true) (hb : Better x y) {week note : Int} (hw : 0 ≤ week)
    {s0 s1 t0 t1 k m : Int} {fd gd : Bool} (e1 : spanOf (hiF A boy week) (A.truths boy x) = (s0, s1, fd)) (e2 : spanOf (hiF B boy week) (B.truths boy y) = (t0, t1, gd))
    (e3 : oftenOf (A.truths boy x) (singsN A week note note boy) = k) (e4 : oftenOf (B.truths boy y) (singsN B week note note boy) = m) (hne : A.truths boy x ≠ []) : GainsAt s0 s1 t0 t1 fd gd k m := by
  have hlA : lossOf A boy = x.ls := by simp [lossOf, hx]
  have hlB : lossOf B boy = y.ls := by simp [lossOf, hy]
  obtain ⟨-, -, -, hto, -⟩ := boy_nums hxo
  have up : ∀ n ∈ A.truths boy x, ∃ m ∈ B.truths boy y, (hiF A boy week n).2 = (hiF B boy week m).2 ∧ (hiF A boy week n).1 ≤ (hiF B boy week m).1 ∧ n.getD 0 0 = m.getD 0 0 := by
    intro n hn
    obtain ⟨n0, n1, n2, n3, n4, rfl⟩ := truths_len hn
    obtain ⟨m1, m2, h1, h2, hm⟩ := better_up hb hyo hA hB hn
    have hr := (mem_untried hA).1 hn
    refine ⟨_, hm, rfl, ?_, rfl⟩
    simp only [hiF, hlA, hlB]
    exact top_mono hw (by simp; omega) h1 h2 hb.ls
  have down : ∀ m ∈ B.truths boy y, ∃ n ∈ A.truths boy x, (hiF A boy week n).2 = (hiF B boy week m).2 ∧ (hiF A boy week n).1 ≤ (hiF B boy week m).1 ∧ n.getD 0 0 = m.getD 0 0 := by
    intro m hm
    obtain ⟨n0, n1, n2, n3, n4, rfl⟩ := truths_len hm
    obtain ⟨m1, m2, h1, h2, hn⟩ := better_down hb hxo hA hB hm
    have hr := (mem_untried hA).1 hn
    refine ⟨_, hn, rfl, ?_, rfl⟩
    simp only [hiF, hlA, hlB]
    exact top_mono hw (by simp; omega) h1 h2 hb.ls
  have sing : ∀ {n m : List Int}, (hiF A boy week n).2 = (hiF B boy week m).2 → (hiF A boy week n).1 ≤ (hiF B boy week m).1 → n.getD 0 0 = m.getD 0 0 → singsN A week note note boy n = true → singsN B week note note boy m = true := by
    intro n m h1 h2 h3 h
    rw [singsN_iff] at h ⊢
    rw [← h1, ← h3]
    exact ⟨h.1, h.2.1, by omega⟩
  obtain ⟨k0, k2⟩ := often_rng (A.truths boy x) (singsN A week note note boy)
  obtain ⟨m0, m2⟩ := often_rng (B.truths boy y) (singsN B week note note boy)
  rw [e3] at k0 k2
  rw [e4] at m0 m2
  have hfg : fd = gd ∧ s0 ≤ t0 ∧ s1 ≤ t1 := by
    by_cases hc : ∃ n ∈ A.truths boy x, (hiF A boy week n).2 = true
    · obtain ⟨p0, p1, f1, _, p3, ⟨pm, pm1, pm2, pm3⟩, ⟨pM, pM1, pM2, pM3⟩⟩ := spanOf_some _ _ hc
      have hc' : ∃ m ∈ B.truths boy y, (hiF B boy week m).2 = true := by
        obtain ⟨n, hn, ht⟩ := hc
        obtain ⟨m, hm, g1, _⟩ := up n hn
        exact ⟨m, hm, g1 ▸ ht⟩
      obtain ⟨q0, q1, f2, _, q3, ⟨qm, qm1, qm2, qm3⟩, ⟨qM, qM1, qM2, qM3⟩⟩ := spanOf_some _ _ hc'
      rw [e1] at f1; cases f1
      rw [e2] at f2; cases f2
      refine ⟨rfl, ?_, ?_⟩
      · obtain ⟨n, hn, g1, g2, _⟩ := down qm qm1
        have := (p3 n hn (g1.trans qm2)).1
        omega
      · obtain ⟨m, hm, g1, g2, _⟩ := up pM pM1
        have := (q3 m hm (g1.symm.trans pM2)).2
        omega
    · have hc' : ¬ ∃ m ∈ B.truths boy y, (hiF B boy week m).2 = true := by
        rintro ⟨m, hm, ht⟩
        obtain ⟨n, hn, g1, _⟩ := down m hm
        exact hc ⟨n, hn, g1.trans ht⟩
      have f1 := spanOf_none (hiF A boy week) (A.truths boy x) (fun n hn => by
        cases h : (hiF A boy week n).2 with
        | false => rfl
        | true => exact absurd ⟨n, hn, h⟩ hc)
      have f2 := spanOf_none (hiF B boy week) (B.truths boy y) (fun n hn => by
        cases h : (hiF B boy week n).2 with
        | false => rfl
        | true => exact absurd ⟨n, hn, h⟩ hc')
      rw [e1] at f1; cases f1
      rw [e2] at f2; cases f2
      exact ⟨rfl, by omega, by omega⟩
  refine ⟨hfg.1, hfg.2.1, hfg.2.2, fun hk => ?_, fun hk => ?_, k0, k2, m0, m2⟩
  · have hall : ∀ n ∈ A.truths boy x, singsN A week note note boy n = true := by
      rw [← e3] at hk
      unfold oftenOf at hk
      by_cases h : (A.truths boy x).all (singsN A week note note boy) = true
      · exact List.all_eq_true.1 h
      · rw [if_neg h] at hk
        split at hk <;> simp at hk
    rw [← e4]
    refine often_two fun m hm => ?_
    obtain ⟨n, hn, g1, g2, g3⟩ := down m hm
    exact sing g1 g2 g3 (hall n hn)
  · have hany : ∃ n ∈ A.truths boy x, singsN A week note note boy n = true := by
      refine Classical.byContradiction fun hc => hk ?_
      rw [← e3]
      exact often_zero hne fun n hn => by
        cases h : singsN A week note note boy n with
        | false => rfl
        | true => exact absurd ⟨n, hn, h⟩ hc
    obtain ⟨n, hn, hs⟩ := hany
    obtain ⟨m, hm, g1, g2, g3⟩ := up n hn
    rw [← e4]
    exact often_pos hm (sing g1 g2 g3 hs)
end Go.Proofs.YtlmmmdjhnenkbaaDoor
set_option linter.all false
namespace Go.Proofs.YtlmmmdjhnenkbaaDoor
open Go.RowKit Go.Sort Go.Rg
set_option maxRecDepth 100000

theorem gen_congr {lo hi : Nat → Int} {boy : Int} {lt lt' : List Trial} {kp kp' : List Int → Bool} (h1 : ∀ i v, fbAt boy lt i v = fbAt boy lt' i v) (h2 : ∀ n, kp n = kp' n) : ∀ (d : Nat) (pre : List Int), gen lo hi boy lt kp d pre = gen lo hi boy lt' kp' d pre
  | 0, pre => by unfold gen; rw [h2]
  | d + 1, pre => by
    unfold gen
    simp only [h1, gen_congr h1 h2 d]
/-- fewer trials: more truths -/
theorem truths_mono {A B : Book} (hw : A.weeks = B.weeks) (ht : ∀ t, t ∈ A.trials → t ∈ B.trials) {boy : Nat} {x : Boy} {n : List Int} (h : n ∈ B.truths boy x) : n ∈ A.truths boy x := by
  rw [mem_truths] at h ⊢
  obtain ⟨h1, h2, h3⟩ := h
  refine ⟨h1, ?_, fun i v hv => ⟨(h3 i v hv).1, (h3 i v hv).2.1, ?_⟩⟩
  · unfold kpOf at h2 ⊢
    rw [hw]
    rw [List.all_eq_true] at h2 ⊢
    intro wk hwk
    have := h2 wk hwk
    simp only [Bool.not_eq_true', List.any_eq_false] at this ⊢
    intro t ht'
    refine this t ?_
    simp only [Book.told, List.mem_filter] at ht' ⊢
    exact ⟨ht t ht'.1, ht'.2⟩
  · have := (h3 i v hv).2.2
    unfold fbAt at this ⊢
    rw [List.any_eq_false] at this ⊢
    exact fun t ht' => this t (ht t ht')
theorem can_mono {A B : Book} (hb : A.boys = B.boys) (hw : A.weeks = B.weeks) (ht : ∀ t, t ∈ A.trials → t ∈ B.trials) (h : Can B) : Can A := fun boy x hx => by
  rw [hb] at hx
  obtain ⟨n, hn⟩ := List.exists_mem_of_ne_nil _ (h boy x hx)
  exact List.ne_nil_of_mem (truths_mono hw ht hn)

/-- the book with the trials of one boy alone -/
def ownT (B : Book) (boy : Nat) : List Trial := B.trials.filter fun t => decide (t.boy = (boy : Int))
def apart (B : Book) (boy : Nat) : Book := ⟨B.boys, B.weeks, ownT B boy⟩
theorem apart_truths (B : Book) (boy : Nat) (x : Boy) : (apart B boy).truths boy x = B.truths boy x := by
  unfold Book.truths
  refine gen_congr (fun i v => ?_) (fun n => ?_) 5 []
  · unfold fbAt apart ownT
    simp only [List.any_filter]
    congr 1
    funext t
    unfold forbidsB
    cases decide (t.boy = (boy : Int)) <;> simp
  · unfold kpOf apart Book.told ownT
    simp only [List.filter_filter]
    congr 1
    funext wk
    congr 2
    refine List.filter_congr fun t _ => ?_
    cases decide (t.boy = (boy : Int)) <;> simp
theorem apart_ok {B : Book} (h : B.okB = true) (boy : Nat) : (apart B boy).okB = true := by
  simp only [Book.okB, Bool.and_eq_true, decide_eq_true_eq, List.all_eq_true] at h ⊢
  refine ⟨⟨⟨⟨h.1.1.1.1, h.1.1.1.2⟩, ?_⟩, h.1.2⟩, fun t ht => h.2 t (List.mem_filter.1 ht).1⟩
  have := List.length_filter_le (fun t => decide (t.boy = (boy : Int))) B.trials
  show (B.trials.filter _).length ≤ 6
  omega
theorem apart_can {B : Book} (h : Can B) (boy : Nat) : Can (apart B boy) := can_mono (A := apart B boy) (B := B) rfl rfl (fun t ht => (List.mem_filter.1 (show t ∈ B.trials.filter (fun t => decide (t.boy = (boy : Int))) from ht)).1) h
theorem ownT_step (B : Book) (boy j : Nat) (t : Trial) (ht : B.trials[j]? = some t) : (B.trials.take (j + 1)).filter (fun t => decide (t.boy = (boy : Int))) = (B.trials.take j).filter (fun t => decide (t.boy = (boy : Int))) ++ (if t.boy = (boy : Int) then [t] else []) := by
  rw [List.take_succ, ht, List.filter_append]
  congr 1
  simp only [Option.toList_some, List.filter_cons, List.filter_nil, decide_eq_true_eq]

/-- one trial more: what is told is part of what was told -/
structure MoreAt (lo0 lo1 lo0' lo1' : Int) : Prop where
  a : lo0 ≤ lo0'
  b : lo1' ≤ lo1
theorem span_sub {f : List Int → Int × Bool} {l l' : List (List Int)} (hs : ∀ n ∈ l', n ∈ l) {a b a' b' : Int} {fd : Bool} (e1 : spanOf f l = (a, b, fd)) (e2 : spanOf f l' = (a', b', true)) : fd = true ∧ a ≤ a' ∧ b' ≤ b ∧ a' ≤ b' := by
  have hy : ∃ n ∈ l', (f n).2 = true := by
    refine Classical.byContradiction fun hc => ?_
    have := spanOf_none f l' (fun n hn => by
      cases h : (f n).2 with
      | false => rfl
      | true => exact absurd ⟨n, hn, h⟩ hc)
    rw [this] at e2; cases e2
  have hx : ∃ n ∈ l, (f n).2 = true := by
    obtain ⟨n, hn, h⟩ := hy
    exact ⟨n, hs n hn, h⟩
  obtain ⟨p0, p1, f1, p2, p3, -, -⟩ := spanOf_some _ _ hx
  obtain ⟨q0, q1, f2, q2, q3, ⟨m, m1, m2, m3⟩, ⟨M, M1, M2, M3⟩⟩ := spanOf_some _ _ hy
  rw [e1] at f1; cases f1
  rw [e2] at f2; cases f2
  have := p3 m (hs m m1) m2
  have := p3 M (hs M M1) M2
  exact ⟨rfl, by omega, by omega, q2⟩
end Go.Proofs.YtlmmmdjhnenkbaaDoor
set_option linter.all false
namespace Go.Proofs.YtlmmmdjhnenkbaaDoor
open Go.RowKit Go.Sort Go.Rg
set_option maxRecDepth 100000

/-- can the book be true? -/
def RightP (B : Book) (W : World) (e : Ending) (C : World) : Prop :=
  ∃ r : Bool, e = .returned (.tuple #[.bool r, .int .i64 0]) ∧ Kept W C ∧ (r = true ↔ Can B)

set_option maxHeartbeats 4000000 in
theorem right_any (p q : Option Addr) (cap capt : Nat) (B : Book) (W : World) (h : BookAt W p q cap capt B) (hg : Nothing W) (hok : B.okB = true) :
    Calls Tryd.prog 9 #[B.val p q cap capt] W (RightP B W) := by
  unfold Book.val
  have hk0 : Kept W (W.alloc (Obj.cells #[.slice p B.boys.length cap, .int .i64 B.weeks, .slice q B.trials.length capt] 25)) := kept_alloc (kept_refl _) _
  have a0 : (W.alloc (Obj.cells #[.slice p B.boys.length cap, .int .i64 B.weeks, .slice q B.trials.length capt] 25)).cell? ⟨W.heap.size, 0, none⟩ = some (.slice p B.boys.length cap) := by go_simp
  have a1 : (W.alloc (Obj.cells #[.slice p B.boys.length cap, .int .i64 B.weeks, .slice q B.trials.length capt] 25)).cell? ⟨W.heap.size, 1, none⟩ = some (.int .i64 B.weeks) := by go_simp
  have a2 : (W.alloc (Obj.cells #[.slice p B.boys.length cap, .int .i64 B.weeks, .slice q B.trials.length capt] 25)).cell? ⟨W.heap.size, 2, none⟩ = some (.slice q B.trials.length capt) := by go_simp
  go_enter Tryd.func9, Tryd.ntmps9
  go_wp2_with fail
  generalize W.alloc (Obj.cells #[.slice p B.boys.length cap, .int .i64 B.weeks, .slice q B.trials.length capt] 25) = W1 at *
  refine (check_any p q cap capt B _ (h.kept hk0)).mono ?_
  rintro e W2 ⟨rfl, hk2⟩
  have hkW2 := kept_trans hk0 hk2
  replace a0 := kcell hk2 a0
  replace a1 := kcell hk2 a1
  replace a2 := kcell hk2 a2
  simp only [hok, if_true]
  go_wp2_with fail
  refine (newChoir_any p q cap capt B W W2 hok h hkW2).mono ?_
  rintro e W3 ⟨c, hcB, rfl, hk3, hat⟩
  have hcan := canBeTrue_any _ c W3 hat (fun b hb => hb.1) (hg.kept (kept_trans hkW2 hk3))
  have HCAN := Lib.hid hcan; clear hcan
  generalize hcv : c.val = cv at *
  go_wp2_with fail
  refine HCAN.out.mono ?_
  rintro e W4 ⟨r, hr, rfl, hk4⟩
  go_wp2_with fail
  refine bodyPost_ret (v := .tuple #[.bool r, .int .i64 0]) (by simp [results, Tryd.results9, go_sem]) rfl ?_
  subst hcB
  exact ⟨r, rfl, kept_trans (kept_trans hkW2 hk3) hk4, hr⟩
end Go.Proofs.YtlmmmdjhnenkbaaDoor
set_option linter.all false
namespace Go.Proofs.YtlmmmdjhnenkbaaDoor
open Go.RowKit Go.Sort Go.Rg
set_option maxRecDepth 100000

/-- what is told of a boy if the book can be true -/
def sLo (B : Book) (boy : Nat) (x : Boy) : Int × Int × Bool := spanOf (fun n => (n.getD 0 0, true)) (B.truths boy x)
def sBr (B : Book) (boy : Nat) (x : Boy) : Int × Int × Bool := spanOf (fun n => (n.getD 4 0, true)) (B.truths boy x)
def sHi (B : Book) (boy : Nat) (week : Int) (x : Boy) : Int × Int × Bool := spanOf (hiF B boy week) (B.truths boy x)
def sSi (B : Book) (boy : Nat) (week note : Int) (x : Boy) : Int := oftenOf (B.truths boy x) (singsN B week note note boy)

section
variable {p q : Option Addr} {cap capt : Nat} {B : Book} {boy : Nat} {W : World} {x : Boy} {week note : Int}
theorem lowest_can (h : BookAt W p q cap capt B) (hg : Nothing W) (hok : B.okB = true) (hc : Can B) (hx : B.boys[boy]? = some x) :
    Calls Tryd.prog 11 #[B.val p q cap capt, .int .i64 (boy : Int)] W fun e C => e = .returned (.tuple #[.agg #[.int .i64 (sLo B boy x).1, .int .i64 (sLo B boy x).2.1], .int .i64 0]) ∧ Kept W C := by
  refine (lowest_any p q cap capt B boy W h hg hok (List.getElem?_eq_some_iff.1 hx).1).mono ?_
  rintro e C ⟨lo, hi, err, rfl, hk, ⟨rfl, _, x', hx', rfl, rfl⟩ | ⟨_, hn, _⟩⟩
  · rw [hx] at hx'; cases hx'; exact ⟨rfl, hk⟩
  · exact absurd hc hn
theorem breaks_can (h : BookAt W p q cap capt B) (hg : Nothing W) (hok : B.okB = true) (hc : Can B) (hx : B.boys[boy]? = some x) :
    Calls Tryd.prog 12 #[B.val p q cap capt, .int .i64 (boy : Int)] W fun e C => e = .returned (.tuple #[.agg #[.int .i64 (sBr B boy x).1, .int .i64 (sBr B boy x).2.1], .int .i64 0]) ∧ Kept W C := by
  refine (breaks_any p q cap capt B boy W h hg hok (List.getElem?_eq_some_iff.1 hx).1).mono ?_
  rintro e C ⟨lo, hi, err, rfl, hk, ⟨rfl, _, x', hx', rfl, rfl⟩ | ⟨_, hn, _⟩⟩
  · rw [hx] at hx'; cases hx'; exact ⟨rfl, hk⟩
  · exact absurd hc hn
theorem highest_can (h : BookAt W p q cap capt B) (hg : Nothing W) (hok : B.okB = true) (hc : Can B) (hx : B.boys[boy]? = some x) (hw : 0 ≤ week ∧ week < B.weeks) :
    Calls Tryd.prog 15 #[B.val p q cap capt, .int .i64 (boy : Int), .int .i64 week] W fun e C => e = .returned (.tuple #[.agg #[.int .i64 (sHi B boy week x).1, .int .i64 (sHi B boy week x).2.1], .int .i64 (if (sHi B boy week x).2.2 then 0 else 4)]) ∧ Kept W C := by
  refine (highest_all p q cap capt B boy week W h hg hok (List.getElem?_eq_some_iff.1 hx).1 hw).mono ?_
  rintro e C ⟨lo, hi, err, rfl, hk, ⟨_, x', fd, hx', e1, rfl⟩ | ⟨_, hn, _⟩⟩
  · rw [hx] at hx'; cases hx'
    refine ⟨?_, hk⟩
    unfold sHi
    rw [e1]
  · exact absurd hc hn
theorem sings_can (h : BookAt W p q cap capt B) (hg : Nothing W) (hok : B.okB = true) (hc : Can B) (hx : B.boys[boy]? = some x) (hw : 0 ≤ week ∧ week < B.weeks) (hn : 0 ≤ note ∧ note ≤ 40) :
    Calls Tryd.prog 13 #[B.val p q cap capt, .int .i64 (boy : Int), .int .i64 week, .int .i64 note] W fun e C => e = .returned (.tuple #[.int .i64 (sSi B boy week note x), .int .i64 0]) ∧ Kept W C := by
  refine (sings_all p q cap capt B boy week note W h hg hok (List.getElem?_eq_some_iff.1 hx).1 hw hn).mono ?_
  rintro e C ⟨v, err, rfl, hk, ⟨rfl, _, x', hx', rfl⟩ | ⟨_, hn, _⟩⟩
  · rw [hx] at hx'; cases hx'; exact ⟨rfl, hk⟩
  · exact absurd hc hn
end
theorem apart_sLo (B : Book) (boy : Nat) (x : Boy) : sLo (apart B boy) boy x = sLo B boy x := by unfold sLo; rw [apart_truths]
theorem apart_sBr (B : Book) (boy : Nat) (x : Boy) : sBr (apart B boy) boy x = sBr B boy x := by unfold sBr; rw [apart_truths]
theorem apart_sHi (B : Book) (boy : Nat) (week : Int) (x : Boy) : sHi (apart B boy) boy week x = sHi B boy week x := by unfold sHi; rw [apart_truths]; rfl
theorem apart_sSi (B : Book) (boy : Nat) (week note : Int) (x : Boy) : sSi (apart B boy) boy week note x = sSi B boy week note x := by unfold sSi; rw [apart_truths]; rfl
theorem eqSab (a b : Int) (w : World) : (Op.equalIn 10000 38 (.agg #[.int .i64 a, .int .i64 b]) (.agg #[.int .i64 a, .int .i64 b])).run Tryd.prog w = .ok true w := by
  have h := run_equalIn_struct (P := Tryd.prog) w 9999 38 #[.int .i64 a, .int .i64 b] #[.int .i64 a, .int .i64 b] (by kernel_rfl) (by kernel_rfl)
  refine h.trans ?_
  go_simp
end Go.Proofs.YtlmmmdjhnenkbaaDoor
set_option linter.all false
namespace Go.Proofs.YtlmmmdjhnenkbaaDoor
open Go.RowKit Go.Sort Go.Rg
set_option maxRecDepth 100000

set_option maxHeartbeats 4000000 in
theorem apart_false (p q : Option Addr) (cap capt : Nat) (B : Book) (n0 n1 n2 : Int) (W : World) (h : BookAt W p q cap capt B) (hg : Nothing W) (hok : B.okB = false) :
    Calls Tryd.prog 4 #[B.val p q cap capt, .agg #[.int .i64 n0, .int .i64 n1, .int .i64 n2]] W fun e C => e = .returned (.bool true) ∧ Kept W C := by
  have hk0 : Kept W ((W.alloc (Obj.cells #[.slice p B.boys.length cap, .int .i64 B.weeks, .slice q B.trials.length capt] 25)).alloc (Obj.cells #[.int .i64 n0, .int .i64 n1, .int .i64 n2] 28)) := kept_alloc (kept_alloc (kept_refl _) _) _
  have hcall := small_any p q cap capt B _ (h.kept hk0)
  rw [hok] at hcall
  unfold Book.val at hcall ⊢
  have HC := Lib.hid hcall; clear hcall
  go_enter Tryd.func4, Tryd.ntmps4
  go_wp2_with fail
  generalize (W.alloc (Obj.cells #[.slice p B.boys.length cap, .int .i64 B.weeks, .slice q B.trials.length capt] 25)).alloc (Obj.cells #[.int .i64 n0, .int .i64 n1, .int .i64 n2] 28) = W0 at *
  refine HC.out.mono ?_
  rintro e w2 ⟨rfl, hk2⟩
  have hk02 := kept_trans hk0 hk2
  have HS := Lib.hid (sung_is w2 (h.laid.kept hk02) (hg.kept hk02))
  go_wp2_with fail
  refine HS.out.mono ?_
  rintro e w3 ⟨rfl, hk3⟩
  go_wp2_with fail
  go_ret
  exact ⟨rfl, kept_trans hk02 hk3⟩

set_option maxHeartbeats 100000000 in
theorem apart_true (p q : Option Addr) (cap capt : Nat) (B : Book) (n0 n1 n2 : Int) (W : World) (h : BookAt W p q cap capt B) (hg : Nothing W) (hok : B.okB = true) :
    Calls Tryd.prog 4 #[B.val p q cap capt, .agg #[.int .i64 n0, .int .i64 n1, .int .i64 n2]] W fun e C => e = .returned (.bool true) ∧ Kept W C := by
  obtain ⟨⟨q1, q2, q3, q4, q5⟩, -, -⟩ := okB_boys hok
  have hk0 : Kept W ((W.alloc (Obj.cells #[.slice p B.boys.length cap, .int .i64 B.weeks, .slice q B.trials.length capt] 25)).alloc (Obj.cells #[.int .i64 n0, .int .i64 n1, .int .i64 n2] 28)) := kept_alloc (kept_alloc (kept_refl _) _) _
  have hcall := small_any p q cap capt B _ (h.kept hk0)
  rw [hok] at hcall
  unfold Book.val at hcall ⊢
  have HC := Lib.hid hcall; clear hcall
  have a0c : ((W.alloc (Obj.cells #[.slice p B.boys.length cap, .int .i64 B.weeks, .slice q B.trials.length capt] 25)).alloc (Obj.cells #[.int .i64 n0, .int .i64 n1, .int .i64 n2] 28)).cell? ⟨W.heap.size, 0, none⟩ = some (.slice p B.boys.length cap) := by go_simp
  have a1c : ((W.alloc (Obj.cells #[.slice p B.boys.length cap, .int .i64 B.weeks, .slice q B.trials.length capt] 25)).alloc (Obj.cells #[.int .i64 n0, .int .i64 n1, .int .i64 n2] 28)).cell? ⟨W.heap.size, 1, none⟩ = some (.int .i64 B.weeks) := by go_simp
  have a2c : ((W.alloc (Obj.cells #[.slice p B.boys.length cap, .int .i64 B.weeks, .slice q B.trials.length capt] 25)).alloc (Obj.cells #[.int .i64 n0, .int .i64 n1, .int .i64 n2] 28)).cell? ⟨W.heap.size, 2, none⟩ = some (.slice q B.trials.length capt) := by go_simp
  have b0c : ((W.alloc (Obj.cells #[.slice p B.boys.length cap, .int .i64 B.weeks, .slice q B.trials.length capt] 25)).alloc (Obj.cells #[.int .i64 n0, .int .i64 n1, .int .i64 n2] 28)).cell? ⟨W.heap.size + 1, 0, none⟩ = some (.int .i64 n0) := by go_simp
  have b1c : ((W.alloc (Obj.cells #[.slice p B.boys.length cap, .int .i64 B.weeks, .slice q B.trials.length capt] 25)).alloc (Obj.cells #[.int .i64 n0, .int .i64 n1, .int .i64 n2] 28)).cell? ⟨W.heap.size + 1, 1, none⟩ = some (.int .i64 n1) := by go_simp
  have b2c : ((W.alloc (Obj.cells #[.slice p B.boys.length cap, .int .i64 B.weeks, .slice q B.trials.length capt] 25)).alloc (Obj.cells #[.int .i64 n0, .int .i64 n1, .int .i64 n2] 28)).cell? ⟨W.heap.size + 1, 2, none⟩ = some (.int .i64 n2) := by go_simp
  go_enter Tryd.func4, Tryd.ntmps4
  go_wp2_with fail
  generalize (W.alloc (Obj.cells #[.slice p B.boys.length cap, .int .i64 B.weeks, .slice q B.trials.length capt] 25)).alloc (Obj.cells #[.int .i64 n0, .int .i64 n1, .int .i64 n2] 28) = W0 at *
  refine HC.out.mono ?_
  rintro e w2 ⟨rfl, hk2⟩
  have hk02 := kept_trans hk0 hk2
  have a0d := kcell hk2 a0c
  have a1d := kcell hk2 a1c
  have a2d := kcell hk2 a2c
  have b0d := kcell hk2 b0c
  have b1d := kcell hk2 b1c
  have b2d := kcell hk2 b2c
  have a0r : ∀ d os, (grow (redrawn w2 d) os).cell? ⟨W.heap.size, 0, none⟩ = some (.slice p B.boys.length cap) := cell_regrown a0d
  have a1r : ∀ d os, (grow (redrawn w2 d) os).cell? ⟨W.heap.size, 1, none⟩ = some (.int .i64 B.weeks) := cell_regrown a1d
  have a2r : ∀ d os, (grow (redrawn w2 d) os).cell? ⟨W.heap.size, 2, none⟩ = some (.slice q B.trials.length capt) := cell_regrown a2d
  have b0r : ∀ d os, (grow (redrawn w2 d) os).cell? ⟨W.heap.size + 1, 0, none⟩ = some (.int .i64 n0) := cell_regrown b0d
  have b1r : ∀ d os, (grow (redrawn w2 d) os).cell? ⟨W.heap.size + 1, 1, none⟩ = some (.int .i64 n1) := cell_regrown b1d
  have b2r : ∀ d os, (grow (redrawn w2 d) os).cell? ⟨W.heap.size + 1, 2, none⟩ = some (.int .i64 n2) := cell_regrown b2d
  have ht0 : ∀ d os, Calls Tryd.prog 10 #[.int .i64 n0, .int .i64 (B.boys.length : Int)] (grow (redrawn w2 d) os) fun e w'' => e = .returned (.int .i64 (turnI n0 (B.boys.length : Int))) ∧ ∃ p : Regrown, w'' = grow (redrawn w2 p.d) p.os := fun d os => Calls.regrown_of ((turn_is n0 (B.boys.length : Int) (by omega) (by omega) _).mono (by rintro e w' ⟨rfl, rfl⟩; exact ⟨rfl, kept_refl _⟩))
  have ht1 : ∀ d os, Calls Tryd.prog 10 #[.int .i64 n1, .int .i64 B.weeks] (grow (redrawn w2 d) os) fun e w'' => e = .returned (.int .i64 (turnI n1 B.weeks)) ∧ ∃ p : Regrown, w'' = grow (redrawn w2 p.d) p.os := fun d os => Calls.regrown_of ((turn_is n1 B.weeks (by omega) (by omega) _).mono (by rintro e w' ⟨rfl, rfl⟩; exact ⟨rfl, kept_refl _⟩))
  have ht2 : ∀ d os, Calls Tryd.prog 10 #[.int .i64 n2, .int .i64 41] (grow (redrawn w2 d) os) fun e w'' => e = .returned (.int .i64 (turnI n2 41)) ∧ ∃ p : Regrown, w'' = grow (redrawn w2 p.d) p.os := fun d os => Calls.regrown_of ((turn_is n2 41 (by omega) (by omega) _).mono (by rintro e w' ⟨rfl, rfl⟩; exact ⟨rfl, kept_refl _⟩))
  obtain ⟨k3, k4⟩ := turnI_lt n0 (B.boys.length : Int) (by omega)
  obtain ⟨k1, k2⟩ := turnI_lt n1 B.weeks (by omega)
  obtain ⟨k5, k6⟩ := turnI_lt n2 41 (by omega)
  generalize turnI n1 B.weeks = week at *
  generalize turnI n2 41 = note at *
  obtain ⟨boy, hboy⟩ := Int.eq_ofNat_of_zero_le k3
  rw [hboy] at ht0 k4
  have hbl : boy < B.boys.length := by omega
  have HT0 := Lib.hid ht0
  have HT1 := Lib.hid ht1
  have HT2 := Lib.hid ht2
  clear ht0 ht1 ht2 hboy k3 k4
  have HB := Lib.hid h
  have HG := Lib.hid hg
  clear h hg HC
  go_wp2_with fail
  refine wp_region_quiet_below (by kernel_rfl) (by kernel_rfl) ?_
  repeat (any_goals (first | go_big_quiet_skip | quiet_step (first | with_reducible exact HT0.out _ _ | with_reducible exact HT1.out _ _ | with_reducible exact HT2.out _ _)))
  refine wpQuiet_nil ?_
  intro _ hw'
  obtain ⟨⟨dq, osq⟩, hw''⟩ := hw'
  subst hw''
  have hk03 := kept_trans hk02 (below_regrown w2 dq osq)
  have s0 := kcell (below_regrown w2 dq osq) a0d
  have s1 := kcell (below_regrown w2 dq osq) a1d
  have s2 := kcell (below_regrown w2 dq osq) a2d
  generalize grow (redrawn w2 dq) osq = V3 at *
  clear a0d a1d a2d b0d b1d b2d a0r a1r a2r b0r b1r b2r a0c a1c a2c b0c b1c b2c HT0 HT1 HT2
  have zs := Go.Ai.lt_of_cell s0
  have hG0 : Gathers V3 (V3.alloc (Obj.cells #[.slice p B.boys.length cap, .int .i64 B.weeks, .slice none 0 0] 25)) V3.heap.size p B.boys.length cap B.weeks (.slice none 0 0) [] := ⟨kept_alloc (kept_refl _) _, by go_simp, by go_simp, by go_simp, by go_simp, World.ownsRow_nil _ _ _ _⟩
  go_wp2_with fail
  go_loopw [9] (fun i V => ∃ (j : Nat) (v : Value), j ≤ B.trials.length ∧ i = .int .i64 j ∧ Gathers V3 V V3.heap.size p B.boys.length cap B.weeks v ((B.trials.take j).filter fun t => decide (t.boy = (boy : Int)))) (fun i V => B.trials.length - (intOf i).toNat)
  case atStart => exact ⟨0, .slice none 0 0, by omega, rfl, by simpa using hG0⟩
  case round =>
    obtain ⟨j, v, hj, rfl, hG⟩ := hrel
    have a2 := kcell hG.kept s2
    by_cases hlt : j < B.trials.length
    · obtain ⟨bt, ot, rfl, htr⟩ : ∃ b o, q = some ⟨b, o, none⟩ ∧ TrialsAt wr b o B.trials := by
        rcases ((HB.out.kept hk03).kept hG.kept).trials with e | h
        · rw [e] at hlt; cases hlt
        · exact h
      obtain ⟨t, hget⟩ : ∃ t, B.trials[j]? = some t := ⟨_, List.getElem?_eq_getElem hlt⟩
      obtain ⟨d0, d1, d2, d3⟩ := htr.2 j t hget
      have hstep := ownT_step B boy j t hget
      have hltI : (j : Int) < B.trials.length := by omega
      have hxz := Go.Ai.lt_of_cell hG.c0
      have hzq := Go.Ai.lt_of_cell d0
      by_cases hb : t.boy = (boy : Int)
      · rw [if_pos hb] at hstep
        have hgL : ((B.trials.take j).filter fun t => decide (t.boy = (boy : Int))).length ≤ 6 := Nat.le_trans (List.length_filter_le _ _) (by rw [List.length_take]; omega)
        generalize hTS : ((B.trials.take j).filter fun t => decide (t.boy = (boy : Int))) = ts at *
        go_wp2_with fail
        obtain ⟨i0, hi, hiz, his, hib⟩ := info_parts infoT
        obtain ⟨WB, hWB⟩ : ∃ WB, WB = wr.drew.alloc (Obj.cells #[.int .i64 t.boy, .int .i64 t.week, .int .i64 t.note, .int .i64 t.sang] 27) := ⟨_, rfl⟩
        have HKB := Lib.hid (show Kept wr WB from hWB ▸ kept_alloc (kept_drew (kept_refl _)) _)
        have HNEW := Lib.hid (show ∀ (k : Nat) (u : Value), (trialC t)[k]? = some u → WB.cell? ((⟨wr.heap.size, 0, none⟩ : Addr).add k) = some u from trial_news t hWB)
        have HSZ := Lib.hid (show V3.heap.size + 1 ≤ WB.heap.size from by have := HKB.out.size; omega)
        have HRW := Lib.hid (show WB.ownsRow (V3.heap.size + 1) 27 4 v ts.length (ts.flatMap trialC) from (hG.go HKB.out).row)
        have HWB := Lib.hid hWB; clear hWB
        have HBB := Lib.hid hb
        refine (wpIn_wide (n := 0)).1 (wpIn_region_invL (StA 7 8 10 (fun k => match k with | 0 => .pointer (some ⟨V3.heap.size, 2, none⟩) | 1 => v | 2 => .pointer (some ⟨W.heap.size, 2, none⟩) | 3 => .slice (some ⟨bt, ot, none⟩) B.trials.length capt | 4 => .int .i64 (j : Int) | 5 => .pointer (some ⟨bt, ot + j * 4, none⟩) | 6 => t.val | 7 => .slice (some ⟨wr.heap.size, 0, none⟩) 1 1 | _ => .pointer (some ⟨V3.heap.size, 2, none⟩)) wr WB (Grew wr V3.heap.size v ts t) ⟨V3.heap.size, 2, none⟩) (by kernel_rfl) (by kernel_rfl) StA.start ?hop ?hend)
        case hop =>
          clear hb hstep hTS
          rintro i o listed a w hl ho h1 h2 hcl ⟨r, ha, hf, ht⟩
          have hi11 : i < 11 := (List.getElem?_eq_some_iff.1 ho).1
          match i, ho with
          | 0, ho =>
            have n8 : on listed 8 = false := by
              cases b8 : on listed 8 with
              | false => rfl
              | true =>
                have b1 := hcl 8 _ rfl b8 ⟨1, .data⟩ (by simp) rfl
                have b0 := hcl 1 _ rfl b1 ⟨0, .data⟩ (by simp) rfl
                rw [on_no h1] at b0; cases b0
            have kd : Kept wr w := StA_kept hf n8 HKB.out
            have st := StA.pure (by kernel_rfl) ha hf ht ho h1 (by omega) (by omega) (by omega)
            have ST := Lib.hid st; clear st ht hf
            cases ho
            rw [if_pos (by rfl)]
            have t8 := ha.old 8 (by kernel_rfl)
            simp at t8
            go_simp
            exact ST.out
          | 1, ho =>
            have n8 : on listed 8 = false := by
              cases b8 : on listed 8 with
              | false => rfl
              | true =>
                have b1 := hcl 8 _ rfl b8 ⟨1, .data⟩ (by simp) rfl
                rw [on_no h1] at b1; cases b1
            have kd : Kept wr w := StA_kept hf n8 HKB.out
            have st := StA.pure (by kernel_rfl) ha hf ht ho h1 (by omega) (by omega) (by omega)
            have ST := Lib.hid st; clear st ht hf
            cases ho
            rw [if_pos (by rfl)]
            have t57 := ha.new 0 (h2 ⟨0, .data⟩ (by simp) rfl) (d := 57) rfl rfl (by simp)
            simp at t57
            have c0 := kcell kd hG.c2
            go_simp
            exact ST.out
          | 2, ho =>
            have n8 : on listed 8 = false := by
              cases b8 : on listed 8 with
              | false => rfl
              | true =>
                have b7 := hcl 8 _ rfl b8 ⟨7, .data⟩ (by simp) rfl
                have b6 := hcl 7 _ rfl b7 ⟨6, .data⟩ (by simp) rfl
                have b5 := hcl 6 _ rfl b6 ⟨5, .data⟩ (by simp) rfl
                have b3 := hcl 5 _ rfl b5 ⟨3, .data⟩ (by simp) rfl
                have b2 := hcl 3 _ rfl b3 ⟨2, .data⟩ (by simp) rfl
                rw [on_no h1] at b2; cases b2
            have kd : Kept wr w := StA_kept hf n8 HKB.out
            have st := StA.pure (by kernel_rfl) ha hf ht ho h1 (by omega) (by omega) (by omega)
            have ST := Lib.hid st; clear st ht hf
            cases ho
            rw [if_pos (by rfl)]
            have t2 := ha.old 2 (by kernel_rfl)
            simp at t2
            go_simp
            exact ST.out
          | 3, ho =>
            have n8 : on listed 8 = false := by
              cases b8 : on listed 8 with
              | false => rfl
              | true =>
                have b7 := hcl 8 _ rfl b8 ⟨7, .data⟩ (by simp) rfl
                have b6 := hcl 7 _ rfl b7 ⟨6, .data⟩ (by simp) rfl
                have b5 := hcl 6 _ rfl b6 ⟨5, .data⟩ (by simp) rfl
                have b3 := hcl 5 _ rfl b5 ⟨3, .data⟩ (by simp) rfl
                rw [on_no h1] at b3; cases b3
            have kd : Kept wr w := StA_kept hf n8 HKB.out
            have st := StA.pure (by kernel_rfl) ha hf ht ho h1 (by omega) (by omega) (by omega)
            have ST := Lib.hid st; clear st ht hf
            cases ho
            rw [if_pos (by rfl)]
            have t59 := ha.new 2 (h2 ⟨2, .data⟩ (by simp) rfl) (d := 59) rfl rfl (by simp)
            simp at t59
            have c0 := kcell kd a2
            go_simp
            exact ST.out
          | 4, ho =>
            have n8 : on listed 8 = false := by
              cases b8 : on listed 8 with
              | false => rfl
              | true =>
                have b7 := hcl 8 _ rfl b8 ⟨7, .data⟩ (by simp) rfl
                have b6 := hcl 7 _ rfl b7 ⟨6, .data⟩ (by simp) rfl
                have b5 := hcl 6 _ rfl b6 ⟨5, .data⟩ (by simp) rfl
                have b4 := hcl 5 _ rfl b5 ⟨4, .data⟩ (by simp) rfl
                rw [on_no h1] at b4; cases b4
            have kd : Kept wr w := StA_kept hf n8 HKB.out
            have st := StA.pure (by kernel_rfl) ha hf ht ho h1 (by omega) (by omega) (by omega)
            have ST := Lib.hid st; clear st ht hf
            cases ho
            rw [if_pos (by rfl)]
            have t9 := ha.old 9 (by kernel_rfl)
            simp at t9
            go_simp
            exact ST.out
          | 5, ho =>
            have n8 : on listed 8 = false := by
              cases b8 : on listed 8 with
              | false => rfl
              | true =>
                have b7 := hcl 8 _ rfl b8 ⟨7, .data⟩ (by simp) rfl
                have b6 := hcl 7 _ rfl b7 ⟨6, .data⟩ (by simp) rfl
                have b5 := hcl 6 _ rfl b6 ⟨5, .data⟩ (by simp) rfl
                rw [on_no h1] at b5; cases b5
            have kd : Kept wr w := StA_kept hf n8 HKB.out
            have st := StA.pure (by kernel_rfl) ha hf ht ho h1 (by omega) (by omega) (by omega)
            have ST := Lib.hid st; clear st ht hf
            cases ho
            rw [if_pos (by rfl)]
            have t60 := ha.new 3 (h2 ⟨3, .data⟩ (by simp) rfl) (d := 60) rfl rfl (by simp)
            simp at t60
            have t61 := ha.new 4 (h2 ⟨4, .data⟩ (by simp) rfl) (d := 61) rfl rfl (by simp)
            simp at t61
            go_simp
            exact ST.out
          | 6, ho =>
            have n8 : on listed 8 = false := by
              cases b8 : on listed 8 with
              | false => rfl
              | true =>
                have b7 := hcl 8 _ rfl b8 ⟨7, .data⟩ (by simp) rfl
                have b6 := hcl 7 _ rfl b7 ⟨6, .data⟩ (by simp) rfl
                rw [on_no h1] at b6; cases b6
            have kd : Kept wr w := StA_kept hf n8 HKB.out
            have st := StA.pure (by kernel_rfl) ha hf ht ho h1 (by omega) (by omega) (by omega)
            have ST := Lib.hid st; clear st ht hf
            cases ho
            rw [if_pos (by rfl)]
            have t62 := ha.new 5 (h2 ⟨5, .data⟩ (by simp) rfl) (d := 62) rfl rfl (by simp)
            simp at t62
            have c0 := kcell kd d0
            have c1 := kcell kd d1
            have c2 := kcell kd d2
            have c3 := kcell kd d3
            go_simp
            exact ST.out
          | 7, ho =>
            have n8 : on listed 8 = false := by
              cases b8 : on listed 8 with
              | false => rfl
              | true =>
                have b7 := hcl 8 _ rfl b8 ⟨7, .data⟩ (by simp) rfl
                rw [on_no h1] at b7; cases b7
            obtain ⟨hwd, st⟩ := StA.built (s := 10) (X := ⟨V3.heap.size, 2, none⟩) (R := Grew wr V3.heap.size v ts t) (by kernel_rfl) ha hf hl ho h1 (by omega) n8
            have HWD := Lib.hid hwd; clear hwd
            have ST := Lib.hid st; clear st ht hf
            cases ho
            rw [if_pos (by rfl)]
            have t63 := ha.new 6 (h2 ⟨6, .data⟩ (by simp) rfl) (d := 63) rfl rfl (by simp)
            simp at t63
            unfold Trial.val at t63
            go_simp
            rw [HWD.out, show wr.drew.heap.size = wr.heap.size from rfl, ← HWB.out]
            exact ST.out
          | 8, ho =>
            have b1 : on listed 1 = true := h2 ⟨1, .data⟩ (by cases ho; simp) rfl
            have b7 : on listed 7 = true := h2 ⟨7, .data⟩ (by cases ho; simp) rfl
            have n10 : on listed 10 = false := by
              cases b10 : on listed 10 with
              | false => rfl
              | true =>
                have b8 := hcl 10 _ rfl b10 ⟨8, .data⟩ (by simp) rfl
                rw [on_no h1] at b8; cases b8
            obtain ⟨hwd, st⟩ := StA.appended (s := 10) (X := ⟨V3.heap.size, 2, none⟩) (R := Grew wr V3.heap.size v ts t) (by kernel_rfl) ha hf hl ho h1 (by omega) b7 n10
            have t58 : a.eval (.tmp 58) = v := ha.new 1 b1 (d := 58) rfl rfl (by simp)
            have t64 : a.eval (.tmp 64) = .slice (some ⟨wr.heap.size, 0, none⟩) 1 1 := ha.new 7 b7 (d := 64) rfl rfl (by simp)
            have ST := Lib.hid st; clear st ht hf
            subst hwd
            cases ho
            rw [if_pos (by rfl)]
            refine wpIn_append_lies _ (.tmp 58) (.tmp 64) 23 rfl (V3.heap.size + 1) 27 i0 _ 4 32 Tryd.underlying23 hi hiz his hib rfl (by decide) v _ _ t58 HRW.out ⟨wr.heap.size, 0, none⟩ 1 1 (trialC t) t64 rfl HNEW.out (trial_one t) (by omega) (by unfold maxLen; omega) (by omega) HSZ.out ?_
            intro g cap' w' hown hgrow hat hlt3
            exact ST.out _ _ ⟨g, cap', rfl, hown, grownBy_kept HKB.out hgrow⟩
          | 9, ho =>
            have st := StA.pure (by kernel_rfl) ha hf ht ho h1 (by omega) (by omega) (by omega)
            have ST := Lib.hid st; clear st ht hf
            cases ho
            rw [if_pos (by rfl)]
            have t8 := ha.old 8 (by kernel_rfl)
            simp at t8
            go_simp
            exact ST.out
          | 10, ho =>
            have b8 : on listed 8 = true := h2 ⟨8, .data⟩ (by cases ho; simp) rfl
            have b9 : on listed 9 = true := h2 ⟨9, .data⟩ (by cases ho; simp) rfl
            obtain ⟨hr, st⟩ := StA.stored (b := 7) (V := wr) (WB := WB) (by kernel_rfl) ha ht hl ho h1 (by cases ho; rfl) (by omega) b8
            have t65 := ha.new 8 b8 (d := 65) rfl rfl (by simp)
            have t66 := ha.new 9 b9 (d := 66) rfl rfl (by simp)
            simp at t65 t66
            have ST := Lib.hid st; clear st ht hf
            obtain ⟨g, cap', hre, hown, hgr⟩ := hr
            have c2 := grown_cell hgr (hG.own (Nat.le_refl _)) hG.c2
            have cf := (World.frozen?_of_block (a := ⟨V3.heap.size, 2, none⟩) (hgr.block V3.heap.size hxz (Ne.symm (hG.own (Nat.le_refl _))))).trans hG.fr
            clear hown hgr
            cases ho
            rw [if_pos (by rfl)]
            subst hre
            go_simp
            exact ST.out
        case hend =>
          rintro listed a w hall ⟨r, ha, -, ht⟩
          obtain ⟨wc, hR, hw⟩ := ht (hall 8 (by simp))
          rw [show on listed 10 = true from hall 10 (by simp), if_pos rfl] at hw
          subst hw
          have hN := hG.grew hR
          obtain ⟨y, hae⟩ := atSt_mid ha 57 10 (by kernel_rfl) (by simp)
          simp only [List.range, List.range.loop, List.map, List.take_succ_cons, List.take_zero, List.drop_succ_cons, List.drop_zero, List.cons_append, List.nil_append, Nat.reduceAdd] at hae
          subst hae
          clear ha
          refine (by assumption : ∀ a w, Code.wp _ _ _ a w → _) _ _ ?_
          generalize hW9 : wc.setCell ⟨V3.heap.size, 2, none⟩ r = W9 at *
          clear hW9 hR HNEW HSZ HRW HWB HKB
          go_wp2_with fail
          go_roundw
          case rel => exact ⟨j + 1, r, by omega, by go_num, by rw [hstep]; exact hN⟩
          case measure => simp [intOf]; omega
      · rw [if_neg hb, List.append_nil] at hstep
        go_wp2_with fail
        go_roundw
        case rel => exact ⟨j + 1, v, by omega, by go_num, by rw [hstep]; exact hG⟩
        case measure => simp [intOf]; omega
    · have hje : j = B.trials.length := by omega
      subst hje
      rw [List.take_length] at hG
      have a0 := kcell hG.kept s0
      have a1 := kcell hG.kept s1
      have hkN : Kept W wr := kept_trans hk03 hG.kept
      obtain ⟨q', capt', rfl, htr'⟩ := hG.trials
      obtain ⟨x0, x1, x2⟩ := And.intro hG.c0 (And.intro hG.c1 hG.c2)
      have hBB := HB.out.kept hkN
      have hGG := HG.out.kept hkN
      have hlX : (ownT B boy).length ≤ 6 := Nat.le_trans (List.length_filter_le _ _) q5
      have hBX : BookAt wr p q' cap capt' (apart B boy) := ⟨hBB.laid, hBB.nb, (show (ownT B boy).length ≤ _ by omega), hBB.boys, htr'⟩
      have hokX := apart_ok hok boy
      obtain ⟨x, hx⟩ : ∃ x, B.boys[boy]? = some x := ⟨_, List.getElem?_eq_getElem hbl⟩
      have hxX : (apart B boy).boys[boy]? = some x := hx
      obtain ⟨nx, hnx⟩ : ∃ nx, nx = (ownT B boy).length := ⟨_, rfl⟩
      have hval : (apart B boy).val p q' cap capt' = .agg #[.slice p B.boys.length cap, .int .i64 B.weeks, .slice q' nx capt'] := by rw [hnx]; rfl
      have x2 : wr.cell? ⟨V3.heap.size, 2, none⟩ = some (.slice q' nx capt') := by rw [hnx]; exact x2
      have hvalB : B.val p q cap capt = .agg #[.slice p B.boys.length cap, .int .i64 B.weeks, .slice q B.trials.length capt] := rfl
      have hzb := Go.Ai.lt_of_cell a0
      have hzx := Go.Ai.lt_of_cell x0
      clear hG hnx htr' hlX s0 s1 s2 hk0 hk2 hk02 hG0
      have HVB := Lib.hid hvalB
      have HVX := Lib.hid hval
      have HBX := Lib.hid hBX
      have HBB := Lib.hid hBB
      have HGG := Lib.hid hGG
      have HX := Lib.hid hx
      clear hvalB hval hBX hBB hGG hx hxX HB HG
      have h1 := right_any p q cap capt B _ HBB.out HGG.out hok
      rw [HVB.out] at h1
      have H1 := Lib.hid h1; clear h1
      go_wp2_with fail
      refine H1.out.mono ?_
      rintro e V4 ⟨r1, rfl, hk4, hr1⟩
      clear H1
      replace a0 := kcell hk4 a0
      replace a1 := kcell hk4 a1
      replace a2 := kcell hk4 a2
      replace x0 := kcell hk4 x0
      replace x1 := kcell hk4 x1
      replace x2 := kcell hk4 x2
      have hkN := kept_trans hkN hk4
      have HBX := Lib.hid (HBX.out.kept hk4)
      have HBB := Lib.hid (HBB.out.kept hk4)
      have HGG := Lib.hid (HGG.out.kept hk4)
      have h1 := right_any p q' cap capt' (apart B boy) _ HBX.out HGG.out hokX
      rw [HVX.out] at h1
      have H1 := Lib.hid h1; clear h1
      go_wp2_with fail
      refine H1.out.mono ?_
      rintro e V5 ⟨r2, rfl, hk5, hr2⟩
      clear H1
      replace a0 := kcell hk5 a0
      replace a1 := kcell hk5 a1
      replace a2 := kcell hk5 a2
      replace x0 := kcell hk5 x0
      replace x1 := kcell hk5 x1
      replace x2 := kcell hk5 x2
      have hkN := kept_trans hkN hk5
      have HBX := Lib.hid (HBX.out.kept hk5)
      have HBB := Lib.hid (HBB.out.kept hk5)
      have HGG := Lib.hid (HGG.out.kept hk5)
      by_cases hcan : Can B
      · have hcanX := apart_can hcan boy
        obtain rfl : r1 = true := hr1.2 hcan
        obtain rfl : r2 = true := hr2.2 hcanX
        clear hr1 hr2
        have HC := Lib.hid hcan
        have HCX := Lib.hid hcanX
        clear hcan hcanX
        have hxX : (apart B boy).boys[boy]? = some x := HX.out
        have HXX := Lib.hid hxX; clear hxX
        obtain ⟨l0, l1, lf, hEL⟩ : ∃ a b c, sLo B boy x = (a, b, c) := ⟨_, _, _, rfl⟩
        obtain ⟨b0, b1, bf, hEB⟩ : ∃ a b c, sBr B boy x = (a, b, c) := ⟨_, _, _, rfl⟩
        obtain ⟨t0, t1, tf, hET⟩ : ∃ a b c, sHi B boy week x = (a, b, c) := ⟨_, _, _, rfl⟩
        obtain ⟨sk, hES⟩ : ∃ k, sSi B boy week note x = k := ⟨_, rfl⟩
        have EL := Lib.hid hEL; clear hEL
        have EB := Lib.hid hEB; clear hEB
        have ET := Lib.hid hET; clear hET
        obtain ⟨ef, hEF⟩ : ∃ ef : Int, (if tf = true then (0 : Int) else 4) = ef := ⟨_, rfl⟩
        have EF := Lib.hid hEF; clear hEF
        have ES := Lib.hid hES; clear hES
        have hkR : Kept V5 V5 := kept_refl V5
        have h1 := lowest_can (HBB.out.kept hkR) (HGG.out.kept hkR) hok HC.out HX.out
        rw [HVB.out] at h1
        simp only [EL.out] at h1
        have H1 := Lib.hid h1; clear h1
        go_wp2_with fail
        refine H1.out.mono ?_
        rintro e V6 ⟨rfl, hka⟩
        clear H1
        have kb : Kept V6 (V6.alloc (Obj.cells #[.int .i64 l0, .int .i64 l1] 38)) := kept_alloc (kept_refl _) _
        have hkb := kept_trans hka kb
        have hkR := kept_trans hkR hkb
        have hszs := hka.size
        have hsys : (V6.alloc (Obj.cells #[.int .i64 l0, .int .i64 l1] 38)).heap.size = V6.heap.size + 1 := by simp
        replace a0 := kcell hkb a0
        replace a1 := kcell hkb a1
        replace a2 := kcell hkb a2
        replace x0 := kcell hkb x0
        replace x1 := kcell hkb x1
        replace x2 := kcell hkb x2
        have sp0 : (V6.alloc (Obj.cells #[.int .i64 l0, .int .i64 l1] 38)).cell? ⟨V6.heap.size, 0, none⟩ = some (.int .i64 l0) := by go_simp
        have sp1 : (V6.alloc (Obj.cells #[.int .i64 l0, .int .i64 l1] 38)).cell? ⟨V6.heap.size, 1, none⟩ = some (.int .i64 l1) := by go_simp
        have sf : ∀ i, (V6.alloc (Obj.cells #[.int .i64 l0, .int .i64 l1] 38)).frozen? ⟨V6.heap.size, i, none⟩ = false := by intro i; go_simp
        clear hka kb hkb
        have h1 := lowest_can (HBX.out.kept hkR) (HGG.out.kept hkR) hokX HCX.out HXX.out
        rw [HVX.out] at h1
        simp only [apart_sLo, EL.out] at h1
        have H1 := Lib.hid h1; clear h1
        go_wp2_with fail
        generalize (V6.alloc (Obj.cells #[.int .i64 l0, .int .i64 l1] 38)) = V7 at *
        refine H1.out.mono ?_
        rintro e V8 ⟨rfl, hka⟩
        clear H1
        have kb : Kept V8 (V8.alloc (Obj.cells #[.int .i64 l0, .int .i64 l1] 38)) := kept_alloc (kept_refl _) _
        have hkb := kept_trans hka kb
        have hkR := kept_trans hkR hkb
        have hszt := hka.size
        have hsyt : (V8.alloc (Obj.cells #[.int .i64 l0, .int .i64 l1] 38)).heap.size = V8.heap.size + 1 := by simp
        replace a0 := kcell hkb a0
        replace a1 := kcell hkb a1
        replace a2 := kcell hkb a2
        replace x0 := kcell hkb x0
        replace x1 := kcell hkb x1
        replace x2 := kcell hkb x2
        have sf : ∀ i, (V8.alloc (Obj.cells #[.int .i64 l0, .int .i64 l1] 38)).frozen? ⟨V6.heap.size, i, none⟩ = false := fun i => ((kturns hkb (fun _ => False)).frozen (Go.Ai.lt_of_cell sp0) (fun h => h)).trans (sf i)
        replace sp0 := kcell hkb sp0
        replace sp1 := kcell hkb sp1
        have tp0 : (V8.alloc (Obj.cells #[.int .i64 l0, .int .i64 l1] 38)).cell? ⟨V8.heap.size, 0, none⟩ = some (.int .i64 l0) := by go_simp
        have tp1 : (V8.alloc (Obj.cells #[.int .i64 l0, .int .i64 l1] 38)).cell? ⟨V8.heap.size, 1, none⟩ = some (.int .i64 l1) := by go_simp
        have tf : ∀ i, (V8.alloc (Obj.cells #[.int .i64 l0, .int .i64 l1] 38)).frozen? ⟨V8.heap.size, i, none⟩ = false := by intro i; go_simp
        clear hka kb hkb
        have h1 := breaks_can (HBB.out.kept hkR) (HGG.out.kept hkR) hok HC.out HX.out
        rw [HVB.out] at h1
        simp only [EB.out] at h1
        have H1 := Lib.hid h1; clear h1
        go_wp2_with fail
        generalize (V8.alloc (Obj.cells #[.int .i64 l0, .int .i64 l1] 38)) = V9 at *
        refine H1.out.mono ?_
        rintro e V10 ⟨rfl, hka⟩
        clear H1
        have kb : Kept V10 (V10.alloc (Obj.cells #[.int .i64 b0, .int .i64 b1] 38)) := kept_alloc (kept_refl _) _
        have hkb := kept_trans hka kb
        have hkR := kept_trans hkR hkb
        have hszu := hka.size
        have hsyu : (V10.alloc (Obj.cells #[.int .i64 b0, .int .i64 b1] 38)).heap.size = V10.heap.size + 1 := by simp
        replace a0 := kcell hkb a0
        replace a1 := kcell hkb a1
        replace a2 := kcell hkb a2
        replace x0 := kcell hkb x0
        replace x1 := kcell hkb x1
        replace x2 := kcell hkb x2
        have sf : ∀ i, (V10.alloc (Obj.cells #[.int .i64 b0, .int .i64 b1] 38)).frozen? ⟨V6.heap.size, i, none⟩ = false := fun i => ((kturns hkb (fun _ => False)).frozen (Go.Ai.lt_of_cell sp0) (fun h => h)).trans (sf i)
        replace sp0 := kcell hkb sp0
        replace sp1 := kcell hkb sp1
        have tf : ∀ i, (V10.alloc (Obj.cells #[.int .i64 b0, .int .i64 b1] 38)).frozen? ⟨V8.heap.size, i, none⟩ = false := fun i => ((kturns hkb (fun _ => False)).frozen (Go.Ai.lt_of_cell tp0) (fun h => h)).trans (tf i)
        replace tp0 := kcell hkb tp0
        replace tp1 := kcell hkb tp1
        have up0 : (V10.alloc (Obj.cells #[.int .i64 b0, .int .i64 b1] 38)).cell? ⟨V10.heap.size, 0, none⟩ = some (.int .i64 b0) := by go_simp
        have up1 : (V10.alloc (Obj.cells #[.int .i64 b0, .int .i64 b1] 38)).cell? ⟨V10.heap.size, 1, none⟩ = some (.int .i64 b1) := by go_simp
        have uf : ∀ i, (V10.alloc (Obj.cells #[.int .i64 b0, .int .i64 b1] 38)).frozen? ⟨V10.heap.size, i, none⟩ = false := by intro i; go_simp
        clear hka kb hkb
        have h1 := breaks_can (HBX.out.kept hkR) (HGG.out.kept hkR) hokX HCX.out HXX.out
        rw [HVX.out] at h1
        simp only [apart_sBr, EB.out] at h1
        have H1 := Lib.hid h1; clear h1
        go_wp2_with fail
        generalize (V10.alloc (Obj.cells #[.int .i64 b0, .int .i64 b1] 38)) = V11 at *
        refine H1.out.mono ?_
        rintro e V12 ⟨rfl, hka⟩
        clear H1
        have kb : Kept V12 (V12.alloc (Obj.cells #[.int .i64 b0, .int .i64 b1] 38)) := kept_alloc (kept_refl _) _
        have hkb := kept_trans hka kb
        have hkR := kept_trans hkR hkb
        have hszv := hka.size
        have hsyv : (V12.alloc (Obj.cells #[.int .i64 b0, .int .i64 b1] 38)).heap.size = V12.heap.size + 1 := by simp
        replace a0 := kcell hkb a0
        replace a1 := kcell hkb a1
        replace a2 := kcell hkb a2
        replace x0 := kcell hkb x0
        replace x1 := kcell hkb x1
        replace x2 := kcell hkb x2
        have sf : ∀ i, (V12.alloc (Obj.cells #[.int .i64 b0, .int .i64 b1] 38)).frozen? ⟨V6.heap.size, i, none⟩ = false := fun i => ((kturns hkb (fun _ => False)).frozen (Go.Ai.lt_of_cell sp0) (fun h => h)).trans (sf i)
        replace sp0 := kcell hkb sp0
        replace sp1 := kcell hkb sp1
        have tf : ∀ i, (V12.alloc (Obj.cells #[.int .i64 b0, .int .i64 b1] 38)).frozen? ⟨V8.heap.size, i, none⟩ = false := fun i => ((kturns hkb (fun _ => False)).frozen (Go.Ai.lt_of_cell tp0) (fun h => h)).trans (tf i)
        replace tp0 := kcell hkb tp0
        replace tp1 := kcell hkb tp1
        have uf : ∀ i, (V12.alloc (Obj.cells #[.int .i64 b0, .int .i64 b1] 38)).frozen? ⟨V10.heap.size, i, none⟩ = false := fun i => ((kturns hkb (fun _ => False)).frozen (Go.Ai.lt_of_cell up0) (fun h => h)).trans (uf i)
        replace up0 := kcell hkb up0
        replace up1 := kcell hkb up1
        have vp0 : (V12.alloc (Obj.cells #[.int .i64 b0, .int .i64 b1] 38)).cell? ⟨V12.heap.size, 0, none⟩ = some (.int .i64 b0) := by go_simp
        have vp1 : (V12.alloc (Obj.cells #[.int .i64 b0, .int .i64 b1] 38)).cell? ⟨V12.heap.size, 1, none⟩ = some (.int .i64 b1) := by go_simp
        have vf : ∀ i, (V12.alloc (Obj.cells #[.int .i64 b0, .int .i64 b1] 38)).frozen? ⟨V12.heap.size, i, none⟩ = false := by intro i; go_simp
        clear hka kb hkb
        have h1 := highest_can (HBB.out.kept hkR) (HGG.out.kept hkR) hok HC.out HX.out ⟨k1, k2⟩
        rw [HVB.out] at h1
        simp only [ET.out, EF.out] at h1
        have H1 := Lib.hid h1; clear h1
        go_wp2_with fail
        generalize (V12.alloc (Obj.cells #[.int .i64 b0, .int .i64 b1] 38)) = V13 at *
        refine H1.out.mono ?_
        rintro e V14 ⟨rfl, hka⟩
        clear H1
        have hkR := kept_trans hkR hka
        replace a0 := kcell hka a0
        replace a1 := kcell hka a1
        replace a2 := kcell hka a2
        replace x0 := kcell hka x0
        replace x1 := kcell hka x1
        replace x2 := kcell hka x2
        have sf : ∀ i, V14.frozen? ⟨V6.heap.size, i, none⟩ = false := fun i => ((kturns hka (fun _ => False)).frozen (Go.Ai.lt_of_cell sp0) (fun h => h)).trans (sf i)
        replace sp0 := kcell hka sp0
        replace sp1 := kcell hka sp1
        have tf : ∀ i, V14.frozen? ⟨V8.heap.size, i, none⟩ = false := fun i => ((kturns hka (fun _ => False)).frozen (Go.Ai.lt_of_cell tp0) (fun h => h)).trans (tf i)
        replace tp0 := kcell hka tp0
        replace tp1 := kcell hka tp1
        have uf : ∀ i, V14.frozen? ⟨V10.heap.size, i, none⟩ = false := fun i => ((kturns hka (fun _ => False)).frozen (Go.Ai.lt_of_cell up0) (fun h => h)).trans (uf i)
        replace up0 := kcell hka up0
        replace up1 := kcell hka up1
        have vf : ∀ i, V14.frozen? ⟨V12.heap.size, i, none⟩ = false := fun i => ((kturns hka (fun _ => False)).frozen (Go.Ai.lt_of_cell vp0) (fun h => h)).trans (vf i)
        replace vp0 := kcell hka vp0
        replace vp1 := kcell hka vp1
        have hs45 := hk4.size
        have hs55 := hk5.size
        have hT : Turns (fun b => b = V6.heap.size) V14 ((V14.setCell ⟨V6.heap.size, 0, none⟩ (.int .i64 t0)).setCell ⟨V6.heap.size, 1, none⟩ (.int .i64 t1)) := Turns.setCell (T := fun b => b = V6.heap.size) (Turns.setCell (T := fun b => b = V6.heap.size) (Turns.refl _ V14) rfl _ _) rfl _ _
        have tc : ∀ b o v, b ≠ V6.heap.size → V14.cell? ⟨b, o, none⟩ = some v → ((V14.setCell ⟨V6.heap.size, 0, none⟩ (.int .i64 t0)).setCell ⟨V6.heap.size, 1, none⟩ (.int .i64 t1)).cell? ⟨b, o, none⟩ = some v := fun b o v hb h => (hT.cell (Go.Ai.lt_of_cell h) hb).trans h
        have hkR : Kept V5 ((V14.setCell ⟨V6.heap.size, 0, none⟩ (.int .i64 t0)).setCell ⟨V6.heap.size, 1, none⟩ (.int .i64 t1)) := Below.setCell (p := ⟨V6.heap.size, 1, none⟩) (Below.setCell (p := ⟨V6.heap.size, 0, none⟩) hkR (show V5.heap.size ≤ V6.heap.size by omega) _) (show V5.heap.size ≤ V6.heap.size by omega) _
        have a0' := tc _ _ _ (by omega) a0
        have a1' := tc _ _ _ (by omega) a1
        have a2' := tc _ _ _ (by omega) a2
        have x0' := tc _ _ _ (by omega) x0
        have x1' := tc _ _ _ (by omega) x1
        have x2' := tc _ _ _ (by omega) x2
        have sf' : ∀ i, ((V14.setCell ⟨V6.heap.size, 0, none⟩ (.int .i64 t0)).setCell ⟨V6.heap.size, 1, none⟩ (.int .i64 t1)).frozen? ⟨V6.heap.size, i, none⟩ = false := fun i => by rw [World.frozen?_setCell, World.frozen?_setCell]; exact sf i
        have sp0' : ((V14.setCell ⟨V6.heap.size, 0, none⟩ (.int .i64 t0)).setCell ⟨V6.heap.size, 1, none⟩ (.int .i64 t1)).cell? ⟨V6.heap.size, 0, none⟩ = some (.int .i64 t0) := (cell_set_ne (by omega)).trans (cell_set_eq sp0)
        have sp1' : ((V14.setCell ⟨V6.heap.size, 0, none⟩ (.int .i64 t0)).setCell ⟨V6.heap.size, 1, none⟩ (.int .i64 t1)).cell? ⟨V6.heap.size, 1, none⟩ = some (.int .i64 t1) := cell_set_eq ((cell_set_ne (by omega)).trans sp1)
        have tf' : ∀ i, ((V14.setCell ⟨V6.heap.size, 0, none⟩ (.int .i64 t0)).setCell ⟨V6.heap.size, 1, none⟩ (.int .i64 t1)).frozen? ⟨V8.heap.size, i, none⟩ = false := fun i => (hT.frozen (Go.Ai.lt_of_cell tp0) (show ¬ V8.heap.size = V6.heap.size by omega)).trans (tf i)
        have tp0' := tc _ _ _ (by omega) tp0
        have tp1' := tc _ _ _ (by omega) tp1
        have uf' : ∀ i, ((V14.setCell ⟨V6.heap.size, 0, none⟩ (.int .i64 t0)).setCell ⟨V6.heap.size, 1, none⟩ (.int .i64 t1)).frozen? ⟨V10.heap.size, i, none⟩ = false := fun i => (hT.frozen (Go.Ai.lt_of_cell up0) (show ¬ V10.heap.size = V6.heap.size by omega)).trans (uf i)
        have up0' := tc _ _ _ (by omega) up0
        have up1' := tc _ _ _ (by omega) up1
        have vf' : ∀ i, ((V14.setCell ⟨V6.heap.size, 0, none⟩ (.int .i64 t0)).setCell ⟨V6.heap.size, 1, none⟩ (.int .i64 t1)).frozen? ⟨V12.heap.size, i, none⟩ = false := fun i => (hT.frozen (Go.Ai.lt_of_cell vp0) (show ¬ V12.heap.size = V6.heap.size by omega)).trans (vf i)
        have vp0' := tc _ _ _ (by omega) vp0
        have vp1' := tc _ _ _ (by omega) vp1
        clear hT tc
        have h1 := highest_can (HBX.out.kept hkR) (HGG.out.kept hkR) hokX HCX.out HXX.out ⟨k1, k2⟩
        rw [HVX.out] at h1
        simp only [apart_sHi, ET.out, EF.out] at h1
        have H1 := Lib.hid h1; clear h1
        go_wp2_with fail
        generalize ((V14.setCell ⟨V6.heap.size, 0, none⟩ (.int .i64 t0)).setCell ⟨V6.heap.size, 1, none⟩ (.int .i64 t1)) = V15 at *
        have a0 := a0'
        clear a0'
        have a1 := a1'
        clear a1'
        have a2 := a2'
        clear a2'
        have x0 := x0'
        clear x0'
        have x1 := x1'
        clear x1'
        have x2 := x2'
        clear x2'
        have sf := sf'
        clear sf'
        have sp0 := sp0'
        clear sp0'
        have sp1 := sp1'
        clear sp1'
        have tf := tf'
        clear tf'
        have tp0 := tp0'
        clear tp0'
        have tp1 := tp1'
        clear tp1'
        have uf := uf'
        clear uf'
        have up0 := up0'
        clear up0'
        have up1 := up1'
        clear up1'
        have vf := vf'
        clear vf'
        have vp0 := vp0'
        clear vp0'
        have vp1 := vp1'
        clear vp1'
        refine H1.out.mono ?_
        rintro e V16 ⟨rfl, hka⟩
        clear H1
        have hkR := kept_trans hkR hka
        replace a0 := kcell hka a0
        replace a1 := kcell hka a1
        replace a2 := kcell hka a2
        replace x0 := kcell hka x0
        replace x1 := kcell hka x1
        replace x2 := kcell hka x2
        have sf : ∀ i, V16.frozen? ⟨V6.heap.size, i, none⟩ = false := fun i => ((kturns hka (fun _ => False)).frozen (Go.Ai.lt_of_cell sp0) (fun h => h)).trans (sf i)
        replace sp0 := kcell hka sp0
        replace sp1 := kcell hka sp1
        have tf : ∀ i, V16.frozen? ⟨V8.heap.size, i, none⟩ = false := fun i => ((kturns hka (fun _ => False)).frozen (Go.Ai.lt_of_cell tp0) (fun h => h)).trans (tf i)
        replace tp0 := kcell hka tp0
        replace tp1 := kcell hka tp1
        have uf : ∀ i, V16.frozen? ⟨V10.heap.size, i, none⟩ = false := fun i => ((kturns hka (fun _ => False)).frozen (Go.Ai.lt_of_cell up0) (fun h => h)).trans (uf i)
        replace up0 := kcell hka up0
        replace up1 := kcell hka up1
        have vf : ∀ i, V16.frozen? ⟨V12.heap.size, i, none⟩ = false := fun i => ((kturns hka (fun _ => False)).frozen (Go.Ai.lt_of_cell vp0) (fun h => h)).trans (vf i)
        replace vp0 := kcell hka vp0
        replace vp1 := kcell hka vp1
        have hT : Turns (fun b => b = V8.heap.size) V16 ((V16.setCell ⟨V8.heap.size, 0, none⟩ (.int .i64 t0)).setCell ⟨V8.heap.size, 1, none⟩ (.int .i64 t1)) := Turns.setCell (T := fun b => b = V8.heap.size) (Turns.setCell (T := fun b => b = V8.heap.size) (Turns.refl _ V16) rfl _ _) rfl _ _
        have tc : ∀ b o v, b ≠ V8.heap.size → V16.cell? ⟨b, o, none⟩ = some v → ((V16.setCell ⟨V8.heap.size, 0, none⟩ (.int .i64 t0)).setCell ⟨V8.heap.size, 1, none⟩ (.int .i64 t1)).cell? ⟨b, o, none⟩ = some v := fun b o v hb h => (hT.cell (Go.Ai.lt_of_cell h) hb).trans h
        have hkR : Kept V5 ((V16.setCell ⟨V8.heap.size, 0, none⟩ (.int .i64 t0)).setCell ⟨V8.heap.size, 1, none⟩ (.int .i64 t1)) := Below.setCell (p := ⟨V8.heap.size, 1, none⟩) (Below.setCell (p := ⟨V8.heap.size, 0, none⟩) hkR (show V5.heap.size ≤ V8.heap.size by omega) _) (show V5.heap.size ≤ V8.heap.size by omega) _
        have a0' := tc _ _ _ (by omega) a0
        have a1' := tc _ _ _ (by omega) a1
        have a2' := tc _ _ _ (by omega) a2
        have x0' := tc _ _ _ (by omega) x0
        have x1' := tc _ _ _ (by omega) x1
        have x2' := tc _ _ _ (by omega) x2
        have sf' : ∀ i, ((V16.setCell ⟨V8.heap.size, 0, none⟩ (.int .i64 t0)).setCell ⟨V8.heap.size, 1, none⟩ (.int .i64 t1)).frozen? ⟨V6.heap.size, i, none⟩ = false := fun i => (hT.frozen (Go.Ai.lt_of_cell sp0) (show ¬ V6.heap.size = V8.heap.size by omega)).trans (sf i)
        have sp0' := tc _ _ _ (by omega) sp0
        have sp1' := tc _ _ _ (by omega) sp1
        have tf' : ∀ i, ((V16.setCell ⟨V8.heap.size, 0, none⟩ (.int .i64 t0)).setCell ⟨V8.heap.size, 1, none⟩ (.int .i64 t1)).frozen? ⟨V8.heap.size, i, none⟩ = false := fun i => by rw [World.frozen?_setCell, World.frozen?_setCell]; exact tf i
        have tp0' : ((V16.setCell ⟨V8.heap.size, 0, none⟩ (.int .i64 t0)).setCell ⟨V8.heap.size, 1, none⟩ (.int .i64 t1)).cell? ⟨V8.heap.size, 0, none⟩ = some (.int .i64 t0) := (cell_set_ne (by omega)).trans (cell_set_eq tp0)
        have tp1' : ((V16.setCell ⟨V8.heap.size, 0, none⟩ (.int .i64 t0)).setCell ⟨V8.heap.size, 1, none⟩ (.int .i64 t1)).cell? ⟨V8.heap.size, 1, none⟩ = some (.int .i64 t1) := cell_set_eq ((cell_set_ne (by omega)).trans tp1)
        have uf' : ∀ i, ((V16.setCell ⟨V8.heap.size, 0, none⟩ (.int .i64 t0)).setCell ⟨V8.heap.size, 1, none⟩ (.int .i64 t1)).frozen? ⟨V10.heap.size, i, none⟩ = false := fun i => (hT.frozen (Go.Ai.lt_of_cell up0) (show ¬ V10.heap.size = V8.heap.size by omega)).trans (uf i)
        have up0' := tc _ _ _ (by omega) up0
        have up1' := tc _ _ _ (by omega) up1
        have vf' : ∀ i, ((V16.setCell ⟨V8.heap.size, 0, none⟩ (.int .i64 t0)).setCell ⟨V8.heap.size, 1, none⟩ (.int .i64 t1)).frozen? ⟨V12.heap.size, i, none⟩ = false := fun i => (hT.frozen (Go.Ai.lt_of_cell vp0) (show ¬ V12.heap.size = V8.heap.size by omega)).trans (vf i)
        have vp0' := tc _ _ _ (by omega) vp0
        have vp1' := tc _ _ _ (by omega) vp1
        clear hT tc
        have h1 := sings_can (HBB.out.kept hkR) (HGG.out.kept hkR) hok HC.out HX.out ⟨k1, k2⟩ ⟨k5, by omega⟩
        rw [HVB.out] at h1
        simp only [ES.out] at h1
        have H1 := Lib.hid h1; clear h1
        go_wp2_with fail
        generalize ((V16.setCell ⟨V8.heap.size, 0, none⟩ (.int .i64 t0)).setCell ⟨V8.heap.size, 1, none⟩ (.int .i64 t1)) = V17 at *
        have a0 := a0'
        clear a0'
        have a1 := a1'
        clear a1'
        have a2 := a2'
        clear a2'
        have x0 := x0'
        clear x0'
        have x1 := x1'
        clear x1'
        have x2 := x2'
        clear x2'
        have sf := sf'
        clear sf'
        have sp0 := sp0'
        clear sp0'
        have sp1 := sp1'
        clear sp1'
        have tf := tf'
        clear tf'
        have tp0 := tp0'
        clear tp0'
        have tp1 := tp1'
        clear tp1'
        have uf := uf'
        clear uf'
        have up0 := up0'
        clear up0'
        have up1 := up1'
        clear up1'
        have vf := vf'
        clear vf'
        have vp0 := vp0'
        clear vp0'
        have vp1 := vp1'
        clear vp1'
        refine H1.out.mono ?_
        rintro e V18 ⟨rfl, hka⟩
        clear H1
        have hkR := kept_trans hkR hka
        replace a0 := kcell hka a0
        replace a1 := kcell hka a1
        replace a2 := kcell hka a2
        replace x0 := kcell hka x0
        replace x1 := kcell hka x1
        replace x2 := kcell hka x2
        have sf : ∀ i, V18.frozen? ⟨V6.heap.size, i, none⟩ = false := fun i => ((kturns hka (fun _ => False)).frozen (Go.Ai.lt_of_cell sp0) (fun h => h)).trans (sf i)
        replace sp0 := kcell hka sp0
        replace sp1 := kcell hka sp1
        have tf : ∀ i, V18.frozen? ⟨V8.heap.size, i, none⟩ = false := fun i => ((kturns hka (fun _ => False)).frozen (Go.Ai.lt_of_cell tp0) (fun h => h)).trans (tf i)
        replace tp0 := kcell hka tp0
        replace tp1 := kcell hka tp1
        have uf : ∀ i, V18.frozen? ⟨V10.heap.size, i, none⟩ = false := fun i => ((kturns hka (fun _ => False)).frozen (Go.Ai.lt_of_cell up0) (fun h => h)).trans (uf i)
        replace up0 := kcell hka up0
        replace up1 := kcell hka up1
        have vf : ∀ i, V18.frozen? ⟨V12.heap.size, i, none⟩ = false := fun i => ((kturns hka (fun _ => False)).frozen (Go.Ai.lt_of_cell vp0) (fun h => h)).trans (vf i)
        replace vp0 := kcell hka vp0
        replace vp1 := kcell hka vp1
        have h1 := sings_can (HBX.out.kept hkR) (HGG.out.kept hkR) hokX HCX.out HXX.out ⟨k1, k2⟩ ⟨k5, by omega⟩
        rw [HVX.out] at h1
        simp only [apart_sSi, ES.out] at h1
        have H1 := Lib.hid h1; clear h1
        go_wp2_with fail
        refine H1.out.mono ?_
        rintro e V19 ⟨rfl, hka⟩
        clear H1
        have hkR := kept_trans hkR hka
        replace a0 := kcell hka a0
        replace a1 := kcell hka a1
        replace a2 := kcell hka a2
        replace x0 := kcell hka x0
        replace x1 := kcell hka x1
        replace x2 := kcell hka x2
        have sf : ∀ i, V19.frozen? ⟨V6.heap.size, i, none⟩ = false := fun i => ((kturns hka (fun _ => False)).frozen (Go.Ai.lt_of_cell sp0) (fun h => h)).trans (sf i)
        replace sp0 := kcell hka sp0
        replace sp1 := kcell hka sp1
        have tf : ∀ i, V19.frozen? ⟨V8.heap.size, i, none⟩ = false := fun i => ((kturns hka (fun _ => False)).frozen (Go.Ai.lt_of_cell tp0) (fun h => h)).trans (tf i)
        replace tp0 := kcell hka tp0
        replace tp1 := kcell hka tp1
        have uf : ∀ i, V19.frozen? ⟨V10.heap.size, i, none⟩ = false := fun i => ((kturns hka (fun _ => False)).frozen (Go.Ai.lt_of_cell up0) (fun h => h)).trans (uf i)
        replace up0 := kcell hka up0
        replace up1 := kcell hka up1
        have vf : ∀ i, V19.frozen? ⟨V12.heap.size, i, none⟩ = false := fun i => ((kturns hka (fun _ => False)).frozen (Go.Ai.lt_of_cell vp0) (fun h => h)).trans (vf i)
        replace vp0 := kcell hka vp0
        replace vp1 := kcell hka vp1
        have HS := Lib.hid (sung_is V19 (HBB.out.kept hkR).laid (HGG.out.kept hkR))
        go_wp2_with fail
        refine HS.out.mono ?_
        rintro e w9 ⟨rfl, hk9⟩
        go_wp2_with fail
        go_ret
        exact ⟨rfl, kept_trans (kept_trans hkN hkR) hk9⟩
      · have h1 : r1 = false := by
          cases r1 with
          | false => rfl
          | true => exact absurd (hr1.1 rfl) hcan
        subst h1
        clear hr1 hr2 hcan
        have HS := Lib.hid (sung_is V5 HBB.out.laid HGG.out)
        cases r2 <;> (
          go_wp2_with fail
          refine HS.out.mono ?_
          rintro e w' ⟨rfl, hk9⟩
          go_wp2_with fail
          go_ret
          exact ⟨rfl, kept_trans hkN hk9⟩)
end Go.Proofs.YtlmmmdjhnenkbaaDoor
