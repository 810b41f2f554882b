import Derived.Test.YtbhgicggpkibeaaDoorVXb
import Derived.DeepKeys4
import Derived.WideKeyMaps2
import Derived.WideKeyElems
import Derived.WideKeyEntry
import Derived.Deep.AppendLies
set_option linter.all false
set_option linter.all false
namespace Go.Proofs.YtbhgicggpkibeaaDoor
open Go.RowKit Go.Sort Go.Rg
set_option maxRecDepth 100000

theorem laidOut : laidOutB Tryd.prog = true := by kernel_rfl
theorem klaw : WideMaps.KeyLaw Tryd.prog 138 := deep_law_laid laidOut (m := 2) (by omega) (by decide +kernel) (by kernel_rfl) (by kernel_rfl)
def keyV (b w : Nat) : Value := .agg #[.int .i64 (b : Int), .int .i64 (w : Int)]
theorem keys_some : ((List.range 4).all fun a => (List.range 6).all fun b => (keyOf Tryd.prog 138 (keyV a b)).isSome) = true := by kernel_rfl
theorem key_some {a b : Nat} (ha : a < 4) (hb : b < 6) : ∃ l, keyOf Tryd.prog 138 (keyV a b) = some l := by
  have := keys_some
  rw [List.all_eq_true] at this
  have := this a (List.mem_range.2 ha)
  rw [List.all_eq_true] at this
  have := this b (List.mem_range.2 hb)
  exact Option.isSome_iff_exists.1 this
end Go.Proofs.YtbhgicggpkibeaaDoor
set_option linter.all false
namespace Go.Proofs.YtbhgicggpkibeaaDoor
open Go.RowKit Go.Sort Go.Rg
open Go.ChangeMaps (setBlock)
set_option maxRecDepth 100000

/-- an entry of a map of trials -/
structure Slot where
  b : Nat
  w : Nat
  v : Value
  ts : List Trial
def Slot.key (s : Slot) : Value := keyV s.b s.w
def entriesFrom : Nat → List Slot → List MapEntry
  | _, [] => []
  | i, s :: l => ⟨s.key, s.v, i⟩ :: entriesFrom (i + 1) l
def entries (l : List Slot) : Array MapEntry := (entriesFrom 0 l).toArray
theorem entriesFrom_len : ∀ (i : Nat) (l : List Slot), (entriesFrom i l).length = l.length
  | _, [] => rfl
  | i, s :: l => by simp [entriesFrom, entriesFrom_len (i + 1) l]
theorem entriesFrom_get : ∀ (i j : Nat) (l : List Slot), (entriesFrom i l)[j]? = (l[j]?).map fun s => ⟨s.key, s.v, i + j⟩
  | _, _, [] => by simp [entriesFrom]
  | i, 0, s :: l => by simp [entriesFrom]
  | i, j + 1, s :: l => by
    simp only [entriesFrom, List.getElem?_cons_succ, entriesFrom_get (i + 1) j l]
    congr 1; funext s; simp; omega
theorem entriesFrom_mem {i : Nat} {l : List Slot} {e : MapEntry} (h : e ∈ entriesFrom i l) : ∃ s ∈ l, e.key = s.key := by
  obtain ⟨j, hj, rfl⟩ := List.getElem_of_mem h
  have := entriesFrom_get i j l
  rw [List.getElem?_eq_getElem hj] at this
  cases hs : l[j]? with
  | none => rw [hs] at this; cases this
  | some s =>
    rw [hs] at this
    simp only [Option.map_some, Option.some.injEq] at this
    exact ⟨s, List.mem_of_getElem? hs, by rw [this]⟩
theorem entriesFrom_snoc : ∀ (i : Nat) (l : List Slot) (s : Slot), entriesFrom i (l ++ [s]) = entriesFrom i l ++ [⟨s.key, s.v, i + l.length⟩]
  | i, [], s => by simp [entriesFrom]
  | i, t :: l, s => by simp [entriesFrom, entriesFrom_snoc (i + 1) l s]; omega
theorem keyV_inj {a b c d : Nat} (h : keyV a b = keyV c d) : a = c ∧ b = d := by
  simp only [keyV, Value.agg.injEq] at h
  have h1 := congrArg (fun x => x.toList) h
  simp at h1
  omega
def SlotOk (l : List Slot) : Prop := ∀ s ∈ l, s.b < 4 ∧ s.w < 6

theorem find_slot (w : World) (l : List Slot) (hl : SlotOk l) {b k : Nat} (hb : b < 4) (hk : k < 6) :
    ((Instr.findKey 138 (keyV b k) (entries l).toList).run Tryd.prog w = .ok none w ∧ ∀ s ∈ l, ¬ (s.b = b ∧ s.w = k)) ∨
    ∃ j s, (Instr.findKey 138 (keyV b k) (entries l).toList).run Tryd.prog w = .ok (some (j, s.v)) w ∧ l[j]? = some s ∧ s.b = b ∧ s.w = k := by
  obtain ⟨lx, hlx⟩ := key_some hb hk
  rcases klaw.find w hlx (entries l).toList (fun e he => by
    obtain ⟨s, hs, e2⟩ := entriesFrom_mem (by simpa [entries] using he)
    obtain ⟨h1, h2⟩ := hl s hs
    rw [e2]; exact key_some h1 h2) with ⟨h1, h2⟩ | ⟨j, e, h1, h2, h3⟩
  · refine .inl ⟨h1, fun s hs ⟨e1, e2⟩ => ?_⟩
    obtain ⟨j, hj, rfl⟩ := List.getElem_of_mem hs
    have := entriesFrom_get 0 j l
    rw [List.getElem?_eq_getElem hj] at this
    refine h2 _ (by simpa [entries] using List.mem_of_getElem? this) ?_
    simp [Slot.key, e1, e2]
  · have := entriesFrom_get 0 j l
    rw [show (entriesFrom 0 l)[j]? = some e by simpa [entries] using h2] at this
    cases hs : l[j]? with
    | none => rw [hs] at this; cases this
    | some s =>
      rw [hs] at this
      simp only [Option.map_some, Option.some.injEq] at this
      subst this
      obtain ⟨e1, e2⟩ := keyV_inj h3
      exact .inr ⟨j, s, h1, hs, e1, e2⟩

theorem setBlock_self {w : World} {b : Nat} {o : Obj} (h : w.heap[b]? = some o) : setBlock w b o = w := by
  unfold setBlock
  have hl := (Array.getElem?_eq_some_iff.1 h)
  obtain ⟨hl, he⟩ := hl
  have : w.heap.setIfInBounds b o = w.heap := by
    apply Array.ext
    · simp
    · intro i h1 h2
      by_cases e : b = i
      · subst e; rw [Array.getElem_setIfInBounds_self]; exact he.symm
      · exact Array.getElem_setIfInBounds_ne (by simpa using h2) e
  rw [this]
theorem und : Tryd.prog.underlying 82 = some (.map 138 23) := by kernel_rfl
theorem zero_sl (w : World) : (zeroValue 23).run Tryd.prog w = .ok (.slice none 0 0) w := by kernel_rfl

theorem lookup_slot (w w2 : World) (bm : Nat) (l : List Slot) (n : Nat) (hl : SlotOk l) {b k : Nat} (hb : b < 4) (hk : k < 6) (hm : w.heap[bm]? = some (.map (entries l) n)) (h2 : w2.heap[bm]? = w.heap[bm]?) (v : Value)
    (hv : (v = .slice none 0 0 ∧ ∀ s ∈ l, ¬ (s.b = b ∧ s.w = k)) ∨ ∃ s ∈ l, s.b = b ∧ s.w = k ∧ s.v = v) (hn : ∀ s ∈ l, ∀ t ∈ l, s.b = t.b → s.w = t.w → s.v = t.v) :
    (Instr.lookup 82 (.map (some bm)) (keyV b k) false).run Tryd.prog w2 = .ok v w2 := by
  obtain ⟨lx, hlx⟩ := key_some hb hk
  have hg := MapKept.run_getObj_map (P := Tryd.prog) (h2.trans hm)
  rcases find_slot w2 l hl hb hk with ⟨h1, h3⟩ | ⟨j, s, h1, h3, h4, h5⟩
  · rcases hv with ⟨rfl, _⟩ | ⟨s, hs, e1, e2, _⟩
    · simp [Instr.lookup, run_underlying und, hg, klaw.check w2 _ hlx, h1, zero_sl, Result.andThen]
    · exact absurd ⟨e1, e2⟩ (h3 s hs)
  · rcases hv with ⟨_, hno⟩ | ⟨s', hs', e1, e2, rfl⟩
    · exact absurd ⟨h4, h5⟩ (hno s (List.mem_of_getElem? h3))
    · have : s.v = s'.v := hn s (List.mem_of_getElem? h3) s' hs' (by omega) (by omega)
      simp [Instr.lookup, run_underlying und, hg, klaw.check w2 _ hlx, h1, Result.andThen, this]

theorem mapEntry_old (w : World) (bm : Nat) (l : List Slot) (n : Nat) {b k j : Nat} {s : Slot} (hb : b < 4) (hk : k < 6) (hm : w.heap[bm]? = some (.map (entries l) n))
    (h1 : (Instr.findKey 138 (keyV b k) (entries l).toList).run Tryd.prog w = .ok (some (j, s.v)) w) (hs : l[j]? = some s) (e1 : s.b = b) (e2 : s.w = k) :
    (Instr.mapEntry 82 (.map (some bm)) (keyV b k)).run Tryd.prog w = .ok (.tuple #[s.v, .int .i64 (j : Int)]) w := by
  obtain ⟨lx, hlx⟩ := key_some hb hk
  have hg := MapKept.run_getObj_map (P := Tryd.prog) hm
  have hj : (entries l)[j]? = some ⟨keyV b k, s.v, j⟩ := by
    have := entriesFrom_get 0 j l
    rw [hs] at this
    simp only [Option.map_some, Nat.zero_add, Slot.key, e1, e2] at this
    simpa [entries] using this
  have hmod : (entries l).modify j (fun e => { e with key := keyV b k }) = entries l := by
    apply Array.ext'
    rw [Array.toList_modify]
    apply List.ext_getElem?
    intro i
    rw [List.getElem?_modify]
    by_cases e : j = i
    · subst e
      have : (entries l).toList[j]? = some ⟨keyV b k, s.v, j⟩ := by simpa using hj
      rw [this]; simp
    · simp [e]
  have hset := MapKept.run_setObj_map (P := Tryd.prog) (.map (entries l) n) hm
  have hself := setBlock_self hm
  unfold setBlock at hself
  rw [hself] at hset
  simp [Instr.mapEntry, run_underlying und, hg, klaw.check w _ hlx, h1, Result.andThen, hj, klaw.stays w hlx, hmod, hset, goInt]

theorem mapEntry_new (w : World) (bm : Nat) (l : List Slot) {b k : Nat} (hb : b < 4) (hk : k < 6) (hm : w.heap[bm]? = some (.map (entries l) l.length))
    (h1 : (Instr.findKey 138 (keyV b k) (entries l).toList).run Tryd.prog w = .ok none w) :
    (Instr.mapEntry 82 (.map (some bm)) (keyV b k)).run Tryd.prog w = .ok (.tuple #[.slice none 0 0, .int .i64 (l.length : Int)]) (setBlock w bm (.map (entries (l ++ [⟨b, k, .slice none 0 0, []⟩])) (l.length + 1))) := by
  obtain ⟨lx, hlx⟩ := key_some hb hk
  have hg := MapKept.run_getObj_map (P := Tryd.prog) hm
  have hpush : (entries l).push ⟨keyV b k, .slice none 0 0, l.length⟩ = entries (l ++ [⟨b, k, .slice none 0 0, []⟩]) := by
    apply Array.ext'
    simp [entries, entriesFrom_snoc, Slot.key]
  have hset := MapKept.run_setObj_map (P := Tryd.prog) (.map (entries (l ++ [⟨b, k, .slice none 0 0, []⟩])) (l.length + 1)) hm
  simp [Instr.mapEntry, run_underlying und, hg, klaw.check w _ hlx, h1, Result.andThen, zero_sl, hpush, hset, goInt, setBlock]

theorem entryStore_at (w : World) (bm : Nat) (l : List Slot) (n j : Nat) (s : Slot) (v : Value) (ts : List Trial) (hm : w.heap[bm]? = some (.map (entries l) n)) (hs : l[j]? = some s) :
    (Instr.entryStore 82 (.map (some bm)) (.int .i64 (j : Int)) v).run Tryd.prog w = .ok () (setBlock w bm (.map (entries (l.set j { s with v := v, ts := ts })) n)) := by
  have hg := MapKept.run_getObj_map (P := Tryd.prog) hm
  have hf : (entries l).findIdx? (fun e => (e.born : Int) == (j : Int)) = some j := by
    have hj : (entries l).toList[j]? = some ⟨s.key, s.v, j⟩ := by
      have := entriesFrom_get 0 j l
      rw [hs] at this
      simpa [entries] using this
    rw [WideElems.findIdx_arr]
    refine WideElems.findIdx_born ?_ hj
    have : ∀ (i : Nat) (l : List Slot), ((entriesFrom i l).map (·.born)) = List.range' i l.length := by
      intro i l
      induction l generalizing i with
      | nil => rfl
      | cons s l ih => simp [entriesFrom, ih, List.range'_succ]
    show ((entries l).toList.map (·.born)).Nodup
    simp only [entries, this]
    exact List.nodup_range'
  have hmod : (entries l).modify j (fun e => { e with val := v }) = entries (l.set j { s with v := v, ts := ts }) := by
    apply Array.ext'
    rw [Array.toList_modify]
    apply List.ext_getElem?
    intro i
    rw [List.getElem?_modify]
    simp only [entries]
    rw [entriesFrom_get, entriesFrom_get, List.getElem?_set]
    by_cases e : j = i
    · subst e
      have hjl := (List.getElem?_eq_some_iff.1 hs).1
      rw [hs]; simp [hjl, Slot.key]
    · simp [e]
  have hset := MapKept.run_setObj_map (P := Tryd.prog) (.map (entries (l.set j { s with v := v, ts := ts })) n) hm
  simp [Instr.entryStore, hg, Result.andThen, asInt, asIntOf, hf, hmod, hset, setBlock]
end Go.Proofs.YtbhgicggpkibeaaDoor
set_option linter.all false
namespace Go.Proofs.YtbhgicggpkibeaaDoor
open Go.RowKit Go.Sort Go.Rg
open Go.ChangeMaps (setBlock)
set_option maxRecDepth 100000

def cellsT (t : Trial) : List Value := [.int .i64 t.boy, .int .i64 t.week, .int .i64 t.note, .int .i64 t.sang]
def cellsOfT (ts : List Trial) : List Value := ts.flatMap cellsT
def isAt (b k : Nat) (t : Trial) : Bool := decide (t.boy = (b : Int)) && decide (t.week = (k : Int))
structure Tried (W : World) (bm base : Nat) (l : List Slot) (ts : List Trial) : Prop where
  map : W.heap[bm]? = some (.map (entries l) l.length)
  ok : SlotOk l
  nodup : ∀ (i j : Nat) (s t : Slot), l[i]? = some s → l[j]? = some t → s.b = t.b → s.w = t.w → i = j
  rows : ∀ s ∈ l, W.ownsRow base 74 4 s.v s.ts.length (cellsOfT s.ts) ∧ s.ts.length ≤ ts.length
  apart : ∀ (i j : Nat) (s t : Slot), l[i]? = some s → l[j]? = some t → s.v.ownBlock = t.v.ownBlock → s.v.ownBlock ≠ none → i = j
  told : ∀ b k : Nat, b < 4 → k < 6 → (∃ s ∈ l, s.b = b ∧ s.w = k ∧ s.ts = ts.filter (isAt b k)) ∨ ((∀ s ∈ l, ¬ (s.b = b ∧ s.w = k)) ∧ ts.filter (isAt b k) = [])
theorem row_not_map {W : World} {base : Nat} {e : TypeId} {v : Value} {n : Nat} {xs : List Value} {bm : Nat} {es : Array MapEntry} {c : Nat} (h : W.ownsRow base e 4 v n xs) (hm : W.heap[bm]? = some (.map es c)) : v.ownBlock = none ∨ v.ownBlock ≠ some bm := by
  rcases h.2 with ⟨rfl, _⟩ | ⟨g, cap, cur, rfl, _, hg, _⟩
  · exact .inl rfl
  · refine .inr fun e => ?_
    simp only [Value.ownBlock, Option.some.injEq] at e
    subst e
    rw [hg] at hm; cases hm
theorem Tried.kept {A B : World} {bm base : Nat} {l : List Slot} {ts : List Trial} (h : Tried A bm base l ts) (k : Kept A B) : Tried B bm base l ts :=
  { h with map := (k.block bm (Array.getElem?_eq_some_iff.1 h.map).1).trans h.map
           rows := fun s hs => ⟨(h.rows s hs).1.kept (row := none) ⟨k.os, k.tape, k.output, k.size, fun i hi _ => k.block i hi⟩ (by cases s.v.ownBlock <;> simp), (h.rows s hs).2⟩ }
theorem grown_set {W : World} {bm : Nat} {o : Obj} : W.grownBy (setBlock W bm o) (some bm) :=
  ⟨rfl, rfl, rfl, by simp [setBlock], fun i hi hne => by
    have : ¬ bm = i := fun e => hne (by rw [e])
    simp [setBlock, Array.getElem?_setIfInBounds_ne this]⟩
theorem set_same {W : World} {bm : Nat} {o : Obj} (h : bm < W.heap.size) : (setBlock W bm o).heap[bm]? = some o := by simp [setBlock, h]
theorem getElem?_snoc {α : Type} {l : List α} {a x : α} {i : Nat} (h : (l ++ [a])[i]? = some x) : l[i]? = some x ∨ (i = l.length ∧ x = a) := by
  rcases Nat.lt_trichotomy i l.length with hi | hi | hi
  · rw [List.getElem?_append_left hi] at h; exact .inl h
  · subst hi; right; exact ⟨rfl, by simpa using h.symm⟩
  · rw [List.getElem?_eq_none (by simp; omega)] at h; cases h
theorem Tried.push {W : World} {bm base : Nat} {l : List Slot} {ts : List Trial} (h : Tried W bm base l ts) {b k : Nat} (hb : b < 4) (hk : k < 6) (hno : ∀ s ∈ l, ¬ (s.b = b ∧ s.w = k)) :
    Tried (setBlock W bm (.map (entries (l ++ [⟨b, k, .slice none 0 0, []⟩])) (l.length + 1))) bm base (l ++ [⟨b, k, .slice none 0 0, []⟩]) ts where
  map := by rw [set_same (Array.getElem?_eq_some_iff.1 h.map).1]; simp
  ok := fun s hs => by
    rcases List.mem_append.1 hs with hs | hs
    · exact h.ok s hs
    · simp only [List.mem_singleton] at hs; subst hs; exact ⟨hb, hk⟩
  nodup := fun i j s t hi hj e1 e2 => by
    rcases getElem?_snoc hi with hi | ⟨rfl, rfl⟩ <;> rcases getElem?_snoc hj with hj | ⟨rfl, rfl⟩
    · exact h.nodup i j s t hi hj e1 e2
    · exact absurd ⟨e1, e2⟩ (hno s (List.mem_of_getElem? hi))
    · exact absurd ⟨e1.symm, e2.symm⟩ (hno t (List.mem_of_getElem? hj))
    · rfl
  rows := fun s hs => by
    rcases List.mem_append.1 hs with hs | hs
    · exact ⟨(h.rows s hs).1.kept grown_set (row_not_map (h.rows s hs).1 h.map), (h.rows s hs).2⟩
    · simp only [List.mem_singleton] at hs; subst hs; exact ⟨World.ownsRow_nil _ _ _ _, Nat.zero_le _⟩
  apart := fun i j s t hi hj e1 e2 => by
    rcases getElem?_snoc hi with hi | ⟨rfl, rfl⟩ <;> rcases getElem?_snoc hj with hj | ⟨rfl, rfl⟩
    · exact h.apart i j s t hi hj e1 e2
    · rw [e1] at e2; exact absurd rfl e2
    · exact absurd rfl e2
    · rfl
  told := fun b' k' hb' hk' => by
    rcases h.told b' k' hb' hk' with ⟨s, hs, e⟩ | ⟨hn, he⟩
    · exact .inl ⟨s, List.mem_append_left _ hs, e⟩
    · by_cases e : b = b' ∧ k = k'
      · obtain ⟨rfl, rfl⟩ := e
        exact .inl ⟨⟨b, k, .slice none 0 0, []⟩, by simp, rfl, rfl, he.symm⟩
      · refine .inr ⟨fun s hs => ?_, he⟩
        rcases List.mem_append.1 hs with hs | hs
        · exact hn s hs
        · simp only [List.mem_singleton] at hs; subst hs; exact e
theorem Tried.append {W W4 : World} {bm base g cap j : Nat} {l : List Slot} {ts : List Trial} {s : Slot} {t : Trial} (h : Tried W bm base l ts) (hs : l[j]? = some s) (ht : isAt s.b s.w t = true)
    (hg : W.grownBy W4 s.v.ownBlock) (hown : W4.ownsRow base 74 4 (.slice (some ⟨g, 0, none⟩) (s.ts.length + 1) cap) (s.ts.length + 1) (cellsOfT s.ts ++ cellsT t)) (hat : s.v.ownBlock = some g ∨ g = W.heap.size) :
    Tried (setBlock W4 bm (.map (entries (l.set j { s with v := .slice (some ⟨g, 0, none⟩) (s.ts.length + 1) cap, ts := s.ts ++ [t] })) l.length)) bm base (l.set j { s with v := .slice (some ⟨g, 0, none⟩) (s.ts.length + 1) cap, ts := s.ts ++ [t] }) (ts ++ [t]) := by
  have hjl := (List.getElem?_eq_some_iff.1 hs).1
  have hmz := (Array.getElem?_eq_some_iff.1 h.map).1
  have hm4 : W4.heap[bm]? = some (.map (entries l) l.length) := (hg.block bm hmz (fun e => by
    rcases row_not_map (h.rows s (List.mem_of_getElem? hs)).1 h.map with h1 | h1
    · rw [h1] at e; cases e
    · exact h1 e.symm)).trans h.map
  have get : ∀ {i x}, (l.set j { s with v := .slice (some ⟨g, 0, none⟩) (s.ts.length + 1) cap, ts := s.ts ++ [t] })[i]? = some x → (i ≠ j ∧ l[i]? = some x) ∨ (i = j ∧ x = { s with v := .slice (some ⟨g, 0, none⟩) (s.ts.length + 1) cap, ts := s.ts ++ [t] }) := fun {i x} hx => by
    rw [List.getElem?_set] at hx
    by_cases e : j = i
    · subst e; simp [hjl] at hx; exact .inr ⟨rfl, hx.symm⟩
    · simp only [e, if_false] at hx; exact .inl ⟨fun h => e h.symm, hx⟩
  have ne_g : ∀ i x, i ≠ j → l[i]? = some x → x.v.ownBlock ≠ some g := fun i x hij hx e => by
    rcases hat with h1 | h1
    · exact hij (h.apart i j x s hx hs (e.trans h1.symm) (by rw [e]; simp))
    · have := ((h.rows x (List.mem_of_getElem? hx)).1.lt g e).2
      omega
  refine ⟨by rw [set_same (Array.getElem?_eq_some_iff.1 hm4).1]; simp, ?_, ?_, ?_, ?_, ?_⟩
  · intro x hx
    obtain ⟨i, hi, rfl⟩ := List.getElem_of_mem hx
    rcases get (List.getElem?_eq_getElem hi) with ⟨_, h1⟩ | ⟨_, h1⟩
    · exact h.ok _ (List.mem_of_getElem? h1)
    · rw [h1]; exact h.ok s (List.mem_of_getElem? hs)
  · intro i i' x y hi hi' e1 e2
    rcases get hi with ⟨n1, h1⟩ | ⟨rfl, rfl⟩ <;> rcases get hi' with ⟨n2, h2⟩ | ⟨rfl, rfl⟩
    · exact h.nodup i i' x y h1 h2 e1 e2
    · exact h.nodup i _ x s h1 hs e1 e2
    · exact h.nodup _ i' s y hs h2 e1 e2
    · rfl
  · intro x hx
    obtain ⟨i, hi, rfl⟩ := List.getElem_of_mem hx
    have hset : ∀ {v n xs}, W4.ownsRow base 74 4 v n xs → (setBlock W4 bm (.map (entries (l.set j { s with v := .slice (some ⟨g, 0, none⟩) (s.ts.length + 1) cap, ts := s.ts ++ [t] })) l.length)).ownsRow base 74 4 v n xs := fun h4 => h4.kept grown_set (row_not_map h4 hm4)
    rcases get (List.getElem?_eq_getElem hi) with ⟨n1, h1⟩ | ⟨_, h1⟩
    · have hr := h.rows _ (List.mem_of_getElem? h1)
      refine ⟨hset (hr.1.kept hg ?_), by simp; omega⟩
      cases hb : ((l.set j { s with v := .slice (some ⟨g, 0, none⟩) (s.ts.length + 1) cap, ts := s.ts ++ [t] })[i]).v.ownBlock with
      | none => exact .inl rfl
      | some g' => exact .inr fun e => n1 (h.apart i j _ s h1 hs (hb.trans e) (by rw [hb]; simp))
    · rw [h1]
      refine ⟨?_, by have := (h.rows s (List.mem_of_getElem? hs)).2; simp; omega⟩
      have e : cellsOfT (s.ts ++ [t]) = cellsOfT s.ts ++ cellsT t := by simp [cellsOfT]
      rw [e]
      simpa using hset hown
  · intro i i' x y hi hi' e1 e2
    rcases get hi with ⟨n1, h1⟩ | ⟨rfl, rfl⟩ <;> rcases get hi' with ⟨n2, h2⟩ | ⟨rfl, rfl⟩
    · exact h.apart i i' x y h1 h2 e1 e2
    · exact absurd e1 (ne_g _ _ n1 h1)
    · exact absurd e1.symm (ne_g _ _ n2 h2)
    · rfl
  · intro b k hb hk
    have hf : (ts ++ [t]).filter (isAt b k) = ts.filter (isAt b k) ++ (if isAt b k t then [t] else []) := by
      rw [List.filter_append]; congr 1; simp only [List.filter_cons, List.filter_nil]
    have key : ∀ {b k b' k' : Nat}, isAt b k t = true → isAt b' k' t = true → b = b' ∧ k = k' := fun h1 h2 => by
      simp only [isAt, Bool.and_eq_true, decide_eq_true_eq] at h1 h2
      omega
    by_cases e : isAt b k t = true
    · obtain ⟨rfl, rfl⟩ := key ht e
      refine .inl ⟨{ s with v := .slice (some ⟨g, 0, none⟩) (s.ts.length + 1) cap, ts := s.ts ++ [t] }, List.mem_of_getElem? (i := j) (by simp [List.getElem?_set, hjl]), rfl, rfl, ?_⟩
      rw [hf, if_pos e]
      rcases h.told s.b s.w hb hk with ⟨s', hs', e1, e2, e3⟩ | ⟨hno, _⟩
      · obtain ⟨i, hi, rfl⟩ := List.getElem_of_mem hs'
        have := h.nodup i j _ s (List.getElem?_eq_getElem hi) hs e1 e2
        subst this
        rw [List.getElem?_eq_getElem hi] at hs
        cases hs
        rw [e3]
      · exact absurd ⟨rfl, rfl⟩ (hno s (List.mem_of_getElem? hs))
    · rw [hf, if_neg e, List.append_nil]
      rcases h.told b k hb hk with ⟨s', hs', e1, e2, e3⟩ | ⟨hno, he⟩
      · obtain ⟨i, hi, rfl⟩ := List.getElem_of_mem hs'
        have hij : i ≠ j := by
          rintro rfl
          rw [List.getElem?_eq_getElem hi] at hs
          cases hs
          exact e (by rw [← e1, ← e2]; exact ht)
        exact .inl ⟨_, List.mem_of_getElem? (i := i) (by rw [List.getElem?_set, if_neg (Ne.symm hij)]; exact List.getElem?_eq_getElem hi), e1, e2, e3⟩
      · refine .inr ⟨fun x hx => ?_, he⟩
        obtain ⟨i, hi, rfl⟩ := List.getElem_of_mem hx
        rcases get (List.getElem?_eq_getElem hi) with ⟨_, h1⟩ | ⟨_, h1⟩
        · exact hno _ (List.mem_of_getElem? h1)
        · rw [h1]; exact hno s (List.mem_of_getElem? hs)

theorem entry_any {W : World} {bm base : Nat} {l : List Slot} {ts : List Trial} (h : Tried W bm base l ts) {b k : Nat} (hb : b < 4) (hk : k < 6) :
    ∃ (W' : World) (l' : List Slot) (j : Nat) (s : Slot), (Instr.mapEntry 82 (.map (some bm)) (keyV b k)).run Tryd.prog W = .ok (.tuple #[s.v, .int .i64 (j : Int)]) W' ∧ Tried W' bm base l' ts ∧ l'[j]? = some s ∧ s.b = b ∧ s.w = k ∧ Turns (fun x => x = bm) W W' ∧ W'.heap.size = W.heap.size := by
  rcases find_slot W l h.ok hb hk with ⟨h1, hno⟩ | ⟨j, s, h1, hs, e1, e2⟩
  · refine ⟨_, _, l.length, ⟨b, k, .slice none 0 0, []⟩, mapEntry_new W bm l hb hk h.map h1, h.push hb hk hno, by simp, rfl, rfl, ?_, by simp [setBlock]⟩
    have := grown_set (W := W) (bm := bm) (o := .map (entries (l ++ [⟨b, k, .slice none 0 0, []⟩])) (l.length + 1))
    exact ⟨this.os, this.tape, this.output, this.size, fun i hi hne => this.block i hi (fun e => hne (by cases e; rfl))⟩
  · exact ⟨W, l, j, s, mapEntry_old W bm l _ hb hk h.map h1 hs e1 e2, h, hs, e1, e2, Turns.refl _ _, rfl⟩
theorem cellsOfT_get : ∀ (ts : List Trial) (i r : Nat) (t : Trial), ts[i]? = some t → r < 4 → (cellsOfT ts)[i * 4 + r]? = (cellsT t)[r]?
  | [], _, _, _, h, _ => by simp at h
  | x :: ts, 0, r, t, h, hr => by
    simp only [List.getElem?_cons_zero, Option.some.injEq] at h
    subst h
    show (cellsT x ++ cellsOfT ts)[0 * 4 + r]? = _
    rw [List.getElem?_append_left (by simp [cellsT]; omega)]; simp
  | x :: ts, i + 1, r, t, h, hr => by
    simp only [List.getElem?_cons_succ] at h
    have := cellsOfT_get ts i r t h hr
    show (cellsT x ++ cellsOfT ts)[(i + 1) * 4 + r]? = _
    rw [List.getElem?_append_right (by simp [cellsT]; omega), ← this]
    congr 1; simp [cellsT]; omega
theorem trials_of_row {W : World} {base : Nat} {v : Value} {ts : List Trial} (h : W.ownsRow base 74 4 v ts.length (cellsOfT ts)) :
    (v = .slice none 0 0 ∧ ts = []) ∨ ∃ b o cap, v = .slice (some ⟨b, o, none⟩) ts.length cap ∧ b < W.heap.size ∧ TrialsAt W b o ts := by
  rcases h.2 with ⟨rfl, h0⟩ | ⟨g, cap, cur, rfl, hb, hg, _⟩
  · exact .inl ⟨rfl, List.eq_nil_of_length_eq_zero h0⟩
  · have hz := (Array.getElem?_eq_some_iff.1 hg).1
    refine .inr ⟨g, 0, cap, rfl, hz, hz, fun i t hi => ?_⟩
    have hl : i < ts.length := (List.getElem?_eq_some_iff.1 hi).1
    have get : ∀ r u, r < 4 → (cellsT t)[r]? = some u → W.cell? ⟨g, 0 + i * 4 + r, none⟩ = some u := fun r u hr hu => by
      have := h.cells (g := g) rfl (i * 4 + r) u ((cellsOfT_get ts i r t hi hr).trans hu)
      have e : (⟨g, 0, none⟩ : Addr).add (i * 4 + r) = ⟨g, 0 + i * 4 + r, none⟩ := by
        rw [show 0 + i * 4 + r = 0 + (i * 4 + r) by omega]
        unfold Addr.add
        split
        · rename_i h0; rw [h0]
        · rfl
      rw [← e]; exact this
    exact ⟨get 0 _ (by omega) rfl, get 1 _ (by omega) rfl, get 2 _ (by omega) rfl, get 3 _ (by omega) rfl⟩
theorem Tried.look {W C : World} {bm base : Nat} {l : List Slot} {ts : List Trial} (h : Tried W bm base l ts) {S U : Nat → Prop} (k : Turns U W C) (hu1 : ¬ U bm) (hu2 : ∀ b, base ≤ b → ¬ U b) (hs1 : S bm) (hs2 : ∀ b, base ≤ b → b < C.heap.size → S b) {b wk : Nat} (hb : b < 4) (hk : wk < 6) :
    Look2 S C bm b wk (ts.filter (isAt b wk)) := by
  have hmz := (Array.getElem?_eq_some_iff.1 h.map).1
  have hC : C.heap[bm]? = some (.map (entries l) l.length) := (k.block bm hmz hu1).trans h.map
  have hn : ∀ s ∈ l, ∀ t ∈ l, s.b = t.b → s.w = t.w → s.v = t.v := fun s hs t ht e1 e2 => by
    obtain ⟨i, hi, rfl⟩ := List.getElem_of_mem hs
    obtain ⟨j, hj, rfl⟩ := List.getElem_of_mem ht
    have := h.nodup i j _ _ (List.getElem?_eq_getElem hi) (List.getElem?_eq_getElem hj) e1 e2
    subst this; rfl
  rcases h.told b wk hb hk with ⟨s, hs, e1, e2, e3⟩ | ⟨hno, he⟩
  · refine ⟨s.v, hs1, Nat.lt_of_lt_of_le hmz k.size, fun W' hW' => lookup_slot C W' bm l _ h.ok hb hk hC hW' s.v (.inr ⟨s, hs, e1, e2, rfl⟩) hn, ?_⟩
    have hr := (h.rows s hs).1
    rw [← e3]
    rcases trials_of_row hr with hv | ⟨g, o, cap, hv, hz, ht⟩
    · exact .inl hv
    · have hg : ¬ U g := hu2 g (hr.lt g (by rw [hv]; rfl)).1
      exact .inr ⟨g, o, cap, hv, hs2 g (hr.lt g (by rw [hv]; rfl)).1 (Nat.lt_of_lt_of_le hz k.size), ht.turns k hg⟩
  · refine ⟨.slice none 0 0, hs1, Nat.lt_of_lt_of_le hmz k.size, fun W' hW' => lookup_slot C W' bm l _ h.ok hb hk hC hW' _ (.inl ⟨rfl, hno⟩) hn, .inl ⟨rfl, he⟩⟩
theorem infoT : (Tryd.prog.info? 74).map (fun i => (i.zero, i.size, i.bytes)) = some (some (.agg #[.int .i64 0, .int .i64 0, .int .i64 0, .int .i64 0]), 4, 32) := by kernel_rfl

set_option maxHeartbeats 4000000 in
theorem newChoir_any (p q : Option Addr) (cap capt : Nat) (B : Book) (Wb W : World) (hok : B.okB = true) (hb : BookAt Wb p q cap capt B) (hkb : Kept Wb W) :
    Calls Tryd.prog 95 #[.agg #[.slice p B.boys.length cap, .int .i64 B.weeks, .slice q B.trials.length capt]] W fun e C => ∃ c : Choir, c.B = B ∧ e = .returned c.val ∧ Kept W C ∧ ChoirAt (fun b => b < C.heap.size ∧ (b < Wb.heap.size ∨ W.heap.size ≤ b)) C c := by
  have h := hb.kept hkb
  have hmm := @run_makeMap Tryd.prog
  go_enter Tryd.func95, Tryd.ntmps95
  go_wp2_with fail
  have hk0 : Kept W ((((W.alloc (Obj.cells #[.slice p B.boys.length cap, .int .i64 B.weeks, .slice q B.trials.length capt] 25)).alloc (Obj.cells #[.slice none 0 0, .int .i64 0, .slice none 0 0, .map none] 84)).alloc (Obj.map #[] 0)).alloc (Obj.cells #[.slice p B.boys.length cap, .int .i64 B.weeks, .slice q B.trials.length capt, .map (some (W.heap.size + 1 + 1))] 84)) := kept_alloc (kept_alloc (kept_alloc (kept_alloc (kept_refl _) _) _) _) _
  have hz0 : ((((W.alloc (Obj.cells #[.slice p B.boys.length cap, .int .i64 B.weeks, .slice q B.trials.length capt] 25)).alloc (Obj.cells #[.slice none 0 0, .int .i64 0, .slice none 0 0, .map none] 84)).alloc (Obj.map #[] 0)).alloc (Obj.cells #[.slice p B.boys.length cap, .int .i64 B.weeks, .slice q B.trials.length capt, .map (some (W.heap.size + 1 + 1))] 84)).heap.size = W.heap.size + 4 := by simp
  have hmap : ((((W.alloc (Obj.cells #[.slice p B.boys.length cap, .int .i64 B.weeks, .slice q B.trials.length capt] 25)).alloc (Obj.cells #[.slice none 0 0, .int .i64 0, .slice none 0 0, .map none] 84)).alloc (Obj.map #[] 0)).alloc (Obj.cells #[.slice p B.boys.length cap, .int .i64 B.weeks, .slice q B.trials.length capt, .map (some (W.heap.size + 1 + 1))] 84)).heap[W.heap.size + 1 + 1]? = some (.map #[] 0) := by
    have h1 := World.alloc_heap_new ((W.alloc (Obj.cells #[.slice p B.boys.length cap, .int .i64 B.weeks, .slice q B.trials.length capt] 25)).alloc (Obj.cells #[.slice none 0 0, .int .i64 0, .slice none 0 0, .map none] 84)) (Obj.map #[] 0)
    simp only [World.size_alloc] at h1
    exact (Below.heap_alloc _ _ _ (by simp)).trans h1
  have c0 : ((((W.alloc (Obj.cells #[.slice p B.boys.length cap, .int .i64 B.weeks, .slice q B.trials.length capt] 25)).alloc (Obj.cells #[.slice none 0 0, .int .i64 0, .slice none 0 0, .map none] 84)).alloc (Obj.map #[] 0)).alloc (Obj.cells #[.slice p B.boys.length cap, .int .i64 B.weeks, .slice q B.trials.length capt, .map (some (W.heap.size + 1 + 1))] 84)).cell? ⟨W.heap.size + 1 + 1 + 1, 0, none⟩ = some (.slice p B.boys.length cap) := by go_simp
  have c1 : ((((W.alloc (Obj.cells #[.slice p B.boys.length cap, .int .i64 B.weeks, .slice q B.trials.length capt] 25)).alloc (Obj.cells #[.slice none 0 0, .int .i64 0, .slice none 0 0, .map none] 84)).alloc (Obj.map #[] 0)).alloc (Obj.cells #[.slice p B.boys.length cap, .int .i64 B.weeks, .slice q B.trials.length capt, .map (some (W.heap.size + 1 + 1))] 84)).cell? ⟨W.heap.size + 1 + 1 + 1, 1, none⟩ = some (.int .i64 B.weeks) := by go_simp
  have c2 : ((((W.alloc (Obj.cells #[.slice p B.boys.length cap, .int .i64 B.weeks, .slice q B.trials.length capt] 25)).alloc (Obj.cells #[.slice none 0 0, .int .i64 0, .slice none 0 0, .map none] 84)).alloc (Obj.map #[] 0)).alloc (Obj.cells #[.slice p B.boys.length cap, .int .i64 B.weeks, .slice q B.trials.length capt, .map (some (W.heap.size + 1 + 1))] 84)).cell? ⟨W.heap.size + 1 + 1 + 1, 2, none⟩ = some (.slice q B.trials.length capt) := by go_simp
  have c3 : ((((W.alloc (Obj.cells #[.slice p B.boys.length cap, .int .i64 B.weeks, .slice q B.trials.length capt] 25)).alloc (Obj.cells #[.slice none 0 0, .int .i64 0, .slice none 0 0, .map none] 84)).alloc (Obj.map #[] 0)).alloc (Obj.cells #[.slice p B.boys.length cap, .int .i64 B.weeks, .slice q B.trials.length capt, .map (some (W.heap.size + 1 + 1))] 84)).cell? ⟨W.heap.size + 1 + 1 + 1, 3, none⟩ = some (.map (some (W.heap.size + 1 + 1))) := by go_simp
  have d0 : ((((W.alloc (Obj.cells #[.slice p B.boys.length cap, .int .i64 B.weeks, .slice q B.trials.length capt] 25)).alloc (Obj.cells #[.slice none 0 0, .int .i64 0, .slice none 0 0, .map none] 84)).alloc (Obj.map #[] 0)).alloc (Obj.cells #[.slice p B.boys.length cap, .int .i64 B.weeks, .slice q B.trials.length capt, .map (some (W.heap.size + 1 + 1))] 84)).cell? ⟨W.heap.size + 1, 0, none⟩ = some (.slice none 0 0) := by go_simp
  have d1 : ((((W.alloc (Obj.cells #[.slice p B.boys.length cap, .int .i64 B.weeks, .slice q B.trials.length capt] 25)).alloc (Obj.cells #[.slice none 0 0, .int .i64 0, .slice none 0 0, .map none] 84)).alloc (Obj.map #[] 0)).alloc (Obj.cells #[.slice p B.boys.length cap, .int .i64 B.weeks, .slice q B.trials.length capt, .map (some (W.heap.size + 1 + 1))] 84)).cell? ⟨W.heap.size + 1, 1, none⟩ = some (.int .i64 0) := by go_simp
  have d2 : ((((W.alloc (Obj.cells #[.slice p B.boys.length cap, .int .i64 B.weeks, .slice q B.trials.length capt] 25)).alloc (Obj.cells #[.slice none 0 0, .int .i64 0, .slice none 0 0, .map none] 84)).alloc (Obj.map #[] 0)).alloc (Obj.cells #[.slice p B.boys.length cap, .int .i64 B.weeks, .slice q B.trials.length capt, .map (some (W.heap.size + 1 + 1))] 84)).cell? ⟨W.heap.size + 1, 2, none⟩ = some (.slice none 0 0) := by go_simp
  have d3 : ((((W.alloc (Obj.cells #[.slice p B.boys.length cap, .int .i64 B.weeks, .slice q B.trials.length capt] 25)).alloc (Obj.cells #[.slice none 0 0, .int .i64 0, .slice none 0 0, .map none] 84)).alloc (Obj.map #[] 0)).alloc (Obj.cells #[.slice p B.boys.length cap, .int .i64 B.weeks, .slice q B.trials.length capt, .map (some (W.heap.size + 1 + 1))] 84)).cell? ⟨W.heap.size + 1, 3, none⟩ = some (.map none) := by go_simp
  have df : ∀ i, ((((W.alloc (Obj.cells #[.slice p B.boys.length cap, .int .i64 B.weeks, .slice q B.trials.length capt] 25)).alloc (Obj.cells #[.slice none 0 0, .int .i64 0, .slice none 0 0, .map none] 84)).alloc (Obj.map #[] 0)).alloc (Obj.cells #[.slice p B.boys.length cap, .int .i64 B.weeks, .slice q B.trials.length capt, .map (some (W.heap.size + 1 + 1))] 84)).frozen? ⟨W.heap.size + 1, i, none⟩ = false := by intro i; go_simp
  generalize ((((W.alloc (Obj.cells #[.slice p B.boys.length cap, .int .i64 B.weeks, .slice q B.trials.length capt] 25)).alloc (Obj.cells #[.slice none 0 0, .int .i64 0, .slice none 0 0, .map none] 84)).alloc (Obj.map #[] 0)).alloc (Obj.cells #[.slice p B.boys.length cap, .int .i64 B.weeks, .slice q B.trials.length capt, .map (some (W.heap.size + 1 + 1))] 84)) = V0 at *
  generalize hcb : W.heap.size + 1 + 1 + 1 = cb at *
  generalize hbm : W.heap.size + 1 + 1 = bm at *
  generalize hrb : W.heap.size + 1 = rb at *
  have hbook : ∀ (i : Nat) (x : Trial), B.trials[i]? = some x → validTrialB B.boys.length B.weeks.toNat x = true := by
    simp only [Book.okB, Bool.and_eq_true, List.all_eq_true] at hok
    exact fun i x hx => hok.2 x (List.mem_of_getElem? hx)
  have hlen : B.boys.length ≤ 4 ∧ B.weeks ≤ 6 ∧ B.trials.length ≤ 6 := by
    simp only [Book.okB, inB, Bool.and_eq_true, decide_eq_true_eq] at hok
    omega
  go_loopw [13] (fun i V => ∃ (j : Nat) (l : List Slot), j ≤ B.trials.length ∧ i = .int .i64 j ∧ Tried V bm (W.heap.size + 4) l (B.trials.take j) ∧ Turns (fun b => b = bm ∨ W.heap.size + 4 ≤ b) V0 V) (fun i V => B.trials.length - (intOf i).toNat)
  case atStart =>
    exact ⟨0, [], by omega, rfl, ⟨hmap, (fun s hs => nomatch hs), (fun i j s t h => by simp at h), (fun s hs => nomatch hs), (fun i j s t h => by simp at h), (fun b k _ _ => .inr ⟨(fun s hs => nomatch hs), rfl⟩)⟩, Turns.refl _ _⟩
  case round =>
    obtain ⟨j, l, hj, rfl, hT, hV⟩ := hrel
    by_cases hlt : j < B.trials.length
    · have hltI : (j : Int) < B.trials.length := by omega
      have hget : B.trials[j]? = some B.trials[j] := List.getElem?_eq_getElem hlt
      generalize B.trials[j] = t at *
      rcases h.trials with h00 | ⟨bT, oT, rfl, hTT⟩
      · rw [h00] at hlt; cases hlt
      have hTV := (hTT.kept hk0).turns hV (by have := hTT.1; omega)
      obtain ⟨t0, t1, t2, t3⟩ := hTV.2 j t hget
      have hbT := hTV.1
      have e3 := tcell hV (by omega) c3
      have hzc := Go.Ai.lt_of_cell e3
      have HT := Lib.hid hT; clear hT
      have HG := Lib.hid hget; clear hget
      have HB := Lib.hid hbook; clear hbook
      have HH := Lib.hid h; clear h
      clear hTT hTV hmap
      have hval := HB.out j t HG.out
      obtain ⟨tb, tw, tn, tg⟩ := t
      simp only [validTrialB, inB, Bool.and_eq_true, decide_eq_true_eq] at hval
      simp only at t0 t1 t2 t3
      obtain ⟨b, rfl⟩ := Int.eq_ofNat_of_zero_le (show 0 ≤ tb by omega)
      obtain ⟨k, rfl⟩ := Int.eq_ofNat_of_zero_le (show 0 ≤ tw by omega)
      have hb4 : b < 4 := by omega
      have hk6 : k < 6 := by omega
      have HV := Lib.hid hval; clear hval
      go_wp2_with fail
      have hk3 : Kept wr (((wr.alloc (Obj.cells #[.int .i64 (b : Int), .int .i64 (k : Int), .int .i64 tn, .int .i64 tg] 74)).alloc (Obj.cells #[.int .i64 (b : Int), .int .i64 (k : Int)] 138)).alloc (Obj.cells #[.int .i64 (b : Int), .int .i64 (k : Int), .int .i64 tn, .int .i64 tg] 74)) := kept_alloc (kept_alloc (kept_alloc (kept_refl _) _) _) _
      have hz3 : (((wr.alloc (Obj.cells #[.int .i64 (b : Int), .int .i64 (k : Int), .int .i64 tn, .int .i64 tg] 74)).alloc (Obj.cells #[.int .i64 (b : Int), .int .i64 (k : Int)] 138)).alloc (Obj.cells #[.int .i64 (b : Int), .int .i64 (k : Int), .int .i64 tn, .int .i64 tg] 74)).heap.size = wr.heap.size + 3 := by simp
      have hnb : (((wr.alloc (Obj.cells #[.int .i64 (b : Int), .int .i64 (k : Int), .int .i64 tn, .int .i64 tg] 74)).alloc (Obj.cells #[.int .i64 (b : Int), .int .i64 (k : Int)] 138)).alloc (Obj.cells #[.int .i64 (b : Int), .int .i64 (k : Int), .int .i64 tn, .int .i64 tg] 74)).heap[wr.heap.size + 1 + 1]? = some (.cells #[.int .i64 (b : Int), .int .i64 (k : Int), .int .i64 tn, .int .i64 tg] 74 (0, 0)) := by
        have h1 := World.alloc_heap_new ((wr.alloc (Obj.cells #[.int .i64 (b : Int), .int .i64 (k : Int), .int .i64 tn, .int .i64 tg] 74)).alloc (Obj.cells #[.int .i64 (b : Int), .int .i64 (k : Int)] 138)) (Obj.cells #[.int .i64 (b : Int), .int .i64 (k : Int), .int .i64 tn, .int .i64 tg] 74)
        simp only [World.size_alloc] at h1
        exact h1
      generalize (((wr.alloc (Obj.cells #[.int .i64 (b : Int), .int .i64 (k : Int), .int .i64 tn, .int .i64 tg] 74)).alloc (Obj.cells #[.int .i64 (b : Int), .int .i64 (k : Int)] 138)).alloc (Obj.cells #[.int .i64 (b : Int), .int .i64 (k : Int), .int .i64 tn, .int .i64 tg] 74)) = W3 at *
      obtain ⟨W3', l', j', s, hme, hT', hs, e1, e2, hW3, hz3'⟩ := entry_any (HT.out.kept hk3) hb4 hk6
      unfold keyV at hme
      rw [hme]
      have HT' := Lib.hid hT'; clear hT'
      have hbmz : bm < wr.heap.size := (Array.getElem?_eq_some_iff.1 HT.out.map).1
      have hnews := World.news_of_block ((hW3.block _ (by omega) (by omega)).trans hnb)
      obtain ⟨i0, hi, hiz, his, hib⟩ := info_parts infoT
      have hrow := (HT'.out.rows s (List.mem_of_getElem? hs)).1
      have hrl : s.ts.length ≤ 6 := by
        have := (HT'.out.rows s (List.mem_of_getElem? hs)).2
        simp only [List.length_take] at this
        omega
      have hbase : W.heap.size + 4 ≤ wr.heap.size := by have := hV.size; omega
      go_wp2_with (at_builtin; refine wpList_append_lies _ rfl _ _ 23 rfl (W.heap.size + 4) 74 i0 _ 4 32 Tryd.underlying23 hi hiz his hib rfl (by decide) s.v s.ts.length _ rfl hrow ⟨wr.heap.size + 1 + 1, 0, none⟩ 1 1 [.int .i64 (b : Int), .int .i64 (k : Int), .int .i64 tn, .int .i64 tg] rfl rfl hnews (by simp [Value.oneCell']) (by decide) (by unfold maxLen; omega) (by omega) (by omega) _ rfl ?_; intro g cap' W4 hown hgrow hat hlt4)
      have hm4 : W4.heap[bm]? = some (.map (entries l') l'.length) := (hgrow.block bm (by omega) (fun e => by
        rcases row_not_map hrow HT'.out.map with h1 | h1
        · rw [h1] at e; cases e
        · exact h1 e.symm)).trans HT'.out.map
      have hes := entryStore_at W4 bm l' l'.length j' s (.slice (some ⟨g, 0, none⟩) (s.ts.length + 1) cap') (s.ts ++ [⟨(b : Int), (k : Int), tn, tg⟩]) hm4 hs
      have htk : B.trials.take (j + 1) = B.trials.take j ++ [⟨(b : Int), (k : Int), tn, tg⟩] := by
        rw [List.take_succ, HG.out]; rfl
      have hend := HT'.out.append (t := ⟨(b : Int), (k : Int), tn, tg⟩) hs (by simp [isAt, e1, e2]) hgrow hown hat
      rw [← htk] at hend
      have hT4 : Turns (fun b => b = bm ∨ W.heap.size + 4 ≤ b) W3' W4 := ⟨hgrow.os, hgrow.tape, hgrow.output, hgrow.size, fun i hi hne => hgrow.block i hi (fun e => hne (.inr (hrow.lt i e.symm).1))⟩
      have hTs := grown_set (W := W4) (bm := bm) (o := .map (entries (l'.set j' { s with v := .slice (some ⟨g, 0, none⟩) (s.ts.length + 1) cap', ts := s.ts ++ [⟨(b : Int), (k : Int), tn, tg⟩] })) l'.length)
      have hT5 : Turns (fun b => b = bm ∨ W.heap.size + 4 ≤ b) V0 (setBlock W4 bm (.map (entries (l'.set j' { s with v := .slice (some ⟨g, 0, none⟩) (s.ts.length + 1) cap', ts := s.ts ++ [⟨(b : Int), (k : Int), tn, tg⟩] })) l'.length)) :=
        (((hV.trans (Ext.refl _ _) (kturns hk3 _)).trans (Ext.refl _ _) (hW3.mono fun _ _ h => .inl h)).trans (Ext.refl _ _) hT4).trans (Ext.refl _ _)
          ⟨hTs.os, hTs.tape, hTs.output, hTs.size, fun i hi hne => hTs.block i hi (fun e => hne (.inl (by cases e; rfl)))⟩
      have HEND : Hid (∃ (j2 : Nat) (l2 : List Slot), j2 ≤ B.trials.length ∧ Value.int .i64 ((j : Int) + 1) = .int .i64 (j2 : Int) ∧ Tried (setBlock W4 bm (.map (entries (l'.set j' { s with v := .slice (some ⟨g, 0, none⟩) (s.ts.length + 1) cap', ts := s.ts ++ [⟨(b : Int), (k : Int), tn, tg⟩] })) l'.length)) bm (W.heap.size + 4) l2 (B.trials.take j2) ∧ Turns (fun b => b = bm ∨ W.heap.size + 4 ≤ b) V0 (setBlock W4 bm (.map (entries (l'.set j' { s with v := .slice (some ⟨g, 0, none⟩) (s.ts.length + 1) cap', ts := s.ts ++ [⟨(b : Int), (k : Int), tn, tg⟩] })) l'.length))) :=
        Lib.hid ⟨j + 1, _, by omega, by simp, hend, hT5⟩
      clear hend hT5 hTs hT4
      rw [hes]
      clear hes hm4 hown hgrow hat hrow
      generalize setBlock W4 bm (.map (entries (l'.set j' { s with v := .slice (some ⟨g, 0, none⟩) (s.ts.length + 1) cap', ts := s.ts ++ [⟨(b : Int), (k : Int), tn, tg⟩] })) l'.length) = W5 at *
      go_wp2_with fail
      go_roundw
      case rel => exact HEND.out
      case measure => simp [intOf]; omega
    · have hltI : ¬ (j : Int) < B.trials.length := by omega
      have e0 := tcell hV (by omega) c0
      have e1 := tcell hV (by omega) c1
      have e2 := tcell hV (by omega) c2
      have e3 := tcell hV (by omega) c3
      have g0 := tcell hV (by omega) d0
      have g1 := tcell hV (by omega) d1
      have g2 := tcell hV (by omega) d2
      have g3 := tcell hV (by omega) d3
      have gf : ∀ i, wr.frozen? ⟨rb, i, none⟩ = false := fun i => (hV.frozen (by omega) (by omega)).trans (df i)
      have gf0 := gf 0
      have gf1 := gf 1
      have gf2 := gf 2
      have gf3 := gf 3
      go_wp2_with fail
      have hje : j = B.trials.length := by omega
      have hTC : Turns (fun b => b = rb) wr ((((wr.setCell ⟨rb, 0, none⟩ (.slice p B.boys.length cap)).setCell ⟨rb, 1, none⟩ (.int .i64 B.weeks)).setCell ⟨rb, 2, none⟩ (.slice q B.trials.length capt)).setCell ⟨rb, 3, none⟩ (.map (some bm))) := ((((Turns.refl (fun b => b = rb) wr).setCell rfl _ _).setCell rfl _ _).setCell rfl _ _).setCell rfl _ _
      have r0 : ((((wr.setCell ⟨rb, 0, none⟩ (.slice p B.boys.length cap)).setCell ⟨rb, 1, none⟩ (.int .i64 B.weeks)).setCell ⟨rb, 2, none⟩ (.slice q B.trials.length capt)).setCell ⟨rb, 3, none⟩ (.map (some bm))).cell? ⟨rb, 0, none⟩ = some (.slice p B.boys.length cap) := by go_simp
      have r1 : ((((wr.setCell ⟨rb, 0, none⟩ (.slice p B.boys.length cap)).setCell ⟨rb, 1, none⟩ (.int .i64 B.weeks)).setCell ⟨rb, 2, none⟩ (.slice q B.trials.length capt)).setCell ⟨rb, 3, none⟩ (.map (some bm))).cell? ⟨rb, 1, none⟩ = some (.int .i64 B.weeks) := by go_simp
      have r2 : ((((wr.setCell ⟨rb, 0, none⟩ (.slice p B.boys.length cap)).setCell ⟨rb, 1, none⟩ (.int .i64 B.weeks)).setCell ⟨rb, 2, none⟩ (.slice q B.trials.length capt)).setCell ⟨rb, 3, none⟩ (.map (some bm))).cell? ⟨rb, 2, none⟩ = some (.slice q B.trials.length capt) := by go_simp
      have r3 : ((((wr.setCell ⟨rb, 0, none⟩ (.slice p B.boys.length cap)).setCell ⟨rb, 1, none⟩ (.int .i64 B.weeks)).setCell ⟨rb, 2, none⟩ (.slice q B.trials.length capt)).setCell ⟨rb, 3, none⟩ (.map (some bm))).cell? ⟨rb, 3, none⟩ = some (.map (some bm)) := by go_simp
      generalize ((((wr.setCell ⟨rb, 0, none⟩ (.slice p B.boys.length cap)).setCell ⟨rb, 1, none⟩ (.int .i64 B.weeks)).setCell ⟨rb, 2, none⟩ (.slice q B.trials.length capt)).setCell ⟨rb, 3, none⟩ (.map (some bm))) = C at *
      have hbl : B.boys ≠ [] := by
        intro e
        simp only [Book.okB, inB, Bool.and_eq_true, decide_eq_true_eq] at hok
        rw [e] at hok; simp at hok
      obtain ⟨bb, ob, rfl, hboysb⟩ : ∃ b o, p = some ⟨b, o, none⟩ ∧ BoysAt Wb b o B.boys := hb.boys.resolve_left hbl
      have hboys := hboysb.kept hkb
      have hWC : Kept W C := by
        refine Below.trans (Below.trans hk0 (hV.toBelow (n := W.heap.size) ?_ (by omega))) (hTC.toBelow (n := W.heap.size) ?_ ?_)
        · rintro b (rfl | h) <;> omega
        · rintro b rfl; omega
        · have := hV.size; omega
      refine bodyPost_ret (v := .agg #[.slice (some ⟨bb, ob, none⟩) B.boys.length cap, .int .i64 B.weeks, .slice q B.trials.length capt, .map (some bm)]) (by simp [results, Tryd.results95, go_sem, r0, r1, r2, r3]) rfl ?_
      refine ⟨⟨bb, ob, cap, capt, q, bm, B⟩, rfl, rfl, hWC, hok, ?_, hboys.kept hWC, ?_, ?_⟩
      · exact ⟨Nat.lt_of_lt_of_le hboys.1 hWC.size, .inl hboysb.1⟩
      · rcases hb.trials with h1 | ⟨b, o, e, ht⟩
        · exact .inl h1
        · exact .inr ⟨b, o, e, ⟨Nat.lt_of_lt_of_le (ht.kept hkb).1 hWC.size, .inl ht.1⟩, (ht.kept hkb).kept hWC⟩
      · intro boy wk hb5 hw
        have hT' := hT
        rw [hje, List.take_length] at hT'
        exact hT'.look hTC (by omega) (by rintro b hb2 rfl; omega) ⟨by have := hTC.size; have := (Array.getElem?_eq_some_iff.1 hT.map).1; omega, .inr (by omega)⟩ (fun b hb2 hb3 => ⟨hb3, .inr (by omega)⟩) (by have h5 : boy < B.boys.length := hb5; omega) (by have h6 : (wk : Int) < B.weeks := hw; omega)
end Go.Proofs.YtbhgicggpkibeaaDoor
