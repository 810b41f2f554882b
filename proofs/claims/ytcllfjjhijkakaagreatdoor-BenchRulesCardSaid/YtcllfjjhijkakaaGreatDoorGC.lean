/- Regions that draw their order, in any frame, whose last operation may write: one walk of the text's order serves every order. No conditions. -/
import Derived.Test.YtcllfjjhijkakaaGreatDoorGB
import Derived.Laws.EntriesVeiled
import Derived.Lib.QuietBelowIn
import Derived.Sort.QuietTacIn
import Derived.TacticsIn
set_option linter.all false
namespace Go.Proofs.YtcllfjjhijkakaaGreatDoor
open Go.RowKit Go.Sort Go.Rg
open Go.ChangeMaps (setBlock)
set_option maxRecDepth 100000
structure Slot where
 b : Nat
 w : Nat
 v : Value
 ts : List Trial
def Slot.key (s : Slot) : Value := keyV s.b s.w
def entriesFrom : Nat → List Slot → List MapEntry
 | _, [] => []
 | i, s :: l => ⟨s.key, s.v, i⟩ :: entriesFrom (i + 1) l
def entries (l : List Slot) : Array MapEntry := (entriesFrom 0 l).toArray
theorem entriesFrom_get : ∀ (i j : Nat) (l : List Slot), (entriesFrom i l)[j]? = (l[j]?).map fun s => ⟨s.key, s.v, i + j⟩
 | _, _, [] => by simp [entriesFrom]
 | i, 0, s :: l => by simp [entriesFrom]
 | i, j + 1, s :: l => by
  simp only [entriesFrom, List.getElem?_cons_succ, entriesFrom_get (i + 1) j l]
  congr 1; funext s; simp; omega
theorem entriesFrom_mem {i : Nat} {l : List Slot} {e : MapEntry} (h : e ∈ entriesFrom i l) : ∃ s ∈ l, e.key = s.key := by
 obtain ⟨j, hj, rfl⟩ := List.getElem_of_mem h
 have := entriesFrom_get i j l
 rw [List.getElem?_eq_getElem hj] at this
 cases hs : l[j]? with
 | none => rw [hs] at this; cases this
 | some s =>
  rw [hs] at this
  simp only [Option.map_some, Option.some.injEq] at this
  exact ⟨s, List.mem_of_getElem? hs, by rw [this]⟩
theorem entriesFrom_snoc : ∀ (i : Nat) (l : List Slot) (s : Slot), entriesFrom i (l ++ [s]) = entriesFrom i l ++ [⟨s.key, s.v, i + l.length⟩]
 | i, [], s => by simp [entriesFrom]
 | i, t :: l, s => by simp [entriesFrom, entriesFrom_snoc (i + 1) l s]; omega
theorem keyV_inj {a b c d : Nat} (h : keyV a b = keyV c d) : a = c ∧ b = d := by
 simp only [keyV, Value.agg.injEq] at h
 have h1 := congrArg (fun x => x.toList) h
 simp at h1
 omega
def SlotOk (l : List Slot) : Prop := ∀ s ∈ l, s.b < 4 ∧ s.w < 6
theorem find_slot (w : World) (l : List Slot) (hl : SlotOk l) {b k : Nat} (hb : b < 4) (hk : k < 6) :
  ((Instr.findKey 113 (keyV b k) (entries l).toList).run Tryz.prog w = .ok none w ∧ ∀ s ∈ l, ¬ (s.b = b ∧ s.w = k)) ∨
  ∃ j s, (Instr.findKey 113 (keyV b k) (entries l).toList).run Tryz.prog w = .ok (some (j, s.v)) w ∧ l[j]? = some s ∧ s.b = b ∧ s.w = k := by
 obtain ⟨lx, hlx⟩ := key_some hb hk
 rcases klaw.find w hlx (entries l).toList (fun e he => by
  obtain ⟨s, hs, e2⟩ := entriesFrom_mem (by simpa [entries] using he)
  obtain ⟨h1, h2⟩ := hl s hs
  rw [e2]; exact key_some h1 h2) with ⟨h1, h2⟩ | ⟨j, e, h1, h2, h3⟩
 ·refine .inl ⟨h1, fun s hs ⟨e1, e2⟩ => ?_⟩
  obtain ⟨j, hj, rfl⟩ := List.getElem_of_mem hs
  have := entriesFrom_get 0 j l
  rw [List.getElem?_eq_getElem hj] at this
  refine h2 _ (by simpa [entries] using List.mem_of_getElem? this) ?_
  simp [Slot.key, e1, e2]
 ·have := entriesFrom_get 0 j l
  rw [show (entriesFrom 0 l)[j]? = some e by simpa [entries] using h2] at this
  cases hs : l[j]? with
  | none => rw [hs] at this; cases this
  | some s =>
   rw [hs] at this
   simp only [Option.map_some, Option.some.injEq] at this
   subst this
   obtain ⟨e1, e2⟩ := keyV_inj h3
   exact .inr ⟨j, s, h1, hs, e1, e2⟩
theorem setBlock_self {w : World} {b : Nat} {o : Obj} (h : w.heap[b]? = some o) : setBlock w b o = w := by
 unfold setBlock
 have hl := (Array.getElem?_eq_some_iff.1 h)
 obtain ⟨hl, he⟩ := hl
 have : w.heap.setIfInBounds b o = w.heap := by
  apply Array.ext
  ·simp
  ·intro i h1 h2
   by_cases e : b = i
   ·subst e; rw [Array.getElem_setIfInBounds_self]; exact he.symm
   ·exact Array.getElem_setIfInBounds_ne (by simpa using h2) e
 rw [this]
theorem und : Tryz.prog.underlying 81 = some (.map 113 23) := by kernel_rfl
theorem zero_sl (w : World) : (zeroValue 23).run Tryz.prog w = .ok (.slice none 0 0) w := by kernel_rfl
theorem lookup_slot (w w2 : World) (bm : Nat) (l : List Slot) (n : Nat) (hl : SlotOk l) {b k : Nat} (hb : b < 4) (hk : k < 6) (hm : w.heap[bm]? = some (.map (entries l) n)) (h2 : w2.heap[bm]? = w.heap[bm]?) (v : Value)
  (hv : (v = .slice none 0 0 ∧ ∀ s ∈ l, ¬ (s.b = b ∧ s.w = k)) ∨ ∃ s ∈ l, s.b = b ∧ s.w = k ∧ s.v = v) (hn : ∀ s ∈ l, ∀ t ∈ l, s.b = t.b → s.w = t.w → s.v = t.v) :
  (Instr.lookup 81 (.map (some bm)) (keyV b k) false).run Tryz.prog w2 = .ok v w2 := by
 obtain ⟨lx, hlx⟩ := key_some hb hk
 have hg := MapKept.run_getObj_map (P := Tryz.prog) (h2.trans hm)
 rcases find_slot w2 l hl hb hk with ⟨h1, h3⟩ | ⟨j, s, h1, h3, h4, h5⟩
 ·rcases hv with ⟨rfl, _⟩ | ⟨s, hs, e1, e2, _⟩
  ·simp [Instr.lookup, run_underlying und, hg, klaw.check w2 _ hlx, h1, zero_sl, Result.andThen]
  ·exact absurd ⟨e1, e2⟩ (h3 s hs)
 ·rcases hv with ⟨_, hno⟩ | ⟨s', hs', e1, e2, rfl⟩
  ·exact absurd ⟨h4, h5⟩ (hno s (List.mem_of_getElem? h3))
  ·have : s.v = s'.v := hn s (List.mem_of_getElem? h3) s' hs' (by omega) (by omega)
   simp [Instr.lookup, run_underlying und, hg, klaw.check w2 _ hlx, h1, Result.andThen, this]
theorem mapEntry_old (w : World) (bm : Nat) (l : List Slot) (n : Nat) {b k j : Nat} {s : Slot} (hb : b < 4) (hk : k < 6) (hm : w.heap[bm]? = some (.map (entries l) n))
  (h1 : (Instr.findKey 113 (keyV b k) (entries l).toList).run Tryz.prog w = .ok (some (j, s.v)) w) (hs : l[j]? = some s) (e1 : s.b = b) (e2 : s.w = k) :
  (Instr.mapEntry 81 (.map (some bm)) (keyV b k)).run Tryz.prog w = .ok (.tuple #[s.v, .int .i64 (j : Int)]) w := by
 obtain ⟨lx, hlx⟩ := key_some hb hk
 have hg := MapKept.run_getObj_map (P := Tryz.prog) hm
 have hj : (entries l)[j]? = some ⟨keyV b k, s.v, j⟩ := by
  have := entriesFrom_get 0 j l
  rw [hs] at this
  simp only [Option.map_some, Nat.zero_add, Slot.key, e1, e2] at this
  simpa [entries] using this
 have hmod : (entries l).modify j (fun e => { e with key := keyV b k }) = entries l := by
  apply Array.ext'
  rw [Array.toList_modify]
  apply List.ext_getElem?
  intro i
  rw [List.getElem?_modify]
  by_cases e : j = i
  ·subst e
   have : (entries l).toList[j]? = some ⟨keyV b k, s.v, j⟩ := by simpa using hj
   rw [this]; simp
  ·simp [e]
 have hset := MapKept.run_setObj_map (P := Tryz.prog) (.map (entries l) n) hm
 have hself := setBlock_self hm
 unfold setBlock at hself
 rw [hself] at hset
 simp [Instr.mapEntry, run_underlying und, hg, klaw.check w _ hlx, h1, Result.andThen, hj, klaw.stays w hlx, hmod, hset, goInt]
theorem mapEntry_new (w : World) (bm : Nat) (l : List Slot) {b k : Nat} (hb : b < 4) (hk : k < 6) (hm : w.heap[bm]? = some (.map (entries l) l.length))
  (h1 : (Instr.findKey 113 (keyV b k) (entries l).toList).run Tryz.prog w = .ok none w) :
  (Instr.mapEntry 81 (.map (some bm)) (keyV b k)).run Tryz.prog w = .ok (.tuple #[.slice none 0 0, .int .i64 (l.length : Int)]) (setBlock w bm (.map (entries (l ++ [⟨b, k, .slice none 0 0, []⟩])) (l.length + 1))) := by
 obtain ⟨lx, hlx⟩ := key_some hb hk
 have hg := MapKept.run_getObj_map (P := Tryz.prog) hm
 have hpush : (entries l).push ⟨keyV b k, .slice none 0 0, l.length⟩ = entries (l ++ [⟨b, k, .slice none 0 0, []⟩]) := by
  apply Array.ext'
  simp [entries, entriesFrom_snoc, Slot.key]
 have hset := MapKept.run_setObj_map (P := Tryz.prog) (.map (entries (l ++ [⟨b, k, .slice none 0 0, []⟩])) (l.length + 1)) hm
 simp [Instr.mapEntry, run_underlying und, hg, klaw.check w _ hlx, h1, Result.andThen, zero_sl, hpush, hset, goInt, setBlock]
theorem entryStore_at (w : World) (bm : Nat) (l : List Slot) (n j : Nat) (s : Slot) (v : Value) (ts : List Trial) (hm : w.heap[bm]? = some (.map (entries l) n)) (hs : l[j]? = some s) :
  (Instr.entryStore 81 (.map (some bm)) (.int .i64 (j : Int)) v).run Tryz.prog w = .ok () (setBlock w bm (.map (entries (l.set j { s with v := v, ts := ts })) n)) := by
 have hg := MapKept.run_getObj_map (P := Tryz.prog) hm
 have hf : (entries l).findIdx? (fun e => (e.born : Int) == (j : Int)) = some j := by
  have hj : (entries l).toList[j]? = some ⟨s.key, s.v, j⟩ := by
   have := entriesFrom_get 0 j l
   rw [hs] at this
   simpa [entries] using this
  rw [WideElems.findIdx_arr]
  refine WideElems.findIdx_born ?_ hj
  have : ∀ (i : Nat) (l : List Slot), ((entriesFrom i l).map (·.born)) = List.range' i l.length := by
   intro i l
   induction l generalizing i with
   | nil => rfl
   | cons s l ih => simp [entriesFrom, ih, List.range'_succ]
  show ((entries l).toList.map (·.born)).Nodup
  simp only [entries, this]
  exact List.nodup_range'
 have hmod : (entries l).modify j (fun e => { e with val := v }) = entries (l.set j { s with v := v, ts := ts }) := by
  apply Array.ext'
  rw [Array.toList_modify]
  apply List.ext_getElem?
  intro i
  rw [List.getElem?_modify]
  simp only [entries]
  rw [entriesFrom_get, entriesFrom_get, List.getElem?_set]
  by_cases e : j = i
  ·subst e
   have hjl := (List.getElem?_eq_some_iff.1 hs).1
   rw [hs]; simp [hjl, Slot.key]
  ·simp [e]
 have hset := MapKept.run_setObj_map (P := Tryz.prog) (.map (entries (l.set j { s with v := v, ts := ts })) n) hm
 simp [Instr.entryStore, hg, Result.andThen, asInt, asIntOf, hf, hmod, hset, setBlock]
def cellsT (t : Trial) : List Value := [.int .i64 t.boy, .int .i64 t.week, .int .i64 t.note, .int .i64 t.sang]
def cellsOfT (ts : List Trial) : List Value := ts.flatMap cellsT
def isAt (b k : Nat) (t : Trial) : Bool := decide (t.boy = (b : Int)) && decide (t.week = (k : Int))
structure Tried (W : World) (bm base : Nat) (l : List Slot) (ts : List Trial) : Prop where
 map : W.heap[bm]? = some (.map (entries l) l.length)
 ok : SlotOk l
 nodup : ∀ (i j : Nat) (s t : Slot), l[i]? = some s → l[j]? = some t → s.b = t.b → s.w = t.w → i = j
 rows : ∀ s ∈ l, W.ownsRow base 111 4 s.v s.ts.length (cellsOfT s.ts) ∧ s.ts.length ≤ ts.length
 apart : ∀ (i j : Nat) (s t : Slot), l[i]? = some s → l[j]? = some t → s.v.ownBlock = t.v.ownBlock → s.v.ownBlock ≠ none → i = j
 told : ∀ b k : Nat, b < 4 → k < 6 → (∃ s ∈ l, s.b = b ∧ s.w = k ∧ s.ts = ts.filter (isAt b k)) ∨ ((∀ s ∈ l, ¬ (s.b = b ∧ s.w = k)) ∧ ts.filter (isAt b k) = [])
theorem row_not_map {W : World} {base : Nat} {e : TypeId} {v : Value} {n : Nat} {xs : List Value} {bm : Nat} {es : Array MapEntry} {c : Nat} (h : W.ownsRow base e 4 v n xs) (hm : W.heap[bm]? = some (.map es c)) : v.ownBlock = none ∨ v.ownBlock ≠ some bm := by
 rcases h.2 with ⟨rfl, _⟩ | ⟨g, cap, cur, rfl, _, hg, _⟩
 ·exact .inl rfl
 ·refine .inr fun e => ?_
  simp only [Value.ownBlock, Option.some.injEq] at e
  subst e
  rw [hg] at hm; cases hm
theorem Tried.kept {A B : World} {bm base : Nat} {l : List Slot} {ts : List Trial} (h : Tried A bm base l ts) (k : Kept A B) : Tried B bm base l ts :=
 { h with map := (k.block bm (Array.getElem?_eq_some_iff.1 h.map).1).trans h.map, rows := fun s hs => ⟨(h.rows s hs).1.kept (row := none) ⟨k.os, k.tape, k.output, k.size, fun i hi _ => k.block i hi⟩ (by cases s.v.ownBlock <;> simp), (h.rows s hs).2⟩ }
theorem grown_set {W : World} {bm : Nat} {o : Obj} : W.grownBy (setBlock W bm o) (some bm) :=
 ⟨rfl, rfl, rfl, by simp [setBlock], fun i hi hne => by
  have : ¬ bm = i := fun e => hne (by rw [e])
  simp [setBlock, Array.getElem?_setIfInBounds_ne this]⟩
theorem set_same {W : World} {bm : Nat} {o : Obj} (h : bm < W.heap.size) : (setBlock W bm o).heap[bm]? = some o := by simp [setBlock, h]
theorem getElem?_snoc {α : Type} {l : List α} {a x : α} {i : Nat} (h : (l ++ [a])[i]? = some x) : l[i]? = some x ∨ (i = l.length ∧ x = a) := by
 rcases Nat.lt_trichotomy i l.length with hi | hi | hi
 ·rw [List.getElem?_append_left hi] at h; exact .inl h
 ·subst hi; right; exact ⟨rfl, by simpa using h.symm⟩
 ·rw [List.getElem?_eq_none (by simp; omega)] at h; cases h
theorem Tried.push {W : World} {bm base : Nat} {l : List Slot} {ts : List Trial} (h : Tried W bm base l ts) {b k : Nat} (hb : b < 4) (hk : k < 6) (hno : ∀ s ∈ l, ¬ (s.b = b ∧ s.w = k)) :
  Tried (setBlock W bm (.map (entries (l ++ [⟨b, k, .slice none 0 0, []⟩])) (l.length + 1))) bm base (l ++ [⟨b, k, .slice none 0 0, []⟩]) ts where
 map := by rw [set_same (Array.getElem?_eq_some_iff.1 h.map).1]; simp
 ok := fun s hs => by
  rcases List.mem_append.1 hs with hs | hs
  ·exact h.ok s hs
  ·simp only [List.mem_singleton] at hs; subst hs; exact ⟨hb, hk⟩
 nodup := fun i j s t hi hj e1 e2 => by
  rcases getElem?_snoc hi with hi | ⟨rfl, rfl⟩ <;> rcases getElem?_snoc hj with hj | ⟨rfl, rfl⟩
  ·exact h.nodup i j s t hi hj e1 e2
  ·exact absurd ⟨e1, e2⟩ (hno s (List.mem_of_getElem? hi))
  ·exact absurd ⟨e1.symm, e2.symm⟩ (hno t (List.mem_of_getElem? hj))
  ·rfl
 rows := fun s hs => by
  rcases List.mem_append.1 hs with hs | hs
  ·exact ⟨(h.rows s hs).1.kept grown_set (row_not_map (h.rows s hs).1 h.map), (h.rows s hs).2⟩
  ·simp only [List.mem_singleton] at hs; subst hs; exact ⟨World.ownsRow_nil _ _ _ _, Nat.zero_le _⟩
 apart := fun i j s t hi hj e1 e2 => by
  rcases getElem?_snoc hi with hi | ⟨rfl, rfl⟩ <;> rcases getElem?_snoc hj with hj | ⟨rfl, rfl⟩
  ·exact h.apart i j s t hi hj e1 e2
  ·rw [e1] at e2; exact absurd rfl e2
  ·exact absurd rfl e2
  ·rfl
 told := fun b' k' hb' hk' => by
  rcases h.told b' k' hb' hk' with ⟨s, hs, e⟩ | ⟨hn, he⟩
  ·exact .inl ⟨s, List.mem_append_left _ hs, e⟩
  ·by_cases e : b = b' ∧ k = k'
   ·obtain ⟨rfl, rfl⟩ := e
    exact .inl ⟨⟨b, k, .slice none 0 0, []⟩, by simp, rfl, rfl, he.symm⟩
   ·refine .inr ⟨fun s hs => ?_, he⟩
    rcases List.mem_append.1 hs with hs | hs
    ·exact hn s hs
    ·simp only [List.mem_singleton] at hs; subst hs; exact e
theorem Tried.append {W W4 : World} {bm base g cap j : Nat} {l : List Slot} {ts : List Trial} {s : Slot} {t : Trial} (h : Tried W bm base l ts) (hs : l[j]? = some s) (ht : isAt s.b s.w t = true)
  (hg : W.grownBy W4 s.v.ownBlock) (hown : W4.ownsRow base 111 4 (.slice (some ⟨g, 0, none⟩) (s.ts.length + 1) cap) (s.ts.length + 1) (cellsOfT s.ts ++ cellsT t)) (hat : s.v.ownBlock = some g ∨ g = W.heap.size) :
  Tried (setBlock W4 bm (.map (entries (l.set j { s with v := .slice (some ⟨g, 0, none⟩) (s.ts.length + 1) cap, ts := s.ts ++ [t] })) l.length)) bm base (l.set j { s with v := .slice (some ⟨g, 0, none⟩) (s.ts.length + 1) cap, ts := s.ts ++ [t] }) (ts ++ [t]) := by
 have hjl := (List.getElem?_eq_some_iff.1 hs).1
 have hmz := (Array.getElem?_eq_some_iff.1 h.map).1
 have hm4 : W4.heap[bm]? = some (.map (entries l) l.length) := (hg.block bm hmz (fun e => by
  rcases row_not_map (h.rows s (List.mem_of_getElem? hs)).1 h.map with h1 | h1
  ·rw [h1] at e; cases e
  ·exact h1 e.symm)).trans h.map
 have get : ∀ {i x}, (l.set j { s with v := .slice (some ⟨g, 0, none⟩) (s.ts.length + 1) cap, ts := s.ts ++ [t] })[i]? = some x → (i ≠ j ∧ l[i]? = some x) ∨ (i = j ∧ x = { s with v := .slice (some ⟨g, 0, none⟩) (s.ts.length + 1) cap, ts := s.ts ++ [t] }) := fun {i x} hx => by
  rw [List.getElem?_set] at hx
  by_cases e : j = i
  ·subst e; simp [hjl] at hx; exact .inr ⟨rfl, hx.symm⟩
  ·simp only [e, if_false] at hx; exact .inl ⟨fun h => e h.symm, hx⟩
 have ne_g : ∀ i x, i ≠ j → l[i]? = some x → x.v.ownBlock ≠ some g := fun i x hij hx e => by
  rcases hat with h1 | h1
  ·exact hij (h.apart i j x s hx hs (e.trans h1.symm) (by rw [e]; simp))
  ·have := ((h.rows x (List.mem_of_getElem? hx)).1.lt g e).2
   omega
 refine ⟨by rw [set_same (Array.getElem?_eq_some_iff.1 hm4).1]; simp, ?_, ?_, ?_, ?_, ?_⟩
 ·intro x hx
  obtain ⟨i, hi, rfl⟩ := List.getElem_of_mem hx
  rcases get (List.getElem?_eq_getElem hi) with ⟨_, h1⟩ | ⟨_, h1⟩
  ·exact h.ok _ (List.mem_of_getElem? h1)
  ·rw [h1]; exact h.ok s (List.mem_of_getElem? hs)
 ·intro i i' x y hi hi' e1 e2
  rcases get hi with ⟨n1, h1⟩ | ⟨rfl, rfl⟩ <;> rcases get hi' with ⟨n2, h2⟩ | ⟨rfl, rfl⟩
  ·exact h.nodup i i' x y h1 h2 e1 e2
  ·exact h.nodup i _ x s h1 hs e1 e2
  ·exact h.nodup _ i' s y hs h2 e1 e2
  ·rfl
 ·intro x hx
  obtain ⟨i, hi, rfl⟩ := List.getElem_of_mem hx
  have hset : ∀ {v n xs}, W4.ownsRow base 111 4 v n xs → (setBlock W4 bm (.map (entries (l.set j { s with v := .slice (some ⟨g, 0, none⟩) (s.ts.length + 1) cap, ts := s.ts ++ [t] })) l.length)).ownsRow base 111 4 v n xs := fun h4 => h4.kept grown_set (row_not_map h4 hm4)
  rcases get (List.getElem?_eq_getElem hi) with ⟨n1, h1⟩ | ⟨_, h1⟩
  ·have hr := h.rows _ (List.mem_of_getElem? h1)
   refine ⟨hset (hr.1.kept hg ?_), by simp; omega⟩
   cases hb : ((l.set j { s with v := .slice (some ⟨g, 0, none⟩) (s.ts.length + 1) cap, ts := s.ts ++ [t] })[i]).v.ownBlock with
   | none => exact .inl rfl
   | some g' => exact .inr fun e => n1 (h.apart i j _ s h1 hs (hb.trans e) (by rw [hb]; simp))
  ·rw [h1]
   refine ⟨?_, by have := (h.rows s (List.mem_of_getElem? hs)).2; simp; omega⟩
   have e : cellsOfT (s.ts ++ [t]) = cellsOfT s.ts ++ cellsT t := by simp [cellsOfT]
   rw [e]
   simpa using hset hown
 ·intro i i' x y hi hi' e1 e2
  rcases get hi with ⟨n1, h1⟩ | ⟨rfl, rfl⟩ <;> rcases get hi' with ⟨n2, h2⟩ | ⟨rfl, rfl⟩
  ·exact h.apart i i' x y h1 h2 e1 e2
  ·exact absurd e1 (ne_g _ _ n1 h1)
  ·exact absurd e1.symm (ne_g _ _ n2 h2)
  ·rfl
 ·intro b k hb hk
  have hf : (ts ++ [t]).filter (isAt b k) = ts.filter (isAt b k) ++ (if isAt b k t then [t] else []) := by
   rw [List.filter_append]; congr 1; simp only [List.filter_cons, List.filter_nil]
  have key : ∀ {b k b' k' : Nat}, isAt b k t = true → isAt b' k' t = true → b = b' ∧ k = k' := fun h1 h2 => by
   simp only [isAt, Bool.and_eq_true, decide_eq_true_eq] at h1 h2
   omega
  by_cases e : isAt b k t = true
  ·obtain ⟨rfl, rfl⟩ := key ht e
   refine .inl ⟨{ s with v := .slice (some ⟨g, 0, none⟩) (s.ts.length + 1) cap, ts := s.ts ++ [t] }, List.mem_of_getElem? (i := j) (by simp [List.getElem?_set, hjl]), rfl, rfl, ?_⟩
   rw [hf, if_pos e]
   rcases h.told s.b s.w hb hk with ⟨s', hs', e1, e2, e3⟩ | ⟨hno, _⟩
   ·obtain ⟨i, hi, rfl⟩ := List.getElem_of_mem hs'
    have := h.nodup i j _ s (List.getElem?_eq_getElem hi) hs e1 e2
    subst this
    rw [List.getElem?_eq_getElem hi] at hs
    cases hs
    rw [e3]
   ·exact absurd ⟨rfl, rfl⟩ (hno s (List.mem_of_getElem? hs))
  ·rw [hf, if_neg e, List.append_nil]
   rcases h.told b k hb hk with ⟨s', hs', e1, e2, e3⟩ | ⟨hno, he⟩
   ·obtain ⟨i, hi, rfl⟩ := List.getElem_of_mem hs'
    have hij : i ≠ j := by
     rintro rfl
     rw [List.getElem?_eq_getElem hi] at hs
     cases hs
     exact e (by rw [← e1, ← e2]; exact ht)
    exact .inl ⟨_, List.mem_of_getElem? (i := i) (by rw [List.getElem?_set, if_neg (Ne.symm hij)]; exact List.getElem?_eq_getElem hi), e1, e2, e3⟩
   ·refine .inr ⟨fun x hx => ?_, he⟩
    obtain ⟨i, hi, rfl⟩ := List.getElem_of_mem hx
    rcases get (List.getElem?_eq_getElem hi) with ⟨_, h1⟩ | ⟨_, h1⟩
    ·exact hno _ (List.mem_of_getElem? h1)
    ·rw [h1]; exact hno s (List.mem_of_getElem? hs)
theorem entry_any {W : World} {bm base : Nat} {l : List Slot} {ts : List Trial} (h : Tried W bm base l ts) {b k : Nat} (hb : b < 4) (hk : k < 6) :
  ∃ (W' : World) (l' : List Slot) (j : Nat) (s : Slot), (Instr.mapEntry 81 (.map (some bm)) (keyV b k)).run Tryz.prog W = .ok (.tuple #[s.v, .int .i64 (j : Int)]) W' ∧ Tried W' bm base l' ts ∧ l'[j]? = some s ∧ s.b = b ∧ s.w = k ∧ Turns (fun x => x = bm) W W' ∧ W'.heap.size = W.heap.size := by
 rcases find_slot W l h.ok hb hk with ⟨h1, hno⟩ | ⟨j, s, h1, hs, e1, e2⟩
 ·refine ⟨_, _, l.length, ⟨b, k, .slice none 0 0, []⟩, mapEntry_new W bm l hb hk h.map h1, h.push hb hk hno, by simp, rfl, rfl, ?_, by simp [setBlock]⟩
  have := grown_set (W := W) (bm := bm) (o := .map (entries (l ++ [⟨b, k, .slice none 0 0, []⟩])) (l.length + 1))
  exact ⟨this.os, this.tape, this.output, this.size, fun i hi hne => this.block i hi (fun e => hne (by cases e; rfl))⟩
 ·exact ⟨W, l, j, s, mapEntry_old W bm l _ hb hk h.map h1 hs e1 e2, h, hs, e1, e2, Turns.refl _ _, rfl⟩
theorem cellsOfT_get : ∀ (ts : List Trial) (i r : Nat) (t : Trial), ts[i]? = some t → r < 4 → (cellsOfT ts)[i * 4 + r]? = (cellsT t)[r]?
 | [], _, _, _, h, _ => by simp at h
 | x :: ts, 0, r, t, h, hr => by
  simp only [List.getElem?_cons_zero, Option.some.injEq] at h
  subst h
  show (cellsT x ++ cellsOfT ts)[0 * 4 + r]? = _
  rw [List.getElem?_append_left (by simp [cellsT]; omega)]; simp
 | x :: ts, i + 1, r, t, h, hr => by
  simp only [List.getElem?_cons_succ] at h
  have := cellsOfT_get ts i r t h hr
  show (cellsT x ++ cellsOfT ts)[(i + 1) * 4 + r]? = _
  rw [List.getElem?_append_right (by simp [cellsT]; omega), ← this]
  congr 1; simp [cellsT]; omega
theorem trials_of_row {W : World} {base : Nat} {v : Value} {ts : List Trial} (h : W.ownsRow base 111 4 v ts.length (cellsOfT ts)) :
  (v = .slice none 0 0 ∧ ts = []) ∨ ∃ b o cap, v = .slice (some ⟨b, o, none⟩) ts.length cap ∧ b < W.heap.size ∧ TrialsAt W b o ts := by
 rcases h.2 with ⟨rfl, h0⟩ | ⟨g, cap, cur, rfl, hb, hg, _⟩
 ·exact .inl ⟨rfl, List.eq_nil_of_length_eq_zero h0⟩
 ·have hz := (Array.getElem?_eq_some_iff.1 hg).1
  refine .inr ⟨g, 0, cap, rfl, hz, hz, fun i t hi => ?_⟩
  have hl : i < ts.length := (List.getElem?_eq_some_iff.1 hi).1
  have get : ∀ r u, r < 4 → (cellsT t)[r]? = some u → W.cell? ⟨g, 0 + i * 4 + r, none⟩ = some u := fun r u hr hu => by
   have := h.cells (g := g) rfl (i * 4 + r) u ((cellsOfT_get ts i r t hi hr).trans hu)
   have e : (⟨g, 0, none⟩ : Addr).add (i * 4 + r) = ⟨g, 0 + i * 4 + r, none⟩ := by
    rw [show 0 + i * 4 + r = 0 + (i * 4 + r) by omega]
    unfold Addr.add
    split
    ·rename_i h0; rw [h0]
    ·rfl
   rw [← e]; exact this
  exact ⟨get 0 _ (by omega) rfl, get 1 _ (by omega) rfl, get 2 _ (by omega) rfl, get 3 _ (by omega) rfl⟩
theorem Tried.look {W C : World} {bm base : Nat} {l : List Slot} {ts : List Trial} (h : Tried W bm base l ts) {S U : Nat → Prop} (k : Turns U W C) (hu1 : ¬ U bm) (hu2 : ∀ b, base ≤ b → ¬ U b) (hs1 : S bm) (hs2 : ∀ b, base ≤ b → b < C.heap.size → S b) {b wk : Nat} (hb : b < 4) (hk : wk < 6) :
  Look2 S C bm b wk (ts.filter (isAt b wk)) := by
 have hmz := (Array.getElem?_eq_some_iff.1 h.map).1
 have hC : C.heap[bm]? = some (.map (entries l) l.length) := (k.block bm hmz hu1).trans h.map
 have hn : ∀ s ∈ l, ∀ t ∈ l, s.b = t.b → s.w = t.w → s.v = t.v := fun s hs t ht e1 e2 => by
  obtain ⟨i, hi, rfl⟩ := List.getElem_of_mem hs
  obtain ⟨j, hj, rfl⟩ := List.getElem_of_mem ht
  have := h.nodup i j _ _ (List.getElem?_eq_getElem hi) (List.getElem?_eq_getElem hj) e1 e2
  subst this; rfl
 rcases h.told b wk hb hk with ⟨s, hs, e1, e2, e3⟩ | ⟨hno, he⟩
 ·refine ⟨s.v, hs1, Nat.lt_of_lt_of_le hmz k.size, fun W' hW' => lookup_slot C W' bm l _ h.ok hb hk hC hW' s.v (.inr ⟨s, hs, e1, e2, rfl⟩) hn, ?_⟩
  have hr := (h.rows s hs).1
  rw [← e3]
  rcases trials_of_row hr with hv | ⟨g, o, cap, hv, hz, ht⟩
  ·exact .inl hv
  ·have hg : ¬ U g := hu2 g (hr.lt g (by rw [hv]; rfl)).1
   exact .inr ⟨g, o, cap, hv, hs2 g (hr.lt g (by rw [hv]; rfl)).1 (Nat.lt_of_lt_of_le hz k.size), ht.turns k hg⟩
 ·refine ⟨.slice none 0 0, hs1, Nat.lt_of_lt_of_le hmz k.size, fun W' hW' => lookup_slot C W' bm l _ h.ok hb hk hC hW' _ (.inl ⟨rfl, hno⟩) hn, .inl ⟨rfl, he⟩⟩
theorem infoT : (Tryz.prog.info? 111).map (fun i => (i.zero, i.size, i.bytes)) = some (some (.agg #[.int .i64 0, .int .i64 0, .int .i64 0, .int .i64 0]), 4, 32) := by kernel_rfl
set_option maxHeartbeats 4000000 in
theorem newChoir_any (p q : Option Addr) (cap capt : Nat) (B : Book) (Wb W : World) (hok : B.okB = true) (hb : BookAt Wb p q cap capt B) (hkb : Kept Wb W) :
  Calls Tryz.prog 35 #[.agg #[.slice p B.boys.length cap, .int .i64 B.weeks, .slice q B.trials.length capt]] W fun e C => ∃ c : Choir, c.B = B ∧ e = .returned c.val ∧ Kept W C ∧ ChoirAt (fun b => b < C.heap.size ∧ (b < Wb.heap.size ∨ W.heap.size ≤ b)) C c := by
 have h := hb.kept hkb
 have hmm := @run_makeMap Tryz.prog
 go_enter Tryz.func35, Tryz.ntmps35
 go_wp2_with fail
 have hk0 : Kept W ((((W.alloc (Obj.cells #[.slice p B.boys.length cap, .int .i64 B.weeks, .slice q B.trials.length capt] 25)).alloc (Obj.cells #[.slice none 0 0, .int .i64 0, .slice none 0 0, .map none] 83)).alloc (Obj.map #[] 0)).alloc (Obj.cells #[.slice p B.boys.length cap, .int .i64 B.weeks, .slice q B.trials.length capt, .map (some (W.heap.size + 1 + 1))] 83)) := kept_alloc (kept_alloc (kept_alloc (kept_alloc (kept_refl _) _) _) _) _
 have hz0 : ((((W.alloc (Obj.cells #[.slice p B.boys.length cap, .int .i64 B.weeks, .slice q B.trials.length capt] 25)).alloc (Obj.cells #[.slice none 0 0, .int .i64 0, .slice none 0 0, .map none] 83)).alloc (Obj.map #[] 0)).alloc (Obj.cells #[.slice p B.boys.length cap, .int .i64 B.weeks, .slice q B.trials.length capt, .map (some (W.heap.size + 1 + 1))] 83)).heap.size = W.heap.size + 4 := by simp
 have hmap : ((((W.alloc (Obj.cells #[.slice p B.boys.length cap, .int .i64 B.weeks, .slice q B.trials.length capt] 25)).alloc (Obj.cells #[.slice none 0 0, .int .i64 0, .slice none 0 0, .map none] 83)).alloc (Obj.map #[] 0)).alloc (Obj.cells #[.slice p B.boys.length cap, .int .i64 B.weeks, .slice q B.trials.length capt, .map (some (W.heap.size + 1 + 1))] 83)).heap[W.heap.size + 1 + 1]? = some (.map #[] 0) := by
  have h1 := World.alloc_heap_new ((W.alloc (Obj.cells #[.slice p B.boys.length cap, .int .i64 B.weeks, .slice q B.trials.length capt] 25)).alloc (Obj.cells #[.slice none 0 0, .int .i64 0, .slice none 0 0, .map none] 83)) (Obj.map #[] 0)
  simp only [World.size_alloc] at h1
  exact (Below.heap_alloc _ _ _ (by simp)).trans h1
 have ZZ : ∀ Z, Z = ((((W.alloc (Obj.cells #[.slice p B.boys.length cap, .int .i64 B.weeks, .slice q B.trials.length capt] 25)).alloc (Obj.cells #[.slice none 0 0, .int .i64 0, .slice none 0 0, .map none] 83)).alloc (Obj.map #[] 0)).alloc (Obj.cells #[.slice p B.boys.length cap, .int .i64 B.weeks, .slice q B.trials.length capt, .map (some (W.heap.size + 1 + 1))] 83)) → Z.cell? ⟨W.heap.size + 1 + 1 + 1, 0, none⟩ = some (.slice p B.boys.length cap) ∧ Z.cell? ⟨W.heap.size + 1 + 1 + 1, 1, none⟩ = some (.int .i64 B.weeks) ∧ Z.cell? ⟨W.heap.size + 1 + 1 + 1, 2, none⟩ = some (.slice q B.trials.length capt) ∧ Z.cell? ⟨W.heap.size + 1 + 1 + 1, 3, none⟩ = some (.map (some (W.heap.size + 1 + 1))) ∧ Z.cell? ⟨W.heap.size + 1, 0, none⟩ = some (.slice none 0 0) ∧ Z.cell? ⟨W.heap.size + 1, 1, none⟩ = some (.int .i64 0) ∧ Z.cell? ⟨W.heap.size + 1, 2, none⟩ = some (.slice none 0 0) ∧ Z.cell? ⟨W.heap.size + 1, 3, none⟩ = some (.map none) := by rintro _ rfl; refine ⟨?_, ?_, ?_, ?_, ?_, ?_, ?_, ?_⟩ <;> go_simp
 obtain ⟨c0, c1, c2, c3, d0, d1, d2, d3⟩ := ZZ _ rfl; clear ZZ
 have df : ∀ i, ((((W.alloc (Obj.cells #[.slice p B.boys.length cap, .int .i64 B.weeks, .slice q B.trials.length capt] 25)).alloc (Obj.cells #[.slice none 0 0, .int .i64 0, .slice none 0 0, .map none] 83)).alloc (Obj.map #[] 0)).alloc (Obj.cells #[.slice p B.boys.length cap, .int .i64 B.weeks, .slice q B.trials.length capt, .map (some (W.heap.size + 1 + 1))] 83)).frozen? ⟨W.heap.size + 1, i, none⟩ = false := by intro i; go_simp
 generalize ((((W.alloc (Obj.cells #[.slice p B.boys.length cap, .int .i64 B.weeks, .slice q B.trials.length capt] 25)).alloc (Obj.cells #[.slice none 0 0, .int .i64 0, .slice none 0 0, .map none] 83)).alloc (Obj.map #[] 0)).alloc (Obj.cells #[.slice p B.boys.length cap, .int .i64 B.weeks, .slice q B.trials.length capt, .map (some (W.heap.size + 1 + 1))] 83)) = V0 at *
 generalize hcb : W.heap.size + 1 + 1 + 1 = cb at *
 generalize hbm : W.heap.size + 1 + 1 = bm at *
 generalize hrb : W.heap.size + 1 = rb at *
 have hbook : ∀ (i : Nat) (x : Trial), B.trials[i]? = some x → validTrialB B.boys.length B.weeks.toNat x = true := by
  simp only [Book.okB, Bool.and_eq_true, List.all_eq_true] at hok
  exact fun i x hx => hok.2 x (List.mem_of_getElem? hx)
 have hlen : B.boys.length ≤ 4 ∧ B.weeks ≤ 6 ∧ B.trials.length ≤ 6 := by
  simp only [Book.okB, inB, Bool.and_eq_true, decide_eq_true_eq] at hok
  omega
 go_loopw [13] (fun i V => ∃ (j : Nat) (l : List Slot), j ≤ B.trials.length ∧ i = .int .i64 j ∧ Tried V bm (W.heap.size + 4) l (B.trials.take j) ∧ Turns (fun b => b = bm ∨ W.heap.size + 4 ≤ b) V0 V) (fun i V => B.trials.length - (intOf i).toNat)
 case atStart =>
  exact ⟨0, [], by omega, rfl, ⟨hmap, (fun s hs => nomatch hs), (fun i j s t h => by simp at h), (fun s hs => nomatch hs), (fun i j s t h => by simp at h), (fun b k _ _ => .inr ⟨(fun s hs => nomatch hs), rfl⟩)⟩, Turns.refl _ _⟩
 case round =>
  obtain ⟨j, l, hj, rfl, hT, hV⟩ := hrel
  by_cases hlt : j < B.trials.length
  ·have hltI : (j : Int) < B.trials.length := by omega
   have hget : B.trials[j]? = some B.trials[j] := List.getElem?_eq_getElem hlt
   generalize B.trials[j] = t at *
   rcases h.trials with h00 | ⟨bT, oT, rfl, hTT⟩
   ·rw [h00] at hlt; cases hlt
   have hTV := (hTT.kept hk0).turns hV (by have := hTT.1; omega)
   obtain ⟨t0, t1, t2, t3⟩ := hTV.2 j t hget
   have hbT := hTV.1
   have e3 := tcell hV (by omega) c3
   have hzc := Go.Ai.lt_of_cell e3
   have HT := Lib.hid hT; clear hT
   have HG := Lib.hid hget; clear hget
   have HB := Lib.hid hbook; clear hbook
   have HH := Lib.hid h; clear h
   clear hTT hTV hmap
   have hval := HB.out j t HG.out
   obtain ⟨tb, tw, tn, tg⟩ := t
   simp only [validTrialB, inB, Bool.and_eq_true, decide_eq_true_eq] at hval
   simp only at t0 t1 t2 t3
   obtain ⟨b, rfl⟩ := Int.eq_ofNat_of_zero_le (show 0 ≤ tb by omega)
   obtain ⟨k, rfl⟩ := Int.eq_ofNat_of_zero_le (show 0 ≤ tw by omega)
   have hb4 : b < 4 := by omega
   have hk6 : k < 6 := by omega
   have HV := Lib.hid hval; clear hval
   go_wp2_with fail
   have hk3 : Kept wr (((wr.alloc (Obj.cells #[.int .i64 (b : Int), .int .i64 (k : Int), .int .i64 tn, .int .i64 tg] 111)).alloc (Obj.cells #[.int .i64 (b : Int), .int .i64 (k : Int)] 113)).alloc (Obj.cells #[.int .i64 (b : Int), .int .i64 (k : Int), .int .i64 tn, .int .i64 tg] 111)) := kept_alloc (kept_alloc (kept_alloc (kept_refl _) _) _) _
   have hz3 : (((wr.alloc (Obj.cells #[.int .i64 (b : Int), .int .i64 (k : Int), .int .i64 tn, .int .i64 tg] 111)).alloc (Obj.cells #[.int .i64 (b : Int), .int .i64 (k : Int)] 113)).alloc (Obj.cells #[.int .i64 (b : Int), .int .i64 (k : Int), .int .i64 tn, .int .i64 tg] 111)).heap.size = wr.heap.size + 3 := by simp
   have hnb : (((wr.alloc (Obj.cells #[.int .i64 (b : Int), .int .i64 (k : Int), .int .i64 tn, .int .i64 tg] 111)).alloc (Obj.cells #[.int .i64 (b : Int), .int .i64 (k : Int)] 113)).alloc (Obj.cells #[.int .i64 (b : Int), .int .i64 (k : Int), .int .i64 tn, .int .i64 tg] 111)).heap[wr.heap.size + 1 + 1]? = some (.cells #[.int .i64 (b : Int), .int .i64 (k : Int), .int .i64 tn, .int .i64 tg] 111 (0, 0)) := by
    have h1 := World.alloc_heap_new ((wr.alloc (Obj.cells #[.int .i64 (b : Int), .int .i64 (k : Int), .int .i64 tn, .int .i64 tg] 111)).alloc (Obj.cells #[.int .i64 (b : Int), .int .i64 (k : Int)] 113)) (Obj.cells #[.int .i64 (b : Int), .int .i64 (k : Int), .int .i64 tn, .int .i64 tg] 111)
    simp only [World.size_alloc] at h1
    exact h1
   generalize (((wr.alloc (Obj.cells #[.int .i64 (b : Int), .int .i64 (k : Int), .int .i64 tn, .int .i64 tg] 111)).alloc (Obj.cells #[.int .i64 (b : Int), .int .i64 (k : Int)] 113)).alloc (Obj.cells #[.int .i64 (b : Int), .int .i64 (k : Int), .int .i64 tn, .int .i64 tg] 111)) = W3 at *
   obtain ⟨W3', l', j', s, hme, hT', hs, e1, e2, hW3, hz3'⟩ := entry_any (HT.out.kept hk3) hb4 hk6
   unfold keyV at hme
   rw [hme]
   have HT' := Lib.hid hT'; clear hT'
   have hbmz : bm < wr.heap.size := (Array.getElem?_eq_some_iff.1 HT.out.map).1
   have hnews := World.news_of_block ((hW3.block _ (by omega) (by omega)).trans hnb)
   obtain ⟨i0, hi, hiz, his, hib⟩ := info_parts infoT
   have hrow := (HT'.out.rows s (List.mem_of_getElem? hs)).1
   have hrl : s.ts.length ≤ 6 := by
    have := (HT'.out.rows s (List.mem_of_getElem? hs)).2
    simp only [List.length_take] at this
    omega
   have hbase : W.heap.size + 4 ≤ wr.heap.size := by have := hV.size; omega
   go_wp2_with (at_builtin; refine wpList_append_lies _ rfl _ _ 23 rfl (W.heap.size + 4) 111 i0 _ 4 32 Tryz.underlying23 hi hiz his hib rfl (by decide) s.v s.ts.length _ rfl hrow ⟨wr.heap.size + 1 + 1, 0, none⟩ 1 1 [.int .i64 (b : Int), .int .i64 (k : Int), .int .i64 tn, .int .i64 tg] rfl rfl hnews (by simp [Value.oneCell']) (by decide) (by unfold maxLen; omega) (by omega) (by omega) _ rfl ?_; intro g cap' W4 hown hgrow hat hlt4)
   have hm4 : W4.heap[bm]? = some (.map (entries l') l'.length) := (hgrow.block bm (by omega) (fun e => by
    rcases row_not_map hrow HT'.out.map with h1 | h1
    ·rw [h1] at e; cases e
    ·exact h1 e.symm)).trans HT'.out.map
   have hes := entryStore_at W4 bm l' l'.length j' s (.slice (some ⟨g, 0, none⟩) (s.ts.length + 1) cap') (s.ts ++ [⟨(b : Int), (k : Int), tn, tg⟩]) hm4 hs
   have htk : B.trials.take (j + 1) = B.trials.take j ++ [⟨(b : Int), (k : Int), tn, tg⟩] := by
    rw [List.take_succ, HG.out]; rfl
   have hend := HT'.out.append (t := ⟨(b : Int), (k : Int), tn, tg⟩) hs (by simp [isAt, e1, e2]) hgrow hown hat
   rw [← htk] at hend
   have hT4 : Turns (fun b => b = bm ∨ W.heap.size + 4 ≤ b) W3' W4 := ⟨hgrow.os, hgrow.tape, hgrow.output, hgrow.size, fun i hi hne => hgrow.block i hi (fun e => hne (.inr (hrow.lt i e.symm).1))⟩
   have hTs := grown_set (W := W4) (bm := bm) (o := .map (entries (l'.set j' { s with v := .slice (some ⟨g, 0, none⟩) (s.ts.length + 1) cap', ts := s.ts ++ [⟨(b : Int), (k : Int), tn, tg⟩] })) l'.length)
   have hT5 : Turns (fun b => b = bm ∨ W.heap.size + 4 ≤ b) V0 (setBlock W4 bm (.map (entries (l'.set j' { s with v := .slice (some ⟨g, 0, none⟩) (s.ts.length + 1) cap', ts := s.ts ++ [⟨(b : Int), (k : Int), tn, tg⟩] })) l'.length)) :=
    (((hV.trans (Ext.refl _ _) (kturns hk3 _)).trans (Ext.refl _ _) (hW3.mono fun _ _ h => .inl h)).trans (Ext.refl _ _) hT4).trans (Ext.refl _ _)
     ⟨hTs.os, hTs.tape, hTs.output, hTs.size, fun i hi hne => hTs.block i hi (fun e => hne (.inl (by cases e; rfl)))⟩
   have HEND : Hid (∃ (j2 : Nat) (l2 : List Slot), j2 ≤ B.trials.length ∧ Value.int .i64 ((j : Int) + 1) = .int .i64 (j2 : Int) ∧ Tried (setBlock W4 bm (.map (entries (l'.set j' { s with v := .slice (some ⟨g, 0, none⟩) (s.ts.length + 1) cap', ts := s.ts ++ [⟨(b : Int), (k : Int), tn, tg⟩] })) l'.length)) bm (W.heap.size + 4) l2 (B.trials.take j2) ∧ Turns (fun b => b = bm ∨ W.heap.size + 4 ≤ b) V0 (setBlock W4 bm (.map (entries (l'.set j' { s with v := .slice (some ⟨g, 0, none⟩) (s.ts.length + 1) cap', ts := s.ts ++ [⟨(b : Int), (k : Int), tn, tg⟩] })) l'.length))) :=
    Lib.hid ⟨j + 1, _, by omega, by simp, hend, hT5⟩
   clear hend hT5 hTs hT4
   rw [hes]
   clear hes hm4 hown hgrow hat hrow
   generalize setBlock W4 bm (.map (entries (l'.set j' { s with v := .slice (some ⟨g, 0, none⟩) (s.ts.length + 1) cap', ts := s.ts ++ [⟨(b : Int), (k : Int), tn, tg⟩] })) l'.length) = W5 at *
   go_wp2_with fail
   go_roundw
   case rel => exact HEND.out
   case measure => simp [intOf]; omega
  ·have hltI : ¬ (j : Int) < B.trials.length := by omega
   have e0 := tcell hV (by omega) c0
   have e1 := tcell hV (by omega) c1
   have e2 := tcell hV (by omega) c2
   have e3 := tcell hV (by omega) c3
   have g0 := tcell hV (by omega) d0
   have g1 := tcell hV (by omega) d1
   have g2 := tcell hV (by omega) d2
   have g3 := tcell hV (by omega) d3
   have gf : ∀ i, wr.frozen? ⟨rb, i, none⟩ = false := fun i => (hV.frozen (by omega) (by omega)).trans (df i)
   have gf0 := gf 0
   have gf1 := gf 1
   have gf2 := gf 2
   have gf3 := gf 3
   go_wp2_with fail
   have hje : j = B.trials.length := by omega
   have hTC : Turns (fun b => b = rb) wr ((((wr.setCell ⟨rb, 0, none⟩ (.slice p B.boys.length cap)).setCell ⟨rb, 1, none⟩ (.int .i64 B.weeks)).setCell ⟨rb, 2, none⟩ (.slice q B.trials.length capt)).setCell ⟨rb, 3, none⟩ (.map (some bm))) := ((((Turns.refl (fun b => b = rb) wr).setCell rfl _ _).setCell rfl _ _).setCell rfl _ _).setCell rfl _ _
   have ZZ : ∀ Z, Z = ((((wr.setCell ⟨rb, 0, none⟩ (.slice p B.boys.length cap)).setCell ⟨rb, 1, none⟩ (.int .i64 B.weeks)).setCell ⟨rb, 2, none⟩ (.slice q B.trials.length capt)).setCell ⟨rb, 3, none⟩ (.map (some bm))) → Z.cell? ⟨rb, 0, none⟩ = some (.slice p B.boys.length cap) ∧ Z.cell? ⟨rb, 1, none⟩ = some (.int .i64 B.weeks) ∧ Z.cell? ⟨rb, 2, none⟩ = some (.slice q B.trials.length capt) ∧ Z.cell? ⟨rb, 3, none⟩ = some (.map (some bm)) := by rintro _ rfl; refine ⟨?_, ?_, ?_, ?_⟩ <;> go_simp
   obtain ⟨r0, r1, r2, r3⟩ := ZZ _ rfl; clear ZZ
   generalize ((((wr.setCell ⟨rb, 0, none⟩ (.slice p B.boys.length cap)).setCell ⟨rb, 1, none⟩ (.int .i64 B.weeks)).setCell ⟨rb, 2, none⟩ (.slice q B.trials.length capt)).setCell ⟨rb, 3, none⟩ (.map (some bm))) = C at *
   have hbl : B.boys ≠ [] := by
    intro e
    simp only [Book.okB, inB, Bool.and_eq_true, decide_eq_true_eq] at hok
    rw [e] at hok; simp at hok
   obtain ⟨bb, ob, rfl, hboysb⟩ : ∃ b o, p = some ⟨b, o, none⟩ ∧ BoysAt Wb b o B.boys := hb.boys.resolve_left hbl
   have hboys := hboysb.kept hkb
   have hWC : Kept W C := by
    refine Below.trans (Below.trans hk0 (hV.toBelow (n := W.heap.size) ?_ (by omega))) (hTC.toBelow (n := W.heap.size) ?_ ?_)
    ·rintro b (rfl | h) <;> omega
    ·rintro b rfl; omega
    ·have := hV.size; omega
   refine bodyPost_ret (v := .agg #[.slice (some ⟨bb, ob, none⟩) B.boys.length cap, .int .i64 B.weeks, .slice q B.trials.length capt, .map (some bm)]) (by simp [results, Tryz.results35, go_sem, r0, r1, r2, r3]) rfl ?_
   refine ⟨⟨bb, ob, cap, capt, q, bm, B⟩, rfl, rfl, hWC, hok, ?_, hboys.kept hWC, ?_, ?_, hb.nt.2⟩
   ·exact ⟨Nat.lt_of_lt_of_le hboys.1 hWC.size, .inl hboysb.1⟩
   ·rcases hb.trials with h1 | ⟨b, o, e, ht⟩
    ·exact .inl h1
    ·exact .inr ⟨b, o, e, ⟨Nat.lt_of_lt_of_le (ht.kept hkb).1 hWC.size, .inl ht.1⟩, (ht.kept hkb).kept hWC⟩
   ·intro boy wk hb5 hw
    have hT' := hT
    rw [hje, List.take_length] at hT'
    exact hT'.look hTC (by omega) (by rintro b hb2 rfl; omega) ⟨by have := hTC.size; have := (Array.getElem?_eq_some_iff.1 hT.map).1; omega, .inr (by omega)⟩ (fun b hb2 hb3 => ⟨hb3, .inr (by omega)⟩) (by have h5 : boy < B.boys.length := hb5; omega) (by have h6 : (wk : Int) < B.weeks := hw; omega)
end Go.Proofs.YtcllfjjhijkakaaGreatDoor
namespace Go.Proofs.YtcllfjjhijkakaaGreatDoor
open Go.RowKit Go.Sort Go.Rg
set_option maxRecDepth 100000
theorem eq_no (k : Nat) (n1 n2 n3 n4 : Int) (w : World) : (Op.equalIn 10000 115 (.agg #[.int .i64 (k : Int), .int .i64 n1, .int .i64 n2, .int .i64 n3, .int .i64 n4]) (.agg #[.int .i64 (-1), .int .i64 (-1), .int .i64 (-1), .int .i64 (-1), .int .i64 (-1)])).run Tryz.prog w = .ok false w := by kernel_rfl
theorem eq_yes (w : World) : (Op.equalIn 10000 115 (.agg #[.int .i64 (-1), .int .i64 (-1), .int .i64 (-1), .int .i64 (-1), .int .i64 (-1)]) (.agg #[.int .i64 (-1), .int .i64 (-1), .int .i64 (-1), .int .i64 (-1), .int .i64 (-1)])).run Tryz.prog w = .ok true w := by kernel_rfl
attribute [local go_sem] eq_no eq_yes
theorem gen_rng {lo hi : Nat → Int} {boy : Int} {lt : List Trial} {kp : List Int → Bool} : ∀ (d : Nat) (pre x : List Int), x ∈ gen lo hi boy lt kp d pre → Rng lo hi pre → Rng lo hi x
 | 0, pre, x, h, hr => by
  unfold gen at h
  split at h
  ·simp at h; rw [h]; exact hr
  ·cases h
 | d + 1, pre, x, h, hr => by
  unfold gen at h
  simp only [List.mem_flatten, List.mem_map] at h
  obtain ⟨l, ⟨m, hm, rfl⟩, hx⟩ := h
  split at hx
  ·cases hx
  ·have := List.mem_range.1 hm
   exact gen_rng d _ x hx (hr.snoc (by omega) (by omega))
theorem truths_rng {B : Book} {boy : Nat} {x : Boy} {n : List Int} (h : n ∈ B.truths boy x) : Rng x.lo x.hi n := gen_rng 5 [] n h (fun i v h => by simp at h)
theorem first_cases {B : Book} {boy : Nat} {x : Boy} (hx : x.okB = true) : (B.truths boy x = [] ∧ firstOf (B.truths boy x) = [-1, -1, -1, -1, -1]) ∨ (B.truths boy x ≠ [] ∧ ∃ (k : Nat) (n1 n2 n3 n4 : Int), firstOf (B.truths boy x) = [(k : Int), n1, n2, n3, n4]) := by
 cases ht : B.truths boy x with
 | nil => exact .inl ⟨rfl, rfl⟩
 | cons y ys =>
  refine .inr ⟨by simp, ?_⟩
  have hm : y ∈ B.truths boy x := by rw [ht]; exact List.mem_cons_self
  obtain ⟨n0, n1, n2, n3, n4, rfl⟩ := truths_len hm
  have h0 := truths_rng hm 0 n0 rfl
  have h1 := (spanAt_ok x hx).1 0 (by omega)
  obtain ⟨k, rfl⟩ := Int.eq_ofNat_of_zero_le (show 0 ≤ n0 by omega)
  exact ⟨k, n1, n2, n3, n4, rfl⟩
def Nothing (W : World) : Prop := ∀ i, i < 5 → W.cell? ⟨0, i, none⟩ = some (.int .i64 (-1))
theorem Nothing.kept {A B : World} (h : Nothing A) (k : Kept A B) : Nothing B := fun i hi => kcell k (h i hi)
def CanP (B : Book) (r : Bool) : Prop := r = true ↔ ∀ (boy : Nat) (x : Boy), B.boys[boy]? = some x → B.truths boy x ≠ []
set_option maxHeartbeats 4000000 in
theorem canBeTrue_any (S : Nat → Prop) (c : Choir) (W : World) (h : ChoirAt S W c) (hS : ∀ b, S b → b < W.heap.size) (hg : Nothing W) :
  Calls Tryz.prog 36 #[c.val] W (ToldB (CanP c.B) W) := by
 have hlen : 1 ≤ c.B.boys.length ∧ c.B.boys.length ≤ 4 := by
  have := h.ok
  simp only [Book.okB, inB, Bool.and_eq_true, decide_eq_true_eq] at this
  omega
 have hbo : ∀ (i : Nat) (x : Boy), c.B.boys[i]? = some x → x.okB = true := by
  have := h.ok
  simp only [Book.okB, Bool.and_eq_true, List.all_eq_true] at this
  exact fun i x hx => this.1.2 x (List.mem_of_getElem? hx)
 unfold Choir.val
 go_enter Tryz.func36, Tryz.ntmps36
 go_wp2_with fail
 have hk0 : Kept W (W.alloc (Obj.cells #[.slice (some ⟨c.bb, c.ob, none⟩) c.B.boys.length c.capb, .int .i64 c.B.weeks, .slice c.q c.B.trials.length c.capt, .map (some c.bm)] 83)) := kept_alloc (kept_refl _) _
 have hz0 : (W.alloc (Obj.cells #[.slice (some ⟨c.bb, c.ob, none⟩) c.B.boys.length c.capb, .int .i64 c.B.weeks, .slice c.q c.B.trials.length c.capt, .map (some c.bm)] 83)).heap.size = W.heap.size + 1 := by simp
 have ZZ : ∀ Z, Z = (W.alloc (Obj.cells #[.slice (some ⟨c.bb, c.ob, none⟩) c.B.boys.length c.capb, .int .i64 c.B.weeks, .slice c.q c.B.trials.length c.capt, .map (some c.bm)] 83)) → Z.cell? ⟨W.heap.size, 0, none⟩ = some (.slice (some ⟨c.bb, c.ob, none⟩) c.B.boys.length c.capb) ∧ Z.cell? ⟨W.heap.size, 1, none⟩ = some (.int .i64 c.B.weeks) ∧ Z.cell? ⟨W.heap.size, 2, none⟩ = some (.slice c.q c.B.trials.length c.capt) ∧ Z.cell? ⟨W.heap.size, 3, none⟩ = some (.map (some c.bm)) := by rintro _ rfl; refine ⟨?_, ?_, ?_, ?_⟩ <;> go_simp
 obtain ⟨c0, c1, c2, c3⟩ := ZZ _ rfl; clear ZZ
 generalize W.alloc (Obj.cells #[.slice (some ⟨c.bb, c.ob, none⟩) c.B.boys.length c.capb, .int .i64 c.B.weeks, .slice c.q c.B.trials.length c.capt, .map (some c.bm)] 83) = V0 at *
 go_loopw [8] (fun i V => ∃ j : Nat, j ≤ c.B.boys.length ∧ i = .int .i64 j ∧ (∀ (boy : Nat) (x : Boy), boy < j → c.B.boys[boy]? = some x → c.B.truths boy x ≠ []) ∧ Kept V0 V) (fun i V => c.B.boys.length - (intOf i).toNat)
 case atStart => exact ⟨0, by omega, rfl, fun boy x hb => by omega, kept_refl _⟩
 case round =>
  obtain ⟨j, hj, rfl, hno, hV⟩ := hrel
  have HNO := Lib.hid hno; clear hno
  have hkV := kept_trans hk0 hV
  by_cases hlt : j < c.B.boys.length
  ·have hltI : (j : Int) < c.B.boys.length := by omega
   have hget : c.B.boys[j]? = some c.B.boys[j] := List.getElem?_eq_getElem hlt
   generalize c.B.boys[j] = x at *
   have d0 : ∀ d os, (grow (redrawn wr d) os).cell? ⟨W.heap.size, 0, none⟩ = some (.slice (some ⟨c.bb, c.ob, none⟩) c.B.boys.length c.capb) := cell_regrown (kcell hV c0)
   have d1 : ∀ d os, (grow (redrawn wr d) os).cell? ⟨W.heap.size, 1, none⟩ = some (.int .i64 c.B.weeks) := cell_regrown (kcell hV c1)
   have d2 : ∀ d os, (grow (redrawn wr d) os).cell? ⟨W.heap.size, 2, none⟩ = some (.slice c.q c.B.trials.length c.capt) := cell_regrown (kcell hV c2)
   have d3 : ∀ d os, (grow (redrawn wr d) os).cell? ⟨W.heap.size, 3, none⟩ = some (.map (some c.bm)) := cell_regrown (kcell hV c3)
   have g0 : ∀ d os, (grow (redrawn wr d) os).cell? ⟨0, 0, none⟩ = some (.int .i64 (-1)) := cell_regrown ((hg.kept hkV) 0 (by omega))
   have g1 : ∀ d os, (grow (redrawn wr d) os).cell? ⟨0, 1, none⟩ = some (.int .i64 (-1)) := cell_regrown ((hg.kept hkV) 1 (by omega))
   have g2 : ∀ d os, (grow (redrawn wr d) os).cell? ⟨0, 2, none⟩ = some (.int .i64 (-1)) := cell_regrown ((hg.kept hkV) 2 (by omega))
   have g3 : ∀ d os, (grow (redrawn wr d) os).cell? ⟨0, 3, none⟩ = some (.int .i64 (-1)) := cell_regrown ((hg.kept hkV) 3 (by omega))
   have g4 : ∀ d os, (grow (redrawn wr d) os).cell? ⟨0, 4, none⟩ = some (.int .i64 (-1)) := cell_regrown ((hg.kept hkV) 4 (by omega))
   have hca : ∀ d os, Calls Tryz.prog 55 #[.agg #[.slice (some ⟨c.bb, c.ob, none⟩) c.B.boys.length c.capb, .int .i64 c.B.weeks, .slice c.q c.B.trials.length c.capt, .map (some c.bm)], .int .i64 (j : Int)] (grow (redrawn wr d) os) fun e w'' => e = .returned (numsV (firstOf (c.B.truths j x))) ∧ ∃ p : Regrown, w'' = grow (redrawn wr p.d) p.os := by
    intro d os
    have hkx := kept_trans hkV (below_regrown wr d os)
    exact Calls.regrown_of (first_any S c j x hget _ (h.turns (kturns hkx (fun _ => False)) (fun _ _ h => h)) (fun b hb => Nat.lt_of_lt_of_le (hS b hb) hkx.size) (hg.kept hkx))
   rcases first_cases (B := c.B) (boy := j) (hbo j x hget) with ⟨ht, hf⟩ | ⟨ht, k, n1, n2, n3, n4, hf⟩
   ·rw [hf] at hca
    simp only [numsV, List.map_cons, List.map_nil] at hca
    have HCA := Lib.hid hca; clear hca
    have hey := eq_yes
    have HP : Hid (¬ ∀ (boy : Nat) (x : Boy), c.B.boys[boy]? = some x → c.B.truths boy x ≠ []) := Lib.hid (fun hh => hh j x hget ht)
    clear hget hbo hf ht
    go_wp2_with fail
    refine wp_region_quiet_below (by kernel_rfl) (by kernel_rfl) ?_
    repeat (any_goals (quiet_step (first | exact HCA.out _ _)))
    refine wpQuiet_nil ?_
    rintro _ ⟨⟨dq, osq⟩, rfl⟩
    have hkq := kept_trans hkV (below_regrown wr dq osq)
    clear d0 d1 d2 d3 g0 g1 g2 g3 g4
    go_wp2_with fail
    go_ret
    exact ⟨false, (show CanP _ _ from ⟨(fun h => by cases h), (fun h => absurd h HP.out)⟩), rfl, hkq⟩
   ·rw [hf] at hca
    simp only [numsV, List.map_cons, List.map_nil] at hca
    have HCA := Lib.hid hca; clear hca
    have HNEW : Hid (∀ (boy : Nat) (x : Boy), boy < j + 1 → c.B.boys[boy]? = some x → c.B.truths boy x ≠ []) := Lib.hid (by
     intro boy y hb hg2
     by_cases e : boy = j
     ·subst e; rw [hget] at hg2; cases hg2; exact ht
     ·exact HNO.out boy y (by omega) hg2)
    clear hget hbo hf ht
    go_wp2_with fail
    refine wp_region_quiet_below (by kernel_rfl) (by kernel_rfl) ?_
    repeat (any_goals (quiet_step (first | exact HCA.out _ _)))
    refine wpQuiet_nil ?_
    rintro _ ⟨⟨dq, osq⟩, rfl⟩
    have hkq := kept_trans hV (below_regrown wr dq osq)
    clear d0 d1 d2 d3 g0 g1 g2 g3 g4
    go_wp2_with fail
    go_roundw
    case rel => exact ⟨j + 1, by omega, by go_num, HNEW.out, hkq⟩
    case measure => simp [intOf]; omega
  ·have hltI : ¬ (j : Int) < c.B.boys.length := by omega
   go_wp2_with fail
   go_ret
   exact ⟨true, (show CanP _ _ from ⟨(fun _ boy x hx => HNO.out boy x (by have := (List.getElem?_eq_some_iff.1 hx).1; omega) hx), (fun _ => rfl)⟩), rfl, hkV⟩
end Go.Proofs.YtcllfjjhijkakaaGreatDoor
namespace Go.Proofs.YtcllfjjhijkakaaGreatDoor
open Go.RowKit Go.Sort Go.Rg
set_option maxRecDepth 100000
def zeroChoir : Value := .agg #[.slice none 0 0, .int .i64 0, .slice none 0 0, .map none]
def Can (B : Book) : Prop := ∀ (boy : Nat) (x : Boy), B.boys[boy]? = some x → B.truths boy x ≠ []
def OpenP (B : Book) (asked : Bool) (n0 : Nat) (W : World) (e : Ending) (C : World) : Prop :=
 ∃ v err, e = .returned (.tuple #[v, .int .i64 err]) ∧ Kept W C ∧
  ((err = 0 ∧ B.okB = true ∧ asked = true ∧ Can B ∧ ∃ c : Choir, c.B = B ∧ v = c.val ∧ ChoirAt (fun b => b < C.heap.size ∧ (b < n0 ∨ W.heap.size ≤ b)) C c) ∨
   (v = zeroChoir ∧ ((err = 20 ∧ B.okB = false) ∨ (err = 21 ∧ B.okB = true ∧ asked = false) ∨ (err = 22 ∧ B.okB = true ∧ asked = true ∧ ¬ Can B))))
def Book.val (B : Book) (p q : Option Addr) (cap capt : Nat) : Value := .agg #[.slice p B.boys.length cap, .int .i64 B.weeks, .slice q B.trials.length capt]
set_option maxHeartbeats 4000000 in
theorem open_any (p q : Option Addr) (cap capt : Nat) (B : Book) (asked : Bool) (Wb W : World) (hb : BookAt Wb p q cap capt B) (hkb : Kept Wb W) (hg : Nothing W) :
  Calls Tryz.prog 114 #[B.val p q cap capt, .bool asked] W (OpenP B asked Wb.heap.size W) := by
 have h := hb.kept hkb
 unfold Book.val
 have hk0 : Kept W ((W.alloc (Obj.cells #[.slice p B.boys.length cap, .int .i64 B.weeks, .slice q B.trials.length capt] 25)).alloc (Obj.cells #[.slice none 0 0, .int .i64 0, .slice none 0 0, .map none] 83)) := kept_alloc (kept_alloc (kept_refl _) _) _
 have hz0 : ((W.alloc (Obj.cells #[.slice p B.boys.length cap, .int .i64 B.weeks, .slice q B.trials.length capt] 25)).alloc (Obj.cells #[.slice none 0 0, .int .i64 0, .slice none 0 0, .map none] 83)).heap.size = W.heap.size + 2 := by simp
 obtain ⟨-, a0, a1, a2⟩ := bk1 W p q cap capt B (Obj.cells #[.slice none 0 0, .int .i64 0, .slice none 0 0, .map none] 83)
 have ZZ : ∀ Z, Z = ((W.alloc (Obj.cells #[.slice p B.boys.length cap, .int .i64 B.weeks, .slice q B.trials.length capt] 25)).alloc (Obj.cells #[.slice none 0 0, .int .i64 0, .slice none 0 0, .map none] 83)) → Z.cell? ⟨W.heap.size + 1, 0, none⟩ = some (.slice none 0 0) ∧ Z.cell? ⟨W.heap.size + 1, 1, none⟩ = some (.int .i64 0) ∧ Z.cell? ⟨W.heap.size + 1, 2, none⟩ = some (.slice none 0 0) ∧ Z.cell? ⟨W.heap.size + 1, 3, none⟩ = some (.map none) := by rintro _ rfl; refine ⟨?_, ?_, ?_, ?_⟩ <;> go_simp
 obtain ⟨b0, b1, b2, b3⟩ := ZZ _ rfl; clear ZZ
 have bf : ∀ i, ((W.alloc (Obj.cells #[.slice p B.boys.length cap, .int .i64 B.weeks, .slice q B.trials.length capt] 25)).alloc (Obj.cells #[.slice none 0 0, .int .i64 0, .slice none 0 0, .map none] 83)).frozen? ⟨W.heap.size + 1, i, none⟩ = false := by intro i; go_simp
 go_enter Tryz.func114, Tryz.ntmps114
 go_wp2_with fail
 generalize ((W.alloc (Obj.cells #[.slice p B.boys.length cap, .int .i64 B.weeks, .slice q B.trials.length capt] 25)).alloc (Obj.cells #[.slice none 0 0, .int .i64 0, .slice none 0 0, .map none] 83)) = W1 at *
 refine (check_any p q cap capt B _ (h.kept hk0)).mono ?_
 rintro e W2 ⟨rfl, hk2⟩
 have hkW2 := kept_trans hk0 hk2
 have rs : ∀ (V : World) (v0 v1 v2 v3 : Value), Kept W1 V →
   ∀ X, X = ((((V.setCell ⟨W.heap.size + 1, 0, none⟩ v0).setCell ⟨W.heap.size + 1, 1, none⟩ v1).setCell ⟨W.heap.size + 1, 2, none⟩ v2).setCell ⟨W.heap.size + 1, 3, none⟩ v3) →
   Kept W X ∧ X.cell? ⟨W.heap.size + 1, 0, none⟩ = some v0 ∧ X.cell? ⟨W.heap.size + 1, 1, none⟩ = some v1 ∧ X.cell? ⟨W.heap.size + 1, 2, none⟩ = some v2 ∧ X.cell? ⟨W.heap.size + 1, 3, none⟩ = some v3 ∧ X.heap.size = V.heap.size ∧ Turns (fun b => b = W.heap.size + 1) V X := by
  intro V v0 v1 v2 v3 hV X hX
  have c0 := kcell hV b0
  have c1 := kcell hV b1
  have c2 := kcell hV b2
  have c3 := kcell hV b3
  have hz := hV.size
  have hT : Turns (fun b => b = W.heap.size + 1) V X := by
   rw [hX]; exact ((((Turns.refl (fun b => b = W.heap.size + 1) V).setCell rfl _ _).setCell rfl _ _).setCell rfl _ _).setCell rfl _ _
  refine ⟨Below.trans (kept_trans hk0 hV) (hT.toBelow (n := W.heap.size) (by rintro b rfl; omega) (by omega)), ?_, ?_, ?_, ?_, by rw [hX]; simp, hT⟩
  ·rw [hX, cell_set_ne (by omega), cell_set_ne (by omega), cell_set_ne (by omega), cell_set_eq c0]
  ·rw [hX, cell_set_ne (by omega), cell_set_ne (by omega)]; exact cell_set_eq ((cell_set_ne (by omega)).trans c1)
  ·rw [hX, cell_set_ne (by omega)]; exact cell_set_eq ((cell_set_ne (by omega)).trans ((cell_set_ne (by omega)).trans c2))
  ·rw [hX]; exact cell_set_eq ((cell_set_ne (by omega)).trans ((cell_set_ne (by omega)).trans ((cell_set_ne (by omega)).trans c3)))
 have RS := Lib.hid rs; clear rs
 have d0 := kcell hk2 a0
 have d1 := kcell hk2 a1
 have d2 := kcell hk2 a2
 have e0 := kcell hk2 b0
 have e1 := kcell hk2 b1
 have e2 := kcell hk2 b2
 have e3 := kcell hk2 b3
 have ef : ∀ i, W2.frozen? ⟨W.heap.size + 1, i, none⟩ = false := fun i => ((kturns hk2 (fun _ => False)).frozen (by omega) (fun h => h)).trans (bf i)
 have ef0 := ef 0
 have ef1 := ef 1
 have ef2 := ef 2
 have ef3 := ef 3
 have HBF := Lib.hid bf; clear bf ef
 have HA := Lib.hid (And.intro a0 (And.intro a1 a2)); clear a0 a1 a2
 have HBB := Lib.hid (And.intro b0 (And.intro b1 (And.intro b2 b3))); clear b0 b1 b2 b3
 rcases hok : B.okB with _ | _
 ·have HK := Lib.hid hok; clear hok
  simp only [Bool.false_eq_true, if_false]
  go_wp2_with fail
  obtain ⟨hkX, r0, r1, r2, r3, hzX, _⟩ := RS.out W2 (.slice none 0 0) (.int .i64 0) (.slice none 0 0) (.map none) hk2 _ rfl
  refine bodyPost_ret (v := .tuple #[zeroChoir, .int .i64 20]) (by simp [results, Tryz.results114, go_sem, r0, r1, r2, r3, zeroChoir]) rfl ?_
  exact ⟨_, _, rfl, hkX, .inr ⟨rfl, .inl ⟨rfl, HK.out⟩⟩⟩
 ·have HK := Lib.hid hok; clear hok
  simp only [if_true]
  cases asked with
  | false =>
   go_wp2_with fail
   obtain ⟨hkX, r0, r1, r2, r3, hzX, _⟩ := RS.out W2 (.slice none 0 0) (.int .i64 0) (.slice none 0 0) (.map none) hk2 _ rfl
   refine bodyPost_ret (v := .tuple #[zeroChoir, .int .i64 21]) (by simp [results, Tryz.results114, go_sem, r0, r1, r2, r3, zeroChoir]) rfl ?_
   exact ⟨_, _, rfl, hkX, .inr ⟨rfl, .inr (.inl ⟨rfl, HK.out, rfl⟩)⟩⟩
  | true =>
   go_wp2_with fail
   refine (newChoir_any p q cap capt B Wb W2 HK.out hb (kept_trans hkb hkW2)).mono ?_
   rintro e W3 ⟨c, rfl, rfl, hk3, hat⟩
   have hk13 := kept_trans hk2 hk3
   have e0 := kcell hk3 e0
   have e1 := kcell hk3 e1
   have e2 := kcell hk3 e2
   have e3 := kcell hk3 e3
   have ef : ∀ i, W3.frozen? ⟨W.heap.size + 1, i, none⟩ = false := fun i => ((kturns hk13 (fun _ => False)).frozen (by omega) (fun h => h)).trans (HBF.out i)
   have ef0 := ef 0
   have ef1 := ef 1
   have ef2 := ef 2
   have ef3 := ef 3
   have hz3 := hk13.size
   unfold Choir.val
   go_wp2_with fail
   have hk4 : Kept W3 (W3.alloc (Obj.cells #[.slice (some ⟨c.bb, c.ob, none⟩) c.B.boys.length c.capb, .int .i64 c.B.weeks, .slice c.q c.B.trials.length c.capt, .map (some c.bm)] 83)) := kept_alloc (kept_refl _) _
   have hz4 : (W3.alloc (Obj.cells #[.slice (some ⟨c.bb, c.ob, none⟩) c.B.boys.length c.capb, .int .i64 c.B.weeks, .slice c.q c.B.trials.length c.capt, .map (some c.bm)] 83)).heap.size = W3.heap.size + 1 := by simp
   have ZZ : ∀ Z, Z = (W3.alloc (Obj.cells #[.slice (some ⟨c.bb, c.ob, none⟩) c.B.boys.length c.capb, .int .i64 c.B.weeks, .slice c.q c.B.trials.length c.capt, .map (some c.bm)] 83)) → Z.cell? ⟨W3.heap.size, 0, none⟩ = some (.slice (some ⟨c.bb, c.ob, none⟩) c.B.boys.length c.capb) ∧ Z.cell? ⟨W3.heap.size, 1, none⟩ = some (.int .i64 c.B.weeks) ∧ Z.cell? ⟨W3.heap.size, 2, none⟩ = some (.slice c.q c.B.trials.length c.capt) ∧ Z.cell? ⟨W3.heap.size, 3, none⟩ = some (.map (some c.bm)) := by rintro _ rfl; refine ⟨?_, ?_, ?_, ?_⟩ <;> go_simp
   obtain ⟨s0, s1, s2, s3⟩ := ZZ _ rfl; clear ZZ
   have hcan := canBeTrue_any (fun b => b < W3.heap.size ∧ (b < Wb.heap.size ∨ W2.heap.size ≤ b)) c (W3.alloc (Obj.cells #[.slice (some ⟨c.bb, c.ob, none⟩) c.B.boys.length c.capb, .int .i64 c.B.weeks, .slice c.q c.B.trials.length c.capt, .map (some c.bm)] 83)) (hat.turns (kturns hk4 (fun _ => False)) (fun _ _ h => h)) (fun b hb => by have := hb.1; omega) (hg.kept (kept_trans hkW2 (kept_trans hk3 hk4)))
   unfold Choir.val at hcan
   generalize (W3.alloc (Obj.cells #[.slice (some ⟨c.bb, c.ob, none⟩) c.B.boys.length c.capb, .int .i64 c.B.weeks, .slice c.q c.B.trials.length c.capt, .map (some c.bm)] 83)) = W4 at *
   refine hcan.mono ?_
   clear hcan
   rintro e W5 ⟨r, hr, rfl, hk5⟩
   have hk15 := kept_trans hk13 (kept_trans hk4 hk5)
   have e0 := kcell (kept_trans hk4 hk5) e0
   have e1 := kcell (kept_trans hk4 hk5) e1
   have e2 := kcell (kept_trans hk4 hk5) e2
   have e3 := kcell (kept_trans hk4 hk5) e3
   have ef : ∀ i, W5.frozen? ⟨W.heap.size + 1, i, none⟩ = false := fun i => ((kturns hk15 (fun _ => False)).frozen (by omega) (fun h => h)).trans (HBF.out i)
   have ef0 := ef 0
   have ef1 := ef 1
   have ef2 := ef 2
   have ef3 := ef 3
   have s0 := kcell hk5 s0
   have s1 := kcell hk5 s1
   have s2 := kcell hk5 s2
   have s3 := kcell hk5 s3
   have HC := Lib.hid hr; clear hr
   have HAT := Lib.hid (hat.turns (kturns (kept_trans hk4 hk5) (fun _ => False)) (fun _ _ h => h)); clear hat
   cases r with
   | false =>
    go_wp2_with fail
    obtain ⟨hkX, r0, r1, r2, r3, hzX, _⟩ := RS.out W5 (.slice none 0 0) (.int .i64 0) (.slice none 0 0) (.map none) hk15 _ rfl
    refine bodyPost_ret (v := .tuple #[zeroChoir, .int .i64 22]) (by simp [results, Tryz.results114, go_sem, r0, r1, r2, r3, zeroChoir]) rfl ?_
    exact ⟨_, _, rfl, hkX, .inr ⟨rfl, .inr (.inr ⟨rfl, HK.out, rfl, (fun h => by have := HC.out.2 h; cases this)⟩)⟩⟩
   | true =>
    go_wp2_with fail
    obtain ⟨hkX, r0, r1, r2, r3, hzX, hTX⟩ := RS.out W5 (.slice (some ⟨c.bb, c.ob, none⟩) c.B.boys.length c.capb) (.int .i64 c.B.weeks) (.slice c.q c.B.trials.length c.capt) (.map (some c.bm)) hk15 _ rfl
    refine bodyPost_ret (v := .tuple #[c.val, .int .i64 0]) (by simp [results, Tryz.results114, go_sem, r0, r1, r2, r3, Choir.val]) rfl ?_
    refine ⟨_, _, rfl, hkX, .inl ⟨rfl, HK.out, rfl, HC.out.1 rfl, c, rfl, rfl, ?_⟩⟩
    have hz2 := hk2.size
    have hz5 := (kept_trans hk4 hk5).size
    have hzb := hkb.size
    exact (HAT.out.turns hTX (fun b hb e => by have := hb.2; omega)).mono (fun b hb => ⟨by have := hb.1; omega, by have := hb.2; omega⟩)
end Go.Proofs.YtcllfjjhijkakaaGreatDoor
namespace Go.Proofs.YtcllfjjhijkakaaGreatDoor
open Go.RowKit Go.Sort Go.Rg
set_option maxRecDepth 100000
attribute [local go_sem] Oper.semAt_some
structure Asks (c : Choir) (boy : Nat) (x : Boy) (W : World) (g : Nat) (caps : Array Value) (sb : List Int → Bool) : Prop where
 enter : ∀ args w, (callFunc g args).run Tryz.prog w = .ok (.enter g args) w
 call : ∀ A n, Kept W A → n ∈ c.B.truths boy x → Calls Tryz.prog g (#[encT c boy n] ++ caps) A fun e B => e = .returned (.bool (sb n)) ∧ Kept A B
set_option maxHeartbeats 4000000 in
theorem inEach_any (S : Nat → Prop) (c : Choir) (boy : Nat) (x : Boy) (hx : c.B.boys[boy]? = some x) (W : World) (h : ChoirAt S W c) (hS : ∀ b, S b → b < W.heap.size)
  (g : Nat) (caps : Array Value) (sb : List Int → Bool) (hso : Asks c boy x W g caps sb) :
  Calls Tryz.prog 130 #[c.val, .int .i64 (boy : Int), .func (.func g) #[] caps] W fun e B => e = .returned (.bool ((c.B.truths boy x).all sb)) ∧ Kept W B := by
 refine callsIn_wide.1 (callsIn_of_wp_marks (n := 0) Tryz.func130 rfl trivial ?_ rfl)
 simp only [Tryz.ntmps130, List.size_toArray, List.length_cons, List.length_nil, Nat.reduceAdd, Nat.reduceSub, Array.replicate_succ, Array.replicate_zero, List.push_toArray, List.append_toArray, List.nil_append, List.cons_append]
 generalize hall : (c.B.truths boy x).all sb = RR
 unfold Choir.val
 gi_wp2_with fail
 have hk0 : Kept W (((W.alloc (Obj.cells #[.slice (some ⟨c.bb, c.ob, none⟩) c.B.boys.length c.capb, .int .i64 c.B.weeks, .slice c.q c.B.trials.length c.capt, .map (some c.bm)] 83)).alloc (Obj.cells #[.func (.func g) #[] caps] 165)).alloc (Obj.cells #[.bool false] 4)) := kept_alloc (kept_alloc (kept_alloc (kept_refl _) _) _) _
 have hz0 : (((W.alloc (Obj.cells #[.slice (some ⟨c.bb, c.ob, none⟩) c.B.boys.length c.capb, .int .i64 c.B.weeks, .slice c.q c.B.trials.length c.capt, .map (some c.bm)] 83)).alloc (Obj.cells #[.func (.func g) #[] caps] 165)).alloc (Obj.cells #[.bool false] 4)).heap.size = W.heap.size + 1 + 1 + 1 := by simp
 have ZZ : ∀ Z, Z = (((W.alloc (Obj.cells #[.slice (some ⟨c.bb, c.ob, none⟩) c.B.boys.length c.capb, .int .i64 c.B.weeks, .slice c.q c.B.trials.length c.capt, .map (some c.bm)] 83)).alloc (Obj.cells #[.func (.func g) #[] caps] 165)).alloc (Obj.cells #[.bool false] 4)) → Z.cell? ⟨W.heap.size + 1, 0, none⟩ = some (.func (.func g) #[] caps) ∧ Z.cell? ⟨W.heap.size + 1 + 1, 0, none⟩ = some (.bool false) ∧ Z.frozen? ⟨W.heap.size + 1 + 1, 0, none⟩ = false := by rintro _ rfl; refine ⟨?_, ?_, ?_⟩ <;> go_simp
 obtain ⟨s0, r0, rf⟩ := ZZ _ rfl; clear ZZ
 generalize (((W.alloc (Obj.cells #[.slice (some ⟨c.bb, c.ob, none⟩) c.B.boys.length c.capb, .int .i64 c.B.weeks, .slice c.q c.B.trials.length c.capt, .map (some c.bm)] 83)).alloc (Obj.cells #[.func (.func g) #[] caps] 165)).alloc (Obj.cells #[.bool false] 4)) = W1 at *
 have hcall := truths_any c boy W1
 unfold Choir.val at hcall
 refine ⟨trivial, rfl, (callsIn_wide.2 hcall).mono ?_⟩
 rintro e W2 ⟨rfl, hk2, hz2, d0, d1, d2, d3, d4⟩
 rw [hz0] at d0 d1 d2 d3 d4 hz2
 have HKW := Lib.hid (kept_trans hk0 hk2)
 have hat := truthsAt_of (h.turns (kturns hk0 (fun _ => False)) (fun _ _ h => h)) hk2 rfl d0 d1 d2 d3 d4
 have HAT := Lib.hid hat; clear hat
 have q0 := kcell hk2 r0
 have qf : W2.frozen? ⟨W.heap.size + 1 + 1, 0, none⟩ = false := ((kturns hk2 (fun _ => False)).frozen (by omega) (fun h => h)).trans rf
 have t0 := kcell hk2 s0
 clear hcall d0 d1 d2 d3 d4 r0 rf s0
 generalize hrb : W.heap.size + 1 + 1 = rb at *
 generalize hsb : W.heap.size + 1 = sbx at *
 gi_wp2_with fail
 refine wpIn_range (gf := 107) (lb := #[.pointer (some ⟨rb + 1, 0, none⟩), .pointer (some ⟨rb + 1 + 1, 0, none⟩)]) rfl (enters_of Tryz.func107 (by kernel_rfl) rfl)
  (truths1_gives S c boy x hx (rb + 1) (rb + 1 + 1)) rfl (fun b => b = rb) (by rintro b rfl; omega) ?hS (fun B hB => HAT.out.kept hB)
  (fun k T' A => T' = (fun b => b = rb) ∧ A.cell? ⟨rb, 0, none⟩ = some (.bool false) ∧ A.frozen? ⟨rb, 0, none⟩ = false ∧ ∀ i n, i < k → (c.B.truths boy x)[i]? = some n → sb n = true)
  (fun e k T' A => e = .ret ∧ T' = (fun b => b = rb) ∧ A.cell? ⟨rb, 0, none⟩ = some (.bool false) ∧ ∃ n, n ∈ c.B.truths boy x ∧ sb n = false)
  ?hI ?hIx ⟨rfl, q0, qf, fun i n hi => by omega⟩ ?round ?done ?stop
 case hS =>
  rintro b (hb | rfl | rfl)
  ·have := hS b hb
   exact ⟨by omega, by omega⟩
  ·exact ⟨by omega, by omega⟩
  ·exact ⟨by omega, by omega⟩
 case hI =>
  rintro k T' A B ⟨rfl, h1, h2, h3⟩ hq
  have hb := Go.Ai.lt_of_cell h1
  exact ⟨rfl, (hq.cell hb (.inr rfl)).trans h1, (hq.frozen hb (.inr rfl)).trans h2, h3⟩
 case hIx =>
  rintro e k T' A B ⟨rfl, rfl, h1, h2⟩ hq
  exact ⟨rfl, rfl, (hq.cell (Go.Ai.lt_of_cell h1) (.inr rfl)).trans h1, h2⟩
 case round =>
  rintro l k n T' A hn hE hz hTA hl hlA hnl ⟨rfl, h1, h2, h3⟩
  have hmem := List.mem_of_getElem? hn
  obtain ⟨n0, n1, n2, n3, n4, rfl⟩ := truths_len hmem
  have hkA : Kept W A := Below.trans HKW.out (hTA.toBelow (n := W.heap.size) (by rintro b rfl; omega) (by omega))
  have H3 := Lib.hid h3; clear h3
  have HN := Lib.hid hn; clear hn
  simp only [encT, List.map_cons, List.map_nil, List.append_toArray, List.cons_append, List.nil_append, Choir.k0, Choir.k2, Choir.m]
  gi_wp2_with fail
  refine ⟨_, Ext.refl _ _, (Turns.refl _ _).alloc _, ?_⟩
  intro A2 hA2 hs2 r hr
  have z1 : rb < A.heap.size := Go.Ai.lt_of_cell h1
  have hk1 : Kept A (A.alloc (Obj.cells #[.slice (some ⟨c.bb, c.ob, none⟩) c.B.boys.length c.capb, .int .i64 c.B.weeks, .slice c.q c.B.trials.length c.capt, .map (some c.bm), .int .i64 (boy : Int), .int .i64 n0, .int .i64 n1, .int .i64 n2, .int .i64 n3, .int .i64 n4] 142)) := kept_alloc (kept_refl _) _
  have e0 := tcell hA2 (by omega) (show (A.alloc (Obj.cells #[.slice (some ⟨c.bb, c.ob, none⟩) c.B.boys.length c.capb, .int .i64 c.B.weeks, .slice c.q c.B.trials.length c.capt, .map (some c.bm), .int .i64 (boy : Int), .int .i64 n0, .int .i64 n1, .int .i64 n2, .int .i64 n3, .int .i64 n4] 142)).cell? ⟨A.heap.size, 0, none⟩ = some (.slice (some ⟨c.bb, c.ob, none⟩) c.B.boys.length c.capb) by go_simp)
  have e1 := tcell hA2 (by omega) (show (A.alloc (Obj.cells #[.slice (some ⟨c.bb, c.ob, none⟩) c.B.boys.length c.capb, .int .i64 c.B.weeks, .slice c.q c.B.trials.length c.capt, .map (some c.bm), .int .i64 (boy : Int), .int .i64 n0, .int .i64 n1, .int .i64 n2, .int .i64 n3, .int .i64 n4] 142)).cell? ⟨A.heap.size, 1, none⟩ = some (.int .i64 c.B.weeks) by go_simp)
  have e2 := tcell hA2 (by omega) (show (A.alloc (Obj.cells #[.slice (some ⟨c.bb, c.ob, none⟩) c.B.boys.length c.capb, .int .i64 c.B.weeks, .slice c.q c.B.trials.length c.capt, .map (some c.bm), .int .i64 (boy : Int), .int .i64 n0, .int .i64 n1, .int .i64 n2, .int .i64 n3, .int .i64 n4] 142)).cell? ⟨A.heap.size, 2, none⟩ = some (.slice c.q c.B.trials.length c.capt) by go_simp)
  have e3 := tcell hA2 (by omega) (show (A.alloc (Obj.cells #[.slice (some ⟨c.bb, c.ob, none⟩) c.B.boys.length c.capb, .int .i64 c.B.weeks, .slice c.q c.B.trials.length c.capt, .map (some c.bm), .int .i64 (boy : Int), .int .i64 n0, .int .i64 n1, .int .i64 n2, .int .i64 n3, .int .i64 n4] 142)).cell? ⟨A.heap.size, 3, none⟩ = some (.map (some c.bm)) by go_simp)
  have e4 := tcell hA2 (by omega) (show (A.alloc (Obj.cells #[.slice (some ⟨c.bb, c.ob, none⟩) c.B.boys.length c.capb, .int .i64 c.B.weeks, .slice c.q c.B.trials.length c.capt, .map (some c.bm), .int .i64 (boy : Int), .int .i64 n0, .int .i64 n1, .int .i64 n2, .int .i64 n3, .int .i64 n4] 142)).cell? ⟨A.heap.size, 4, none⟩ = some (.int .i64 (boy : Int)) by go_simp)
  have e5 := tcell hA2 (by omega) (show (A.alloc (Obj.cells #[.slice (some ⟨c.bb, c.ob, none⟩) c.B.boys.length c.capb, .int .i64 c.B.weeks, .slice c.q c.B.trials.length c.capt, .map (some c.bm), .int .i64 (boy : Int), .int .i64 n0, .int .i64 n1, .int .i64 n2, .int .i64 n3, .int .i64 n4] 142)).cell? ⟨A.heap.size, 5, none⟩ = some (.int .i64 n0) by go_simp)
  have e6 := tcell hA2 (by omega) (show (A.alloc (Obj.cells #[.slice (some ⟨c.bb, c.ob, none⟩) c.B.boys.length c.capb, .int .i64 c.B.weeks, .slice c.q c.B.trials.length c.capt, .map (some c.bm), .int .i64 (boy : Int), .int .i64 n0, .int .i64 n1, .int .i64 n2, .int .i64 n3, .int .i64 n4] 142)).cell? ⟨A.heap.size, 6, none⟩ = some (.int .i64 n1) by go_simp)
  have e7 := tcell hA2 (by omega) (show (A.alloc (Obj.cells #[.slice (some ⟨c.bb, c.ob, none⟩) c.B.boys.length c.capb, .int .i64 c.B.weeks, .slice c.q c.B.trials.length c.capt, .map (some c.bm), .int .i64 (boy : Int), .int .i64 n0, .int .i64 n1, .int .i64 n2, .int .i64 n3, .int .i64 n4] 142)).cell? ⟨A.heap.size, 7, none⟩ = some (.int .i64 n2) by go_simp)
  have e8 := tcell hA2 (by omega) (show (A.alloc (Obj.cells #[.slice (some ⟨c.bb, c.ob, none⟩) c.B.boys.length c.capb, .int .i64 c.B.weeks, .slice c.q c.B.trials.length c.capt, .map (some c.bm), .int .i64 (boy : Int), .int .i64 n0, .int .i64 n1, .int .i64 n2, .int .i64 n3, .int .i64 n4] 142)).cell? ⟨A.heap.size, 8, none⟩ = some (.int .i64 n3) by go_simp)
  have e9 := tcell hA2 (by omega) (show (A.alloc (Obj.cells #[.slice (some ⟨c.bb, c.ob, none⟩) c.B.boys.length c.capb, .int .i64 c.B.weeks, .slice c.q c.B.trials.length c.capt, .map (some c.bm), .int .i64 (boy : Int), .int .i64 n0, .int .i64 n1, .int .i64 n2, .int .i64 n3, .int .i64 n4] 142)).cell? ⟨A.heap.size, 9, none⟩ = some (.int .i64 n4) by go_simp)
  have p0 := tcell hA2 (by omega) (kcell hk1 h1)
  have pf : A2.frozen? ⟨rb, 0, none⟩ = false := (hA2.frozen (by simp; omega) (by omega)).trans (((kturns hk1 (fun _ => False)).frozen z1 (fun h => h)).trans h2)
  have f0 := tcell hA2 (by omega) (kcell hk1 (tcell hTA (by omega) t0))
  have hk3 : Kept W A2 := Below.trans (kept_trans hkA hk1) (hA2.toBelow (n := W.heap.size) (by rintro b rfl; omega) (by have := hkA.size; have := hk1.size; omega))
  have hcall := hso.call A2 _ hk3 hmem
  simp only [encT, List.map_cons, List.map_nil, List.append_toArray, List.cons_append, List.nil_append, Choir.k0, Choir.k2, Choir.m] at hcall
  have heg := hso.enter
  clear hA2 hr hk1 h1 h2
  gi_wp2_with fail
  refine ⟨trivial, rfl, (CallsIn.inRound _ (callsIn_wide.2 hcall)).mono ?_⟩
  rintro e A3 ⟨rfl, hk4⟩
  have p0 := kcell hk4 p0
  have pf : A3.frozen? ⟨rb, 0, none⟩ = false := ((kturns hk4 (fun _ => False)).frozen (by omega) (fun h => h)).trans pf
  clear e0 e1 e2 e3 e4 e5 e6 e7 e8 e9 f0 hcall heg
  rcases hv : sb [n0, n1, n2, n3, n4] with _ | _
  ·have HV := Lib.hid hv; clear hv
   gi_wp2_with fail
   refine ⟨fun b => b = rb, Ext.refl _ _, ?_, Turns.setCell (T := fun b => b = rb) (kturns hk4 _) rfl _ _, rfl, rfl, ?_, _, hmem, HV.out⟩
   ·rintro b rfl
    have := hk4.size
    simp; omega
   ·exact cell_set_eq p0
  ·have HV := Lib.hid hv; clear hv
   gi_wp2_with fail
   refine ⟨fun b => b = rb, Ext.refl _ _, ?_, kturns hk4 _, rfl, p0, pf, ?_⟩
   ·rintro b rfl
    have := hk4.size
    omega
   ·intro i m hi hm
    by_cases e : i = k
    ·subst e; rw [HN.out] at hm; cases hm; exact HV.out
    ·exact H3.out i m (by omega) hm
 case done =>
  rintro Db T' B hDb hnD hE hTB ⟨rfl, h1, h2, h3⟩ hK
  have hkB : Below W.heap.size W B := Below.trans HKW.out (hTB.toBelow (n := W.heap.size) (by rintro b rfl; omega) (by omega))
  have hRR : RR = true := by
   rw [← hall, List.all_eq_true]
   intro n hn
   obtain ⟨i, hi, rfl⟩ := List.getElem_of_mem hn
   exact h3 i _ hi (List.getElem?_eq_getElem hi)
  have hzR := Go.Ai.lt_of_cell h1
  clear h3
  gi_wp2_with fail
  have hT5 : Turns (fun b => b = rb) B (B.setCell ⟨rb, 0, none⟩ (.bool true)) := (Turns.refl (fun b => b = rb) B).setCell rfl _ _
  have hc5 : (B.setCell ⟨rb, 0, none⟩ (.bool true)).cell? ⟨rb, 0, none⟩ = some (.bool true) := cell_set_eq h1
  generalize B.setCell ⟨rb, 0, none⟩ (.bool true) = B5 at *
  have hK5 := (hT5.block Db (Array.getElem?_eq_some_iff.1 hK).1 hnD).trans hK
  refine leave_mark (v := .bool true) hK5 fun C hC hCT => ?_
  have q0 := tcell hCT (Ne.symm hnD) hc5
  refine ⟨by simp [results, Tryz.results130, go_sem, q0], rfl, ?_⟩
  exact Below.trans (Below.trans hkB (hT5.toBelow (by rintro b rfl; omega) (by have := hkB.size; omega))) (hCT.toBelow (by rintro b rfl; omega) (by have := hkB.size; have := hT5.size; omega))
 case stop =>
  rintro Db e k T' B hDb hnD hE hTB hk ⟨rfl, rfl, h1, n, hn, hno⟩ hK
  have hkB : Below W.heap.size W B := Below.trans HKW.out (hTB.toBelow (n := W.heap.size) (by rintro b rfl; omega) (by omega))
  have hRR : RR = false := by
   rw [← hall, List.all_eq_false]
   exact ⟨n, hn, by simp [hno]⟩
  gi_wp2_with fail
  refine leave_mark (v := .bool false) hK fun C hC hCT => ?_
  have q0 := tcell hCT (Ne.symm hnD) h1
  refine ⟨by simp [results, Tryz.results130, go_sem, q0], rfl, ?_⟩
  exact Below.trans hkB (hCT.toBelow (by rintro b rfl; omega) (by have := hkB.size; omega))
end Go.Proofs.YtcllfjjhijkakaaGreatDoor
namespace Go.Proofs.YtcllfjjhijkakaaGreatDoor
open Go.RowKit Go.Sort Go.Rg
set_option maxRecDepth 100000
attribute [local go_sem] Oper.semAt_some
set_option maxHeartbeats 4000000 in
theorem inSome_any (S : Nat → Prop) (c : Choir) (boy : Nat) (x : Boy) (hx : c.B.boys[boy]? = some x) (W : World) (h : ChoirAt S W c) (hS : ∀ b, S b → b < W.heap.size)
  (g : Nat) (caps : Array Value) (sb : List Int → Bool) (hso : Asks c boy x W g caps sb) :
  Calls Tryz.prog 131 #[c.val, .int .i64 (boy : Int), .func (.func g) #[] caps] W fun e B => e = .returned (.bool ((c.B.truths boy x).any sb)) ∧ Kept W B := by
 refine callsIn_wide.1 (callsIn_of_wp_marks (n := 0) Tryz.func131 rfl trivial ?_ rfl)
 simp only [Tryz.ntmps131, List.size_toArray, List.length_cons, List.length_nil, Nat.reduceAdd, Nat.reduceSub, Array.replicate_succ, Array.replicate_zero, List.push_toArray, List.append_toArray, List.nil_append, List.cons_append]
 generalize hany : (c.B.truths boy x).any sb = RR
 unfold Choir.val
 gi_wp2_with fail
 have hk0 : Kept W (((W.alloc (Obj.cells #[.slice (some ⟨c.bb, c.ob, none⟩) c.B.boys.length c.capb, .int .i64 c.B.weeks, .slice c.q c.B.trials.length c.capt, .map (some c.bm)] 83)).alloc (Obj.cells #[.func (.func g) #[] caps] 165)).alloc (Obj.cells #[.bool false] 4)) := kept_alloc (kept_alloc (kept_alloc (kept_refl _) _) _) _
 have hz0 : (((W.alloc (Obj.cells #[.slice (some ⟨c.bb, c.ob, none⟩) c.B.boys.length c.capb, .int .i64 c.B.weeks, .slice c.q c.B.trials.length c.capt, .map (some c.bm)] 83)).alloc (Obj.cells #[.func (.func g) #[] caps] 165)).alloc (Obj.cells #[.bool false] 4)).heap.size = W.heap.size + 1 + 1 + 1 := by simp
 have ZZ : ∀ Z, Z = (((W.alloc (Obj.cells #[.slice (some ⟨c.bb, c.ob, none⟩) c.B.boys.length c.capb, .int .i64 c.B.weeks, .slice c.q c.B.trials.length c.capt, .map (some c.bm)] 83)).alloc (Obj.cells #[.func (.func g) #[] caps] 165)).alloc (Obj.cells #[.bool false] 4)) → Z.cell? ⟨W.heap.size + 1, 0, none⟩ = some (.func (.func g) #[] caps) ∧ Z.cell? ⟨W.heap.size + 1 + 1, 0, none⟩ = some (.bool false) ∧ Z.frozen? ⟨W.heap.size + 1 + 1, 0, none⟩ = false := by rintro _ rfl; refine ⟨?_, ?_, ?_⟩ <;> go_simp
 obtain ⟨s0, r0, rf⟩ := ZZ _ rfl; clear ZZ
 generalize (((W.alloc (Obj.cells #[.slice (some ⟨c.bb, c.ob, none⟩) c.B.boys.length c.capb, .int .i64 c.B.weeks, .slice c.q c.B.trials.length c.capt, .map (some c.bm)] 83)).alloc (Obj.cells #[.func (.func g) #[] caps] 165)).alloc (Obj.cells #[.bool false] 4)) = W1 at *
 have hcall := truths_any c boy W1
 unfold Choir.val at hcall
 refine ⟨trivial, rfl, (callsIn_wide.2 hcall).mono ?_⟩
 rintro e W2 ⟨rfl, hk2, hz2, d0, d1, d2, d3, d4⟩
 rw [hz0] at d0 d1 d2 d3 d4 hz2
 have HKW := Lib.hid (kept_trans hk0 hk2)
 have hat := truthsAt_of (h.turns (kturns hk0 (fun _ => False)) (fun _ _ h => h)) hk2 rfl d0 d1 d2 d3 d4
 have HAT := Lib.hid hat; clear hat
 have q0 := kcell hk2 r0
 have qf : W2.frozen? ⟨W.heap.size + 1 + 1, 0, none⟩ = false := ((kturns hk2 (fun _ => False)).frozen (by omega) (fun h => h)).trans rf
 have t0 := kcell hk2 s0
 clear hcall d0 d1 d2 d3 d4 r0 rf s0
 generalize hrb : W.heap.size + 1 + 1 = rb at *
 generalize hsb : W.heap.size + 1 = sbx at *
 gi_wp2_with fail
 refine wpIn_range (gf := 107) (lb := #[.pointer (some ⟨rb + 1, 0, none⟩), .pointer (some ⟨rb + 1 + 1, 0, none⟩)]) rfl (enters_of Tryz.func107 (by kernel_rfl) rfl)
  (truths1_gives S c boy x hx (rb + 1) (rb + 1 + 1)) rfl (fun b => b = rb) (by rintro b rfl; omega) ?hS (fun B hB => HAT.out.kept hB)
  (fun k T' A => T' = (fun b => b = rb) ∧ A.cell? ⟨rb, 0, none⟩ = some (.bool false) ∧ A.frozen? ⟨rb, 0, none⟩ = false ∧ ∀ i n, i < k → (c.B.truths boy x)[i]? = some n → sb n = false)
  (fun e k T' A => e = .ret ∧ T' = (fun b => b = rb) ∧ A.cell? ⟨rb, 0, none⟩ = some (.bool true) ∧ ∃ n, n ∈ c.B.truths boy x ∧ sb n = true)
  ?hI ?hIx ⟨rfl, q0, qf, fun i n hi => by omega⟩ ?round ?done ?stop
 case hS =>
  rintro b (hb | rfl | rfl)
  ·have := hS b hb
   exact ⟨by omega, by omega⟩
  ·exact ⟨by omega, by omega⟩
  ·exact ⟨by omega, by omega⟩
 case hI =>
  rintro k T' A B ⟨rfl, h1, h2, h3⟩ hq
  have hb := Go.Ai.lt_of_cell h1
  exact ⟨rfl, (hq.cell hb (.inr rfl)).trans h1, (hq.frozen hb (.inr rfl)).trans h2, h3⟩
 case hIx =>
  rintro e k T' A B ⟨rfl, rfl, h1, h2⟩ hq
  exact ⟨rfl, rfl, (hq.cell (Go.Ai.lt_of_cell h1) (.inr rfl)).trans h1, h2⟩
 case round =>
  rintro l k n T' A hn hE hz hTA hl hlA hnl ⟨rfl, h1, h2, h3⟩
  have hmem := List.mem_of_getElem? hn
  obtain ⟨n0, n1, n2, n3, n4, rfl⟩ := truths_len hmem
  have hkA : Kept W A := Below.trans HKW.out (hTA.toBelow (n := W.heap.size) (by rintro b rfl; omega) (by omega))
  have H3 := Lib.hid h3; clear h3
  have HN := Lib.hid hn; clear hn
  simp only [encT, List.map_cons, List.map_nil, List.append_toArray, List.cons_append, List.nil_append, Choir.k0, Choir.k2, Choir.m]
  gi_wp2_with fail
  refine ⟨_, Ext.refl _ _, (Turns.refl _ _).alloc _, ?_⟩
  intro A2 hA2 hs2 r hr
  have z1 : rb < A.heap.size := Go.Ai.lt_of_cell h1
  have hk1 : Kept A (A.alloc (Obj.cells #[.slice (some ⟨c.bb, c.ob, none⟩) c.B.boys.length c.capb, .int .i64 c.B.weeks, .slice c.q c.B.trials.length c.capt, .map (some c.bm), .int .i64 (boy : Int), .int .i64 n0, .int .i64 n1, .int .i64 n2, .int .i64 n3, .int .i64 n4] 142)) := kept_alloc (kept_refl _) _
  have e0 := tcell hA2 (by omega) (show (A.alloc (Obj.cells #[.slice (some ⟨c.bb, c.ob, none⟩) c.B.boys.length c.capb, .int .i64 c.B.weeks, .slice c.q c.B.trials.length c.capt, .map (some c.bm), .int .i64 (boy : Int), .int .i64 n0, .int .i64 n1, .int .i64 n2, .int .i64 n3, .int .i64 n4] 142)).cell? ⟨A.heap.size, 0, none⟩ = some (.slice (some ⟨c.bb, c.ob, none⟩) c.B.boys.length c.capb) by go_simp)
  have e1 := tcell hA2 (by omega) (show (A.alloc (Obj.cells #[.slice (some ⟨c.bb, c.ob, none⟩) c.B.boys.length c.capb, .int .i64 c.B.weeks, .slice c.q c.B.trials.length c.capt, .map (some c.bm), .int .i64 (boy : Int), .int .i64 n0, .int .i64 n1, .int .i64 n2, .int .i64 n3, .int .i64 n4] 142)).cell? ⟨A.heap.size, 1, none⟩ = some (.int .i64 c.B.weeks) by go_simp)
  have e2 := tcell hA2 (by omega) (show (A.alloc (Obj.cells #[.slice (some ⟨c.bb, c.ob, none⟩) c.B.boys.length c.capb, .int .i64 c.B.weeks, .slice c.q c.B.trials.length c.capt, .map (some c.bm), .int .i64 (boy : Int), .int .i64 n0, .int .i64 n1, .int .i64 n2, .int .i64 n3, .int .i64 n4] 142)).cell? ⟨A.heap.size, 2, none⟩ = some (.slice c.q c.B.trials.length c.capt) by go_simp)
  have e3 := tcell hA2 (by omega) (show (A.alloc (Obj.cells #[.slice (some ⟨c.bb, c.ob, none⟩) c.B.boys.length c.capb, .int .i64 c.B.weeks, .slice c.q c.B.trials.length c.capt, .map (some c.bm), .int .i64 (boy : Int), .int .i64 n0, .int .i64 n1, .int .i64 n2, .int .i64 n3, .int .i64 n4] 142)).cell? ⟨A.heap.size, 3, none⟩ = some (.map (some c.bm)) by go_simp)
  have e4 := tcell hA2 (by omega) (show (A.alloc (Obj.cells #[.slice (some ⟨c.bb, c.ob, none⟩) c.B.boys.length c.capb, .int .i64 c.B.weeks, .slice c.q c.B.trials.length c.capt, .map (some c.bm), .int .i64 (boy : Int), .int .i64 n0, .int .i64 n1, .int .i64 n2, .int .i64 n3, .int .i64 n4] 142)).cell? ⟨A.heap.size, 4, none⟩ = some (.int .i64 (boy : Int)) by go_simp)
  have e5 := tcell hA2 (by omega) (show (A.alloc (Obj.cells #[.slice (some ⟨c.bb, c.ob, none⟩) c.B.boys.length c.capb, .int .i64 c.B.weeks, .slice c.q c.B.trials.length c.capt, .map (some c.bm), .int .i64 (boy : Int), .int .i64 n0, .int .i64 n1, .int .i64 n2, .int .i64 n3, .int .i64 n4] 142)).cell? ⟨A.heap.size, 5, none⟩ = some (.int .i64 n0) by go_simp)
  have e6 := tcell hA2 (by omega) (show (A.alloc (Obj.cells #[.slice (some ⟨c.bb, c.ob, none⟩) c.B.boys.length c.capb, .int .i64 c.B.weeks, .slice c.q c.B.trials.length c.capt, .map (some c.bm), .int .i64 (boy : Int), .int .i64 n0, .int .i64 n1, .int .i64 n2, .int .i64 n3, .int .i64 n4] 142)).cell? ⟨A.heap.size, 6, none⟩ = some (.int .i64 n1) by go_simp)
  have e7 := tcell hA2 (by omega) (show (A.alloc (Obj.cells #[.slice (some ⟨c.bb, c.ob, none⟩) c.B.boys.length c.capb, .int .i64 c.B.weeks, .slice c.q c.B.trials.length c.capt, .map (some c.bm), .int .i64 (boy : Int), .int .i64 n0, .int .i64 n1, .int .i64 n2, .int .i64 n3, .int .i64 n4] 142)).cell? ⟨A.heap.size, 7, none⟩ = some (.int .i64 n2) by go_simp)
  have e8 := tcell hA2 (by omega) (show (A.alloc (Obj.cells #[.slice (some ⟨c.bb, c.ob, none⟩) c.B.boys.length c.capb, .int .i64 c.B.weeks, .slice c.q c.B.trials.length c.capt, .map (some c.bm), .int .i64 (boy : Int), .int .i64 n0, .int .i64 n1, .int .i64 n2, .int .i64 n3, .int .i64 n4] 142)).cell? ⟨A.heap.size, 8, none⟩ = some (.int .i64 n3) by go_simp)
  have e9 := tcell hA2 (by omega) (show (A.alloc (Obj.cells #[.slice (some ⟨c.bb, c.ob, none⟩) c.B.boys.length c.capb, .int .i64 c.B.weeks, .slice c.q c.B.trials.length c.capt, .map (some c.bm), .int .i64 (boy : Int), .int .i64 n0, .int .i64 n1, .int .i64 n2, .int .i64 n3, .int .i64 n4] 142)).cell? ⟨A.heap.size, 9, none⟩ = some (.int .i64 n4) by go_simp)
  have p0 := tcell hA2 (by omega) (kcell hk1 h1)
  have pf : A2.frozen? ⟨rb, 0, none⟩ = false := (hA2.frozen (by simp; omega) (by omega)).trans (((kturns hk1 (fun _ => False)).frozen z1 (fun h => h)).trans h2)
  have f0 := tcell hA2 (by omega) (kcell hk1 (tcell hTA (by omega) t0))
  have hk3 : Kept W A2 := Below.trans (kept_trans hkA hk1) (hA2.toBelow (n := W.heap.size) (by rintro b rfl; omega) (by have := hkA.size; have := hk1.size; omega))
  have hcall := hso.call A2 _ hk3 hmem
  simp only [encT, List.map_cons, List.map_nil, List.append_toArray, List.cons_append, List.nil_append, Choir.k0, Choir.k2, Choir.m] at hcall
  have heg := hso.enter
  clear hA2 hr hk1 h1 h2
  gi_wp2_with fail
  refine ⟨trivial, rfl, (CallsIn.inRound _ (callsIn_wide.2 hcall)).mono ?_⟩
  rintro e A3 ⟨rfl, hk4⟩
  have p0 := kcell hk4 p0
  have pf : A3.frozen? ⟨rb, 0, none⟩ = false := ((kturns hk4 (fun _ => False)).frozen (by omega) (fun h => h)).trans pf
  clear e0 e1 e2 e3 e4 e5 e6 e7 e8 e9 f0 hcall heg
  rcases hv : sb [n0, n1, n2, n3, n4] with _ | _
  ·have HV := Lib.hid hv; clear hv
   gi_wp2_with fail
   refine ⟨fun b => b = rb, Ext.refl _ _, ?_, kturns hk4 _, rfl, p0, pf, ?_⟩
   ·rintro b rfl
    have := hk4.size
    omega
   ·intro i m hi hm
    by_cases e : i = k
    ·subst e; rw [HN.out] at hm; cases hm; exact HV.out
    ·exact H3.out i m (by omega) hm
  ·have HV := Lib.hid hv; clear hv
   gi_wp2_with fail
   refine ⟨fun b => b = rb, Ext.refl _ _, ?_, Turns.setCell (T := fun b => b = rb) (kturns hk4 _) rfl _ _, rfl, rfl, ?_, _, hmem, HV.out⟩
   ·rintro b rfl
    have := hk4.size
    simp; omega
   ·exact cell_set_eq p0
 case done =>
  rintro Db T' B hDb hnD hE hTB ⟨rfl, h1, h2, h3⟩ hK
  have hkB : Below W.heap.size W B := Below.trans HKW.out (hTB.toBelow (n := W.heap.size) (by rintro b rfl; omega) (by omega))
  have hRR : RR = false := by
   rw [← hany, List.any_eq_false]
   intro n hn
   obtain ⟨i, hi, rfl⟩ := List.getElem_of_mem hn
   simp [h3 i _ hi (List.getElem?_eq_getElem hi)]
  have hzR := Go.Ai.lt_of_cell h1
  clear h3
  gi_wp2_with fail
  have hT5 : Turns (fun b => b = rb) B (B.setCell ⟨rb, 0, none⟩ (.bool false)) := (Turns.refl (fun b => b = rb) B).setCell rfl _ _
  have hc5 : (B.setCell ⟨rb, 0, none⟩ (.bool false)).cell? ⟨rb, 0, none⟩ = some (.bool false) := cell_set_eq h1
  generalize B.setCell ⟨rb, 0, none⟩ (.bool false) = B5 at *
  have hK5 := (hT5.block Db (Array.getElem?_eq_some_iff.1 hK).1 hnD).trans hK
  refine leave_mark (v := .bool false) hK5 fun C hC hCT => ?_
  have q0 := tcell hCT (Ne.symm hnD) hc5
  refine ⟨by simp [results, Tryz.results131, go_sem, q0], rfl, ?_⟩
  exact Below.trans (Below.trans hkB (hT5.toBelow (by rintro b rfl; omega) (by have := hkB.size; omega))) (hCT.toBelow (by rintro b rfl; omega) (by have := hkB.size; have := hT5.size; omega))
 case stop =>
  rintro Db e k T' B hDb hnD hE hTB hk ⟨rfl, rfl, h1, n, hn, hno⟩ hK
  have hkB : Below W.heap.size W B := Below.trans HKW.out (hTB.toBelow (n := W.heap.size) (by rintro b rfl; omega) (by omega))
  have hRR : RR = true := by
   rw [← hany, List.any_eq_true]
   exact ⟨n, hn, hno⟩
  gi_wp2_with fail
  refine leave_mark (v := .bool true) hK fun C hC hCT => ?_
  have q0 := tcell hCT (Ne.symm hnD) h1
  refine ⟨by simp [results, Tryz.results131, go_sem, q0], rfl, ?_⟩
  exact Below.trans hkB (hCT.toBelow (by rintro b rfl; omega) (by have := hkB.size; omega))
end Go.Proofs.YtcllfjjhijkakaaGreatDoor
namespace Go.Proofs.YtcllfjjhijkakaaGreatDoor
open Go.RowKit Go.Sort Go.Rg
set_option maxRecDepth 100000
theorem Asks.kept {c : Choir} {boy : Nat} {x : Boy} {W V : World} {g : Nat} {caps : Array Value} {sb : List Int → Bool} (h : Asks c boy x W g caps sb) (k : Kept W V) : Asks c boy x V g caps sb :=
 ⟨h.enter, fun A n hA hn => h.call A n (kept_trans k hA) hn⟩
theorem oidx0 (w : World) : (Instr.index 190 (.agg #[.int .i64 2, .func (.func 130) #[] #[], .int .i64 1, .func (.func 131) #[] #[]]) (.int .i64 0)).run Tryz.prog w = .ok (.agg #[.int .i64 2, .func (.func 130) #[] #[]]) w := by kernel_rfl
theorem oidx1 (w : World) : (Instr.index 190 (.agg #[.int .i64 2, .func (.func 130) #[] #[], .int .i64 1, .func (.func 131) #[] #[]]) (.int .i64 1)).run Tryz.prog w = .ok (.agg #[.int .i64 1, .func (.func 131) #[] #[]]) w := by kernel_rfl
attribute [local go_sem] oidx0 oidx1
def oftenOf (l : List (List Int)) (sb : List Int → Bool) : Int := if l.all sb then 2 else if l.any sb then 1 else 0
set_option maxHeartbeats 4000000 in
theorem often_any (S : Nat → Prop) (c : Choir) (boy : Nat) (x : Boy) (hx : c.B.boys[boy]? = some x) (W : World) (h : ChoirAt S W c) (hS : ∀ b, S b → b < W.heap.size)
  (g : Nat) (caps : Array Value) (sb : List Int → Bool) (hso : Asks c boy x W g caps sb) :
  Calls Tryz.prog 115 #[c.val, .int .i64 (boy : Int), .func (.func g) #[] caps] W fun e B => e = .returned (.int .i64 (oftenOf (c.B.truths boy x) sb)) ∧ Kept W B := by
 have hE := fun V (k : Kept W V) => inEach_any S c boy x hx V (h.turns (kturns k (fun _ => False)) (fun _ _ h => h)) (fun b hb => Nat.lt_of_lt_of_le (hS b hb) k.size) g caps sb (hso.kept k)
 have hI := fun V (k : Kept W V) => inSome_any S c boy x hx V (h.turns (kturns k (fun _ => False)) (fun _ _ h => h)) (fun b hb => Nat.lt_of_lt_of_le (hS b hb) k.size) g caps sb (hso.kept k)
 generalize hRR : oftenOf (c.B.truths boy x) sb = RR
 generalize hall : (c.B.truths boy x).all sb = al at *
 generalize hany : (c.B.truths boy x).any sb = an at *
 have HRR : Hid (RR = if al then 2 else if an then 1 else 0) := Lib.hid (by rw [← hRR, ← hall, ← hany]; rfl)
 clear hRR hall hany
 unfold Choir.val at *
 go_enter Tryz.func115, Tryz.ntmps115
 go_wp2_with fail
 have hk0 : Kept W ((W.alloc (Obj.cells #[.slice (some ⟨c.bb, c.ob, none⟩) c.B.boys.length c.capb, .int .i64 c.B.weeks, .slice c.q c.B.trials.length c.capt, .map (some c.bm)] 83)).alloc (Obj.cells #[.int .i64 2, .func (.func 130) #[] #[], .int .i64 1, .func (.func 131) #[] #[]] 190)) := kept_alloc (kept_alloc (kept_refl _) _) _
 have ZZ : ∀ Z, Z = ((W.alloc (Obj.cells #[.slice (some ⟨c.bb, c.ob, none⟩) c.B.boys.length c.capb, .int .i64 c.B.weeks, .slice c.q c.B.trials.length c.capt, .map (some c.bm)] 83)).alloc (Obj.cells #[.int .i64 2, .func (.func 130) #[] #[], .int .i64 1, .func (.func 131) #[] #[]] 190)) → Z.cell? ⟨W.heap.size, 0, none⟩ = some (.slice (some ⟨c.bb, c.ob, none⟩) c.B.boys.length c.capb) ∧ Z.cell? ⟨W.heap.size, 1, none⟩ = some (.int .i64 c.B.weeks) ∧ Z.cell? ⟨W.heap.size, 2, none⟩ = some (.slice c.q c.B.trials.length c.capt) ∧ Z.cell? ⟨W.heap.size, 3, none⟩ = some (.map (some c.bm)) := by rintro _ rfl; refine ⟨?_, ?_, ?_, ?_⟩ <;> go_simp
 obtain ⟨c0, c1, c2, c3⟩ := ZZ _ rfl; clear ZZ
 generalize ((W.alloc (Obj.cells #[.slice (some ⟨c.bb, c.ob, none⟩) c.B.boys.length c.capb, .int .i64 c.B.weeks, .slice c.q c.B.trials.length c.capt, .map (some c.bm)] 83)).alloc (Obj.cells #[.int .i64 2, .func (.func 130) #[] #[], .int .i64 1, .func (.func 131) #[] #[]] 190)) = V0 at *
 have HEI := Lib.hid (And.intro hE hI); clear hE hI
 clear hso
 go_loopw [14] (fun i V => ∃ j : Nat, j ≤ 2 ∧ i = .int .i64 j ∧ (1 ≤ j → al = false) ∧ (2 ≤ j → an = false) ∧ Kept V0 V) (fun i V => 2 - (intOf i).toNat)
 case atStart => exact ⟨0, by omega, rfl, (fun h => by omega), (fun h => by omega), kept_refl _⟩
 case round =>
  obtain ⟨j, hj, rfl, hal, han, hV⟩ := hrel
  have HAL := Lib.hid (And.intro hal han); clear hal han
  have hkV := kept_trans hk0 hV
  rcases (show j = 0 ∨ j = 1 ∨ j = 2 by omega) with rfl | rfl | rfl
  ·have hltI : ((0 : Nat) : Int) < 2 := by omega
   have a0 := kcell hV c0
   have a1 := kcell hV c1
   have a2 := kcell hV c2
   have a3 := kcell hV c3
   have hzz := Go.Ai.lt_of_cell a0
   simp only [Int.natCast_zero] at hltI ⊢
   go_wp2_with fail
   refine (HEI.out.1 _ (kept_trans hkV (kept_alloc (kept_refl _) _))).mono ?_
   rintro e V2 ⟨rfl, hk2⟩
   have hk3 := kept_trans (kept_alloc (kept_refl _) _) hk2
   have hb0 := kcell hk2 (show (wr.alloc (Obj.cells #[.int .i64 2, .func (.func 130) #[] #[]] 189)).cell? ⟨wr.heap.size, 0, none⟩ = some (.int .i64 2) by go_simp)
   clear a0 a1 a2 a3
   cases al with
   | true =>
    go_wp2_with fail
    go_ret
    exact ⟨by rw [HRR.out]; rfl, kept_trans hkV hk3⟩
   | false =>
    go_wp2_with fail
    go_roundw
    case rel => exact ⟨1, by omega, by go_num, (fun _ => by simp), (fun h => by omega), kept_trans hV hk3⟩
    case measure => simp [intOf]
  ·have hltI : ((1 : Nat) : Int) < 2 := by omega
   have a0 := kcell hV c0
   have a1 := kcell hV c1
   have a2 := kcell hV c2
   have a3 := kcell hV c3
   have hzz := Go.Ai.lt_of_cell a0
   go_wp2_with fail
   refine (HEI.out.2 _ (kept_trans hkV (kept_alloc (kept_refl _) _))).mono ?_
   rintro e V2 ⟨rfl, hk2⟩
   have hk3 := kept_trans (kept_alloc (kept_refl _) _) hk2
   have hb0 := kcell hk2 (show (wr.alloc (Obj.cells #[.int .i64 1, .func (.func 131) #[] #[]] 189)).cell? ⟨wr.heap.size, 0, none⟩ = some (.int .i64 1) by go_simp)
   have hal := HAL.out.1 (by omega)
   clear a0 a1 a2 a3
   cases an with
   | true =>
    go_wp2_with fail
    go_ret
    exact ⟨by rw [HRR.out, hal]; rfl, kept_trans hkV hk3⟩
   | false =>
    go_wp2_with fail
    go_roundw
    case rel => exact ⟨2, by omega, by go_num, (fun _ => by simpa using hal), (fun _ => by simp), kept_trans hV hk3⟩
    case measure => simp [intOf]
  ·have hltI : ¬ ((2 : Nat) : Int) < 2 := by omega
   go_wp2_with fail
   go_ret
   exact ⟨by rw [HRR.out, HAL.out.1 (by omega), HAL.out.2 (by omega)]; rfl, hkV⟩
end Go.Proofs.YtcllfjjhijkakaaGreatDoor
namespace Go.Proofs.YtcllfjjhijkakaaGreatDoor
open Go.RowKit Go.Sort Go.Rg
set_option maxRecDepth 100000
theorem infoI : (Tryz.prog.info? 3).map (fun i => (i.zero, i.size, i.bytes)) = some (some (.int .i64 0), 1, 8) := by kernel_rfl
theorem row_le {w : World} {base base' size n : Nat} {e : TypeId} {v : Value} {xs : List Value} (h : w.ownsRow base e size v n xs) (hb : base' ≤ base) : w.ownsRow base' e size v n xs :=
 ⟨h.1, h.2.imp id fun ⟨g, cap, cur, e1, e2, r⟩ => ⟨g, cap, cur, e1, Nat.le_trans hb e2, r⟩⟩
def intsV (l : List Nat) : List Value := l.map fun b : Nat => .int .i64 (b : Int)
end Go.Proofs.YtcllfjjhijkakaaGreatDoor
namespace Go.Rg
open Go Go.Sort Go.RowKit
section
variable {F : Fence} {n : Nat} {P : Program} {ops ops' : Array Oper} {md : Region.Mode} {C : World → Prop}
def NoDefer (o : Oper) : Prop := ∀ c, o.op ≠ .defer c
theorem wpIn_of_quiet {o : Oper} {a : Act} {K : Act → Prop} {K' : Act → World → Prop} {Q' : Exit → Act → World → Prop} {w : World} (hnd : NoDefer o) (hw : C w) (h : ∀ a w', C w' → K a → K' a w')
  (ha : o.askedIn F P a C) (hh : o.quietIn F n P a C K) : o.wpIn F n P a w K' Q' := by
 obtain ⟨v, h1, h2⟩ := hh
 have h3 := h1 w hw
 unfold Oper.quietAtIn at h3
 unfold Oper.wpIn
 refine ⟨ha w hw, ?_⟩
 rw [Oper.semAt_eq _ _ _ hnd]
 generalize (execOp a.eval o).run P w = r at *
 cases r with
 | ok x w' =>
  cases x <;> simp only [Oper.quietUponIn] at h3 <;> simp only [Oper.uponIn]
  case value u =>
   obtain ⟨e1, e2⟩ := h3
   rw [e1, e2]
   exact h _ _ hw h2
  case skip =>
   obtain ⟨e1, e2⟩ := h3
   rw [e1, ← e2]
   exact h _ _ hw h2
  case enter f args =>
   obtain ⟨e1, hd, hc⟩ := h3
   rw [e1]
   exact ⟨hd, hc.mono fun e w'' ⟨he, hw''⟩ => by subst he; exact h _ _ hw'' h2⟩
 | halt x w' => simp only [Oper.quietUponIn] at h3
theorem wpOpIn_of_quiet {i : Nat} {a : Act} {K : Act → Prop} {K' : Act → World → Prop} {Q' : Exit → Act → World → Prop} {w : World} (hnd : ∀ o, ops[i]? = some o → NoDefer o) (hg : ∀ o, ops[i]? = some o → ∀ a : Act, Region.wanted o (yielded ops a.tmps) = Region.wanted o (yielded ops' a.tmps)) (hs : ops[i]? = ops'[i]?) (hC : C w) (h : ∀ a w', C w' → K a → K' a w')
  (hh : qOpIn F n P ops' C i K a) : wpOpIn F n P ops Q' i K' a w := by
 unfold qOpIn at hh
 unfold wpOpIn
 rw [← hs] at hh
 split
 ·rename_i ho; simp only [ho] at hh; exact h _ _ hC hh
 ·rename_i o ho
  simp only [ho] at hh
  obtain ⟨ha, hh⟩ := hh
  rw [← hg o ho] at hh
  split
  ·rename_i hw; simp only [hw, if_true] at hh; exact wpIn_of_quiet (hnd o ho) hC h ha hh
  ·rename_i hw; simp only [hw] at hh; exact ⟨ha w hC, h _ _ hC hh⟩
theorem getD_set {listed : Array Bool} {i j : Nat} (hij : i ≠ j) (d : Bool) : (listed.setIfInBounds i true).getD j d = listed.getD j d := by
 simp [Array.getD_eq_getD_getElem?, Array.getElem?_setIfInBounds_ne hij]
theorem wpAnyIn_last {m : Nat} {o fk : Oper} {Q : Act → Prop} {Q' : Exit → Act → World → Prop} (hm : ops[m]? = some o) (hm' : ops'[m]? = some fk) (hs : ∀ i, i ≠ m → ops[i]? = ops'[i]?) (hsz : ops.size = m + 1)
  (hnd : ∀ (i : Nat) (x : Oper), ops[i]? = some x → NoDefer x) (hg : ∀ (i : Nat) (x : Oper), ops[i]? = some x → ∀ a : Act, Region.wanted x (yielded ops a.tmps) = Region.wanted x (yielded ops' a.tmps))
  (haf : fk.after = o.after) (hdst : fk.dst = none) (hgd : o.guard = none) (hgd' : fk.guard = none) (hlow : ∀ (i : Nat) (x : Oper), ops[i]? = some x → ∀ e ∈ x.after, Region.binds md e = true → e.on < i) (hall : ∀ j, j < m → ∃ e ∈ o.after, Region.binds md e = true ∧ e.on = j)
  (hQ : ∀ a w, C w → Q a → o.wpIn F n P a w (fun a w => Q' .normal a w) Q') :
  ∀ (fuel : Nat) (listed : Array Bool) (a : Act) (w : World), listed.size = m + 1 → C w → listed.getD m true = false → wpAnyQIn F n P md ops' C Q fuel listed a → wpAnyIn F n P md ops Q' fuel listed a w := by
 have mem : ∀ {listed j}, j ∈ Region.ready md ops listed ↔ j ∈ Region.ready md ops' listed := fun {listed j} => by
  rw [mem_ready, mem_ready]
  by_cases e : j = m
  ·subst e; rw [hm, hm']
   constructor
   ·rintro ⟨h1, x, hx, h2⟩; cases hx; exact ⟨h1, fk, rfl, haf ▸ h2⟩
   ·rintro ⟨h1, x, hx, h2⟩; cases hx; exact ⟨h1, o, rfl, haf ▸ h2⟩
  ·rw [hs j e]
 have nil : ∀ {listed}, Region.ready md ops listed = [] ↔ Region.ready md ops' listed = [] := fun {listed} => by
  simp only [List.eq_nil_iff_forall_not_mem, mem]
 have prog : ∀ listed : Array Bool, listed.size = m + 1 → listed.getD m true = false → Region.ready md ops listed ≠ [] := by
  intro listed hl hmf
  have : ∀ k, k ≤ m → (∃ i, i ≤ m ∧ i ∈ Region.ready md ops listed) ∨ ∀ i, i < k → listed.getD i true = true := by
   intro k
   induction k with
   | zero => exact fun _ => .inr fun i hi => by omega
   | succ k ih =>
    intro hk
    rcases ih (by omega) with h | h
    ·exact .inl h
    ·cases hb : listed.getD k true with
     | true =>
      refine .inr fun i hi => ?_
      by_cases e : i = k
      ·rw [e]; exact hb
      ·exact h i (by omega)
     | false =>
      have hk2 : k < ops.size := by omega
      refine .inl ⟨k, by omega, mem_ready.2 ⟨hb, ops[k], by simp [hk2], fun e he hbb => ?_⟩⟩
      have h1 := hlow k ops[k] (by simp [hk2]) e he hbb
      have h2 := h e.on h1
      simp only [Array.getD_eq_getD_getElem?] at h2 ⊢
      have : e.on < listed.size := by omega
      simpa [this] using h2
  rcases this m (Nat.le_refl _) with ⟨i, _, hi⟩ | h
  ·intro e; rw [e] at hi; cases hi
  ·intro e
   have : m ∈ Region.ready md ops listed := mem_ready.2 ⟨hmf, o, hm, fun e he hbb => by
    have h1 := hlow m o hm e he hbb
    have h2 := h e.on h1
    simp only [Array.getD_eq_getD_getElem?] at h2 ⊢
    have : e.on < listed.size := by omega
    simpa [this] using h2⟩
   rw [e] at this; cases this
 have last : ∀ listed : Array Bool, listed.size = m + 1 → m ∈ Region.ready md ops listed → Region.ready md ops (listed.setIfInBounds m true) = [] := by
  intro listed hl hr
  obtain ⟨_, x, hx, h2⟩ := mem_ready.1 hr
  rw [hm] at hx; cases hx
  rw [List.eq_nil_iff_forall_not_mem]
  intro j hj
  obtain ⟨h3, x, hx, _⟩ := mem_ready.1 hj
  have hjz : j < ops.size := (Array.getElem?_eq_some_iff.1 hx).1
  by_cases e : j = m
  ·subst e
   simp [Array.getD_eq_getD_getElem?, hl] at h3
  ·obtain ⟨e1, he1, hb1, rfl⟩ := hall j (by omega)
   rw [getD_set (Ne.symm e)] at h3
   have h4 := h2 e1 he1 hb1
   have : e1.on < listed.size := by omega
   simp [Array.getD_eq_getD_getElem?, this] at h3 h4
   rw [h3] at h4; cases h4
 intro fuel
 induction fuel with
 | zero =>
  intro listed a w hl hw hmf h
  exact absurd (nil.2 h.1) (prog listed hl hmf)
 | succ fuel ih =>
  intro listed a w hl hw hmf h
  refine ⟨fun h0 => absurd h0 (prog listed hl hmf), fun i hi => ?_⟩
  have h1 := h.2 i (mem.1 hi)
  by_cases e : i = m
  ·subst e
   have hlast := last listed hl hi
   have hend : ∀ a w, Q' .normal a w → wpAnyIn F n P md ops Q' fuel (listed.setIfInBounds i true) a w := fun a w hq => by
    cases fuel with
    | zero => exact ⟨hlast, hq⟩
    | succ fuel => exact ⟨fun _ => hq, fun j hj => by rw [hlast] at hj; cases hj⟩
   unfold qOpIn at h1
   simp only [hm'] at h1
   obtain ⟨_, h1⟩ := h1
   have hwt : Region.wanted fk (yielded ops' a.tmps) = true := by simp [Region.wanted, hgd']
   rw [if_pos hwt] at h1
   obtain ⟨v, _, h2⟩ := h1
   have hq : Q a := by
    rw [hdst] at h2
    have h2 : wpAnyQIn F n P md ops' C Q fuel (listed.setIfInBounds i true) a := h2
    cases fuel with
    | zero => exact h2.2
    | succ fuel => exact h2.1 (nil.1 hlast)
   unfold wpOpIn
   simp only [hm]
   have hwo : Region.wanted o (yielded ops a.tmps) = true := by simp [Region.wanted, hgd]
   rw [if_pos hwo]
   exact Oper.wpIn_mono (fun a w hq => hend a w hq) (hQ a w hw hq)
  ·exact wpOpIn_of_quiet (hnd i) (hg i) (hs i e) hw (fun a' w' hw' hK => ih (listed.setIfInBounds i true) a' w' (by simpa using hl) hw' ((getD_set e true).trans hmf) hK) h1
end
def fake (o : Oper) : Oper := { o with op := .move (.const (.int .i64 0)) }
def fakeLast : List Oper → List Oper
 | [] => []
 | [o] => [fake o]
 | o :: p :: l => o :: fakeLast (p :: l)
def lastOf : List Oper → Option Oper
 | [] => none
 | [o] => some o
 | _ :: p :: l => lastOf (p :: l)
def notDefer : Op → Bool
 | .defer _ => false
 | _ => true
def lowFrom : Nat → List Oper → Bool
 | _, [] => true
 | i, o :: l => o.after.toList.all (fun e => !Region.binds .any e || Nat.blt e.on i) && lowFrom (i + 1) l
def lastOk (l : List Oper) : Bool :=
 Region.lexB .any (fakeLast l).toArray && l.all (fun o => o.guard.isNone && notDefer o.op) && lowFrom 0 l &&
  match lastOf l with
  | some o => o.dst.isNone && (List.range (l.length - 1)).all fun j => o.after.toList.any fun e => Region.binds .any e && Nat.beq e.on j
  | none => false
theorem fakeLast_len : ∀ l : List Oper, (fakeLast l).length = l.length
 | [] => rfl
 | [o] => rfl
 | o :: p :: l => by simp [fakeLast, fakeLast_len (p :: l)]
theorem fakeLast_get : ∀ (l : List Oper) (i : Nat), i ≠ l.length - 1 → l[i]? = (fakeLast l)[i]?
 | [], _, _ => rfl
 | [o], 0, h => absurd rfl h
 | [o], i + 1, h => by simp [fakeLast]
 | o :: p :: l, 0, h => by simp [fakeLast]
 | o :: p :: l, i + 1, h => by
  simp only [fakeLast, List.getElem?_cons_succ]
  exact fakeLast_get (p :: l) i (by simp at h ⊢; omega)
theorem lastOf_get : ∀ (l : List Oper) (o : Oper), lastOf l = some o → l[l.length - 1]? = some o ∧ (fakeLast l)[l.length - 1]? = some (fake o)
 | [], _, h => by cases h
 | [x], o, h => by cases h; exact ⟨rfl, rfl⟩
 | x :: p :: l, o, h => by
  have := lastOf_get (p :: l) o h
  simpa [fakeLast] using this
theorem lowFrom_get : ∀ (k : Nat) (l : List Oper), lowFrom k l = true → ∀ (i : Nat) (x : Oper), l[i]? = some x → ∀ e ∈ x.after, Region.binds .any e = true → e.on < k + i
 | _, [], _, i, x, h, _, _, _ => by simp at h
 | k, o :: l, hl, 0, x, h, e, he, hb => by
  simp only [lowFrom, Bool.and_eq_true, List.all_eq_true] at hl
  simp only [List.getElem?_cons_zero, Option.some.injEq] at h
  subst h
  have := hl.1 e (by simpa using he)
  simpa [Nat.blt_eq, hb] using this
 | k, o :: l, hl, i + 1, x, h, e, he, hb => by
  simp only [lowFrom, Bool.and_eq_true] at hl
  have := lowFrom_get (k + 1) l hl.2 i x (by simpa using h) e he hb
  omega
theorem wpIn_region_quiet_last {F : Fence} {n : Nat} {P : Program} {C : World → Prop} {id : Nat} {Q : Exit → Act → World → Prop} {a : Act} {w : World} {l : List Oper} {o : Oper} (hm : P.follows .mixedOrders = true) (hok : lastOk l = true) (hlo : lastOf l = some o)
  (hC : C { w with drawn := w.drawn + 1 })
  (h : wpQuietIn F n P (fakeLast l).toArray C (fun a' => ∀ w', C w' → o.wpIn F n P a' w' (fun a w => Q .normal a w) Q) (fakeLast l) a) : (Code.region id l.toArray true).wpIn F n P Q a w := by
 simp only [lastOk, Bool.and_eq_true, hlo] at hok
 obtain ⟨⟨⟨hB, hall⟩, hlow⟩, hdst, hwait⟩ := hok
 simp only [Region.lexB, Bool.and_eq_true] at hB
 obtain ⟨g1, g2⟩ := lastOf_get l o hlo
 have hne : l ≠ [] := by rintro rfl; cases hlo
 have hlen : l.length - 1 + 1 = l.length := by have := List.length_pos_iff.2 hne; omega
 simp only [List.all_eq_true, Bool.and_eq_true] at hall
 have hall' : ∀ (i : Nat) (x : Oper), l.toArray[i]? = some x → x.guard = none ∧ NoDefer x := fun i x hx => by
  have := hall x (List.mem_of_getElem? (by simpa using hx))
  refine ⟨by simpa using this.1, fun c e => ?_⟩
  rw [e] at this
  exact absurd this.2 (by simp [notDefer])
 have hq := wpAnyQIn_lex (F := F) (n := n) (C := C) (md := .any) hB.1 (fakeLast l) 0 (Array.replicate (fakeLast l).toArray.size false) a (by simp) (by simpa using hB.2) h
 refine wpIn_region_any hm ?_
 refine wpAnyIn_last (m := l.length - 1) (o := o) (fk := fake o) (ops := l.toArray) (ops' := (fakeLast l).toArray) (by simpa using g1) (by simpa using g2) (fun i hi => by simpa using fakeLast_get l i hi) (by simp [hlen])
  (fun i x hx => (hall' i x hx).2) (fun i x hx a => by simp [Region.wanted, (hall' i x hx).1]) rfl (by simpa [fake] using hdst) ((hall' _ o (by simpa using g1)).1) (by show o.guard = none; exact (hall' _ o (by simpa using g1)).1)
  (fun i x hx e he hb => by have := lowFrom_get 0 l hlow i x (by simpa using hx) e he hb; omega) (fun j hj => ?_) (Q := fun a' => ∀ w', C w' → o.wpIn F n P a' w' (fun a w => Q .normal a w) Q) (fun a w hw hQ => hQ w hw) l.toArray.size (Array.replicate l.toArray.size false) a _ (by simp [hlen]) hC ?_ (by simpa [fakeLast_len] using hq)
 rotate_left
 ·have : l.length - 1 < l.length := by omega
  simp [Array.getD_eq_getD_getElem?, this]
 rw [List.all_eq_true] at hwait
 have := hwait j (List.mem_range.2 hj)
 rw [List.any_eq_true] at this
 obtain ⟨e, he, h2⟩ := this
 simp only [Bool.and_eq_true] at h2
 exact ⟨e, by simpa using he, h2.1, Nat.eq_of_beq_eq_true h2.2⟩
theorem wpIn_region_below_last {F : Fence} {n : Nat} {P : Program} {id : Nat} {Q : Exit → Act → World → Prop} {a : Act} {w : World} {l : List Oper} {o : Oper} (hm : P.follows .mixedOrders = true) (hok : lastOk l = true) (hlo : lastOf l = some o)
  (h : wpQuietIn F n P (fakeLast l).toArray (fun w' => ∃ p : Regrown, w' = grow (redrawn w p.d) p.os) (fun a' => ∀ w', (∃ p : Regrown, w' = grow (redrawn w p.d) p.os) → o.wpIn F n P a' w' (fun a w => Q .normal a w) Q) (fakeLast l) a) : (Code.region id l.toArray true).wpIn F n P Q a w :=
 wpIn_region_quiet_last (C := fun w' => ∃ p : Regrown, w' = grow (redrawn w p.d) p.os) hm hok hlo ⟨⟨w.drawn + 1, #[]⟩, by rw [grow_empty]; rfl⟩ h
end Go.Rg
