/- A map from two pipes to a bound: what it tells, and how an entry is written. No conditions. -/
import Derived.Test.YthgfbokfaidklaaGreatDoorGB
import Derived.Test.YthgfbokfaidklaaGreatDoorGA
import Derived.Test.YthgfbokfaidklaaGreatDoorAiL
set_option linter.all false
set_option linter.all false
namespace Go.Proofs.YthgfbokfaidklaaGreatDoor
open Go.RowKit Go.Sort Go.Rg
open Go.ChangeMaps (setBlock)
set_option maxRecDepth 100000

def cellsT (t : Trial) : List Value := [.int .i64 t.boy, .int .i64 t.week, .int .i64 t.note, .int .i64 t.sang]
def cellsOfT (ts : List Trial) : List Value := ts.flatMap cellsT
def isAt (b k : Nat) (t : Trial) : Bool := decide (t.boy = (b : Int)) && decide (t.week = (k : Int))
structure Tried (W : World) (bm base : Nat) (l : List Slot) (ts : List Trial) : Prop where
  map : W.heap[bm]? = some (.map (entries l) l.length)
  ok : SlotOk l
  nodup : ∀ (i j : Nat) (s t : Slot), l[i]? = some s → l[j]? = some t → s.b = t.b → s.w = t.w → i = j
  rows : ∀ s ∈ l, W.ownsRow base 143 4 s.v s.ts.length (cellsOfT s.ts) ∧ s.ts.length ≤ ts.length
  apart : ∀ (i j : Nat) (s t : Slot), l[i]? = some s → l[j]? = some t → s.v.ownBlock = t.v.ownBlock → s.v.ownBlock ≠ none → i = j
  told : ∀ b k : Nat, b < 4 → k < 6 → (∃ s ∈ l, s.b = b ∧ s.w = k ∧ s.ts = ts.filter (isAt b k)) ∨ ((∀ s ∈ l, ¬ (s.b = b ∧ s.w = k)) ∧ ts.filter (isAt b k) = [])
theorem row_not_map {W : World} {base : Nat} {e : TypeId} {v : Value} {n : Nat} {xs : List Value} {bm : Nat} {es : Array MapEntry} {c : Nat} (h : W.ownsRow base e 4 v n xs) (hm : W.heap[bm]? = some (.map es c)) : v.ownBlock = none ∨ v.ownBlock ≠ some bm := by
  rcases h.2 with ⟨rfl, _⟩ | ⟨g, cap, cur, rfl, _, hg, _⟩
  · exact .inl rfl
  · refine .inr fun e => ?_
    simp only [Value.ownBlock, Option.some.injEq] at e
    subst e
    rw [hg] at hm; cases hm
theorem Tried.kept {A B : World} {bm base : Nat} {l : List Slot} {ts : List Trial} (h : Tried A bm base l ts) (k : Kept A B) : Tried B bm base l ts :=
  { h with map := (k.block bm (Array.getElem?_eq_some_iff.1 h.map).1).trans h.map
           rows := fun s hs => ⟨(h.rows s hs).1.kept (row := none) ⟨k.os, k.tape, k.output, k.size, fun i hi _ => k.block i hi⟩ (by cases s.v.ownBlock <;> simp), (h.rows s hs).2⟩ }
theorem grown_set {W : World} {bm : Nat} {o : Obj} : W.grownBy (setBlock W bm o) (some bm) :=
  ⟨rfl, rfl, rfl, by simp [setBlock], fun i hi hne => by
    have : ¬ bm = i := fun e => hne (by rw [e])
    simp [setBlock, Array.getElem?_setIfInBounds_ne this]⟩
theorem set_same {W : World} {bm : Nat} {o : Obj} (h : bm < W.heap.size) : (setBlock W bm o).heap[bm]? = some o := by simp [setBlock, h]
theorem getElem?_snoc {α : Type} {l : List α} {a x : α} {i : Nat} (h : (l ++ [a])[i]? = some x) : l[i]? = some x ∨ (i = l.length ∧ x = a) := by
  rcases Nat.lt_trichotomy i l.length with hi | hi | hi
  · rw [List.getElem?_append_left hi] at h; exact .inl h
  · subst hi; right; exact ⟨rfl, by simpa using h.symm⟩
  · rw [List.getElem?_eq_none (by simp; omega)] at h; cases h
theorem Tried.push {W : World} {bm base : Nat} {l : List Slot} {ts : List Trial} (h : Tried W bm base l ts) {b k : Nat} (hb : b < 4) (hk : k < 6) (hno : ∀ s ∈ l, ¬ (s.b = b ∧ s.w = k)) :
    Tried (setBlock W bm (.map (entries (l ++ [⟨b, k, .slice none 0 0, []⟩])) (l.length + 1))) bm base (l ++ [⟨b, k, .slice none 0 0, []⟩]) ts where
  map := by rw [set_same (Array.getElem?_eq_some_iff.1 h.map).1]; simp
  ok := fun s hs => by
    rcases List.mem_append.1 hs with hs | hs
    · exact h.ok s hs
    · simp only [List.mem_singleton] at hs; subst hs; exact ⟨hb, hk⟩
  nodup := fun i j s t hi hj e1 e2 => by
    rcases getElem?_snoc hi with hi | ⟨rfl, rfl⟩ <;> rcases getElem?_snoc hj with hj | ⟨rfl, rfl⟩
    · exact h.nodup i j s t hi hj e1 e2
    · exact absurd ⟨e1, e2⟩ (hno s (List.mem_of_getElem? hi))
    · exact absurd ⟨e1.symm, e2.symm⟩ (hno t (List.mem_of_getElem? hj))
    · rfl
  rows := fun s hs => by
    rcases List.mem_append.1 hs with hs | hs
    · exact ⟨(h.rows s hs).1.kept grown_set (row_not_map (h.rows s hs).1 h.map), (h.rows s hs).2⟩
    · simp only [List.mem_singleton] at hs; subst hs; exact ⟨World.ownsRow_nil _ _ _ _, Nat.zero_le _⟩
  apart := fun i j s t hi hj e1 e2 => by
    rcases getElem?_snoc hi with hi | ⟨rfl, rfl⟩ <;> rcases getElem?_snoc hj with hj | ⟨rfl, rfl⟩
    · exact h.apart i j s t hi hj e1 e2
    · rw [e1] at e2; exact absurd rfl e2
    · exact absurd rfl e2
    · rfl
  told := fun b' k' hb' hk' => by
    rcases h.told b' k' hb' hk' with ⟨s, hs, e⟩ | ⟨hn, he⟩
    · exact .inl ⟨s, List.mem_append_left _ hs, e⟩
    · by_cases e : b = b' ∧ k = k'
      · obtain ⟨rfl, rfl⟩ := e
        exact .inl ⟨⟨b, k, .slice none 0 0, []⟩, by simp, rfl, rfl, he.symm⟩
      · refine .inr ⟨fun s hs => ?_, he⟩
        rcases List.mem_append.1 hs with hs | hs
        · exact hn s hs
        · simp only [List.mem_singleton] at hs; subst hs; exact e
theorem Tried.append {W W4 : World} {bm base g cap j : Nat} {l : List Slot} {ts : List Trial} {s : Slot} {t : Trial} (h : Tried W bm base l ts) (hs : l[j]? = some s) (ht : isAt s.b s.w t = true)
    (hg : W.grownBy W4 s.v.ownBlock) (hown : W4.ownsRow base 143 4 (.slice (some ⟨g, 0, none⟩) (s.ts.length + 1) cap) (s.ts.length + 1) (cellsOfT s.ts ++ cellsT t)) (hat : s.v.ownBlock = some g ∨ g = W.heap.size) :
    Tried (setBlock W4 bm (.map (entries (l.set j { s with v := .slice (some ⟨g, 0, none⟩) (s.ts.length + 1) cap, ts := s.ts ++ [t] })) l.length)) bm base (l.set j { s with v := .slice (some ⟨g, 0, none⟩) (s.ts.length + 1) cap, ts := s.ts ++ [t] }) (ts ++ [t]) := by
  have hjl := (List.getElem?_eq_some_iff.1 hs).1
  have hmz := (Array.getElem?_eq_some_iff.1 h.map).1
  have hm4 : W4.heap[bm]? = some (.map (entries l) l.length) := (hg.block bm hmz (fun e => by
    rcases row_not_map (h.rows s (List.mem_of_getElem? hs)).1 h.map with h1 | h1
    · rw [h1] at e; cases e
    · exact h1 e.symm)).trans h.map
  have get : ∀ {i x}, (l.set j { s with v := .slice (some ⟨g, 0, none⟩) (s.ts.length + 1) cap, ts := s.ts ++ [t] })[i]? = some x → (i ≠ j ∧ l[i]? = some x) ∨ (i = j ∧ x = { s with v := .slice (some ⟨g, 0, none⟩) (s.ts.length + 1) cap, ts := s.ts ++ [t] }) := fun {i x} hx => by
    rw [List.getElem?_set] at hx
    by_cases e : j = i
    · subst e; simp [hjl] at hx; exact .inr ⟨rfl, hx.symm⟩
    · simp only [e, if_false] at hx; exact .inl ⟨fun h => e h.symm, hx⟩
  have ne_g : ∀ i x, i ≠ j → l[i]? = some x → x.v.ownBlock ≠ some g := fun i x hij hx e => by
    rcases hat with h1 | h1
    · exact hij (h.apart i j x s hx hs (e.trans h1.symm) (by rw [e]; simp))
    · have := ((h.rows x (List.mem_of_getElem? hx)).1.lt g e).2
      omega
  refine ⟨by rw [set_same (Array.getElem?_eq_some_iff.1 hm4).1]; simp, ?_, ?_, ?_, ?_, ?_⟩
  · intro x hx
    obtain ⟨i, hi, rfl⟩ := List.getElem_of_mem hx
    rcases get (List.getElem?_eq_getElem hi) with ⟨_, h1⟩ | ⟨_, h1⟩
    · exact h.ok _ (List.mem_of_getElem? h1)
    · rw [h1]; exact h.ok s (List.mem_of_getElem? hs)
  · intro i i' x y hi hi' e1 e2
    rcases get hi with ⟨n1, h1⟩ | ⟨rfl, rfl⟩ <;> rcases get hi' with ⟨n2, h2⟩ | ⟨rfl, rfl⟩
    · exact h.nodup i i' x y h1 h2 e1 e2
    · exact h.nodup i _ x s h1 hs e1 e2
    · exact h.nodup _ i' s y hs h2 e1 e2
    · rfl
  · intro x hx
    obtain ⟨i, hi, rfl⟩ := List.getElem_of_mem hx
    have hset : ∀ {v n xs}, W4.ownsRow base 143 4 v n xs → (setBlock W4 bm (.map (entries (l.set j { s with v := .slice (some ⟨g, 0, none⟩) (s.ts.length + 1) cap, ts := s.ts ++ [t] })) l.length)).ownsRow base 143 4 v n xs := fun h4 => h4.kept grown_set (row_not_map h4 hm4)
    rcases get (List.getElem?_eq_getElem hi) with ⟨n1, h1⟩ | ⟨_, h1⟩
    · have hr := h.rows _ (List.mem_of_getElem? h1)
      refine ⟨hset (hr.1.kept hg ?_), by simp; omega⟩
      cases hb : ((l.set j { s with v := .slice (some ⟨g, 0, none⟩) (s.ts.length + 1) cap, ts := s.ts ++ [t] })[i]).v.ownBlock with
      | none => exact .inl rfl
      | some g' => exact .inr fun e => n1 (h.apart i j _ s h1 hs (hb.trans e) (by rw [hb]; simp))
    · rw [h1]
      refine ⟨?_, by have := (h.rows s (List.mem_of_getElem? hs)).2; simp; omega⟩
      have e : cellsOfT (s.ts ++ [t]) = cellsOfT s.ts ++ cellsT t := by simp [cellsOfT]
      rw [e]
      simpa using hset hown
  · intro i i' x y hi hi' e1 e2
    rcases get hi with ⟨n1, h1⟩ | ⟨rfl, rfl⟩ <;> rcases get hi' with ⟨n2, h2⟩ | ⟨rfl, rfl⟩
    · exact h.apart i i' x y h1 h2 e1 e2
    · exact absurd e1 (ne_g _ _ n1 h1)
    · exact absurd e1.symm (ne_g _ _ n2 h2)
    · rfl
  · intro b k hb hk
    have hf : (ts ++ [t]).filter (isAt b k) = ts.filter (isAt b k) ++ (if isAt b k t then [t] else []) := by
      rw [List.filter_append]; congr 1; simp only [List.filter_cons, List.filter_nil]
    have key : ∀ {b k b' k' : Nat}, isAt b k t = true → isAt b' k' t = true → b = b' ∧ k = k' := fun h1 h2 => by
      simp only [isAt, Bool.and_eq_true, decide_eq_true_eq] at h1 h2
      omega
    by_cases e : isAt b k t = true
    · obtain ⟨rfl, rfl⟩ := key ht e
      refine .inl ⟨{ s with v := .slice (some ⟨g, 0, none⟩) (s.ts.length + 1) cap, ts := s.ts ++ [t] }, List.mem_of_getElem? (i := j) (by simp [List.getElem?_set, hjl]), rfl, rfl, ?_⟩
      rw [hf, if_pos e]
      rcases h.told s.b s.w hb hk with ⟨s', hs', e1, e2, e3⟩ | ⟨hno, _⟩
      · obtain ⟨i, hi, rfl⟩ := List.getElem_of_mem hs'
        have := h.nodup i j _ s (List.getElem?_eq_getElem hi) hs e1 e2
        subst this
        rw [List.getElem?_eq_getElem hi] at hs
        cases hs
        rw [e3]
      · exact absurd ⟨rfl, rfl⟩ (hno s (List.mem_of_getElem? hs))
    · rw [hf, if_neg e, List.append_nil]
      rcases h.told b k hb hk with ⟨s', hs', e1, e2, e3⟩ | ⟨hno, he⟩
      · obtain ⟨i, hi, rfl⟩ := List.getElem_of_mem hs'
        have hij : i ≠ j := by
          rintro rfl
          rw [List.getElem?_eq_getElem hi] at hs
          cases hs
          exact e (by rw [← e1, ← e2]; exact ht)
        exact .inl ⟨_, List.mem_of_getElem? (i := i) (by rw [List.getElem?_set, if_neg (Ne.symm hij)]; exact List.getElem?_eq_getElem hi), e1, e2, e3⟩
      · refine .inr ⟨fun x hx => ?_, he⟩
        obtain ⟨i, hi, rfl⟩ := List.getElem_of_mem hx
        rcases get (List.getElem?_eq_getElem hi) with ⟨_, h1⟩ | ⟨_, h1⟩
        · exact hno _ (List.mem_of_getElem? h1)
        · rw [h1]; exact hno s (List.mem_of_getElem? hs)

theorem entry_any {W : World} {bm base : Nat} {l : List Slot} {ts : List Trial} (h : Tried W bm base l ts) {b k : Nat} (hb : b < 4) (hk : k < 6) :
    ∃ (W' : World) (l' : List Slot) (j : Nat) (s : Slot), (Instr.mapEntry 90 (.map (some bm)) (keyV b k)).run Tryz.prog W = .ok (.tuple #[s.v, .int .i64 (j : Int)]) W' ∧ Tried W' bm base l' ts ∧ l'[j]? = some s ∧ s.b = b ∧ s.w = k ∧ Turns (fun x => x = bm) W W' ∧ W'.heap.size = W.heap.size := by
  rcases find_slot W l h.ok hb hk with ⟨h1, hno⟩ | ⟨j, s, h1, hs, e1, e2⟩
  · refine ⟨_, _, l.length, ⟨b, k, .slice none 0 0, []⟩, mapEntry_new W bm l hb hk h.map h1, h.push hb hk hno, by simp, rfl, rfl, ?_, by simp [setBlock]⟩
    have := grown_set (W := W) (bm := bm) (o := .map (entries (l ++ [⟨b, k, .slice none 0 0, []⟩])) (l.length + 1))
    exact ⟨this.os, this.tape, this.output, this.size, fun i hi hne => this.block i hi (fun e => hne (by cases e; rfl))⟩
  · exact ⟨W, l, j, s, mapEntry_old W bm l _ hb hk h.map h1 hs e1 e2, h, hs, e1, e2, Turns.refl _ _, rfl⟩
theorem cellsOfT_get : ∀ (ts : List Trial) (i r : Nat) (t : Trial), ts[i]? = some t → r < 4 → (cellsOfT ts)[i * 4 + r]? = (cellsT t)[r]?
  | [], _, _, _, h, _ => by simp at h
  | x :: ts, 0, r, t, h, hr => by
    simp only [List.getElem?_cons_zero, Option.some.injEq] at h
    subst h
    show (cellsT x ++ cellsOfT ts)[0 * 4 + r]? = _
    rw [List.getElem?_append_left (by simp [cellsT]; omega)]; simp
  | x :: ts, i + 1, r, t, h, hr => by
    simp only [List.getElem?_cons_succ] at h
    have := cellsOfT_get ts i r t h hr
    show (cellsT x ++ cellsOfT ts)[(i + 1) * 4 + r]? = _
    rw [List.getElem?_append_right (by simp [cellsT]; omega), ← this]
    congr 1; simp [cellsT]; omega
theorem trials_of_row {W : World} {base : Nat} {v : Value} {ts : List Trial} (h : W.ownsRow base 143 4 v ts.length (cellsOfT ts)) :
    (v = .slice none 0 0 ∧ ts = []) ∨ ∃ b o cap, v = .slice (some ⟨b, o, none⟩) ts.length cap ∧ b < W.heap.size ∧ TrialsAt W b o ts := by
  rcases h.2 with ⟨rfl, h0⟩ | ⟨g, cap, cur, rfl, hb, hg, _⟩
  · exact .inl ⟨rfl, List.eq_nil_of_length_eq_zero h0⟩
  · have hz := (Array.getElem?_eq_some_iff.1 hg).1
    refine .inr ⟨g, 0, cap, rfl, hz, hz, fun i t hi => ?_⟩
    have hl : i < ts.length := (List.getElem?_eq_some_iff.1 hi).1
    have get : ∀ r u, r < 4 → (cellsT t)[r]? = some u → W.cell? ⟨g, 0 + i * 4 + r, none⟩ = some u := fun r u hr hu => by
      have := h.cells (g := g) rfl (i * 4 + r) u ((cellsOfT_get ts i r t hi hr).trans hu)
      have e : (⟨g, 0, none⟩ : Addr).add (i * 4 + r) = ⟨g, 0 + i * 4 + r, none⟩ := by
        rw [show 0 + i * 4 + r = 0 + (i * 4 + r) by omega]
        unfold Addr.add
        split
        · rename_i h0; rw [h0]
        · rfl
      rw [← e]; exact this
    exact ⟨get 0 _ (by omega) rfl, get 1 _ (by omega) rfl, get 2 _ (by omega) rfl, get 3 _ (by omega) rfl⟩
theorem Tried.look {W C : World} {bm base : Nat} {l : List Slot} {ts : List Trial} (h : Tried W bm base l ts) {S U : Nat → Prop} (k : Turns U W C) (hu1 : ¬ U bm) (hu2 : ∀ b, base ≤ b → ¬ U b) (hs1 : S bm) (hs2 : ∀ b, base ≤ b → b < C.heap.size → S b) {b wk : Nat} (hb : b < 4) (hk : wk < 6) :
    Look2 S C bm b wk (ts.filter (isAt b wk)) := by
  have hmz := (Array.getElem?_eq_some_iff.1 h.map).1
  have hC : C.heap[bm]? = some (.map (entries l) l.length) := (k.block bm hmz hu1).trans h.map
  have hn : ∀ s ∈ l, ∀ t ∈ l, s.b = t.b → s.w = t.w → s.v = t.v := fun s hs t ht e1 e2 => by
    obtain ⟨i, hi, rfl⟩ := List.getElem_of_mem hs
    obtain ⟨j, hj, rfl⟩ := List.getElem_of_mem ht
    have := h.nodup i j _ _ (List.getElem?_eq_getElem hi) (List.getElem?_eq_getElem hj) e1 e2
    subst this; rfl
  rcases h.told b wk hb hk with ⟨s, hs, e1, e2, e3⟩ | ⟨hno, he⟩
  · refine ⟨s.v, hs1, Nat.lt_of_lt_of_le hmz k.size, fun W' hW' => lookup_slot C W' bm l _ h.ok hb hk hC hW' s.v (.inr ⟨s, hs, e1, e2, rfl⟩) hn, ?_⟩
    have hr := (h.rows s hs).1
    rw [← e3]
    rcases trials_of_row hr with hv | ⟨g, o, cap, hv, hz, ht⟩
    · exact .inl hv
    · have hg : ¬ U g := hu2 g (hr.lt g (by rw [hv]; rfl)).1
      exact .inr ⟨g, o, cap, hv, hs2 g (hr.lt g (by rw [hv]; rfl)).1 (Nat.lt_of_lt_of_le hz k.size), ht.turns k hg⟩
  · refine ⟨.slice none 0 0, hs1, Nat.lt_of_lt_of_le hmz k.size, fun W' hW' => lookup_slot C W' bm l _ h.ok hb hk hC hW' _ (.inl ⟨rfl, hno⟩) hn, .inl ⟨rfl, he⟩⟩
theorem infoT : (Tryz.prog.info? 143).map (fun i => (i.zero, i.size, i.bytes)) = some (some (.agg #[.int .i64 0, .int .i64 0, .int .i64 0, .int .i64 0]), 4, 32) := by kernel_rfl

set_option maxHeartbeats 4000000 in
theorem newChoir_any (p q : Option Addr) (cap capt : Nat) (B : Book) (Wb W : World) (hok : B.okB = true) (hb : BookAt Wb p q cap capt B) (hkb : Kept Wb W) :
    Calls Tryz.prog 70 #[.agg #[.slice p B.boys.length cap, .int .i64 B.weeks, .slice q B.trials.length capt]] W fun e C => ∃ c : Choir, c.B = B ∧ e = .returned c.val ∧ Kept W C ∧ ChoirAt (fun b => b < C.heap.size ∧ (b < Wb.heap.size ∨ W.heap.size ≤ b)) C c := by
  have h := hb.kept hkb
  have hmm := @run_makeMap Tryz.prog
  go_enter Tryz.func70, Tryz.ntmps70
  go_wp2_with fail
  have hk0 : Kept W ((((W.alloc (Obj.cells #[.slice p B.boys.length cap, .int .i64 B.weeks, .slice q B.trials.length capt] 27)).alloc (Obj.cells #[.slice none 0 0, .int .i64 0, .slice none 0 0, .map none] 92)).alloc (Obj.map #[] 0)).alloc (Obj.cells #[.slice p B.boys.length cap, .int .i64 B.weeks, .slice q B.trials.length capt, .map (some (W.heap.size + 1 + 1))] 92)) := kept_alloc (kept_alloc (kept_alloc (kept_alloc (kept_refl _) _) _) _) _
  have hz0 : ((((W.alloc (Obj.cells #[.slice p B.boys.length cap, .int .i64 B.weeks, .slice q B.trials.length capt] 27)).alloc (Obj.cells #[.slice none 0 0, .int .i64 0, .slice none 0 0, .map none] 92)).alloc (Obj.map #[] 0)).alloc (Obj.cells #[.slice p B.boys.length cap, .int .i64 B.weeks, .slice q B.trials.length capt, .map (some (W.heap.size + 1 + 1))] 92)).heap.size = W.heap.size + 4 := by simp
  have hmap : ((((W.alloc (Obj.cells #[.slice p B.boys.length cap, .int .i64 B.weeks, .slice q B.trials.length capt] 27)).alloc (Obj.cells #[.slice none 0 0, .int .i64 0, .slice none 0 0, .map none] 92)).alloc (Obj.map #[] 0)).alloc (Obj.cells #[.slice p B.boys.length cap, .int .i64 B.weeks, .slice q B.trials.length capt, .map (some (W.heap.size + 1 + 1))] 92)).heap[W.heap.size + 1 + 1]? = some (.map #[] 0) := by
    have h1 := World.alloc_heap_new ((W.alloc (Obj.cells #[.slice p B.boys.length cap, .int .i64 B.weeks, .slice q B.trials.length capt] 27)).alloc (Obj.cells #[.slice none 0 0, .int .i64 0, .slice none 0 0, .map none] 92)) (Obj.map #[] 0)
    simp only [World.size_alloc] at h1
    exact (Below.heap_alloc _ _ _ (by simp)).trans h1
  have c0 : ((((W.alloc (Obj.cells #[.slice p B.boys.length cap, .int .i64 B.weeks, .slice q B.trials.length capt] 27)).alloc (Obj.cells #[.slice none 0 0, .int .i64 0, .slice none 0 0, .map none] 92)).alloc (Obj.map #[] 0)).alloc (Obj.cells #[.slice p B.boys.length cap, .int .i64 B.weeks, .slice q B.trials.length capt, .map (some (W.heap.size + 1 + 1))] 92)).cell? ⟨W.heap.size + 1 + 1 + 1, 0, none⟩ = some (.slice p B.boys.length cap) := by go_simp
  have c1 : ((((W.alloc (Obj.cells #[.slice p B.boys.length cap, .int .i64 B.weeks, .slice q B.trials.length capt] 27)).alloc (Obj.cells #[.slice none 0 0, .int .i64 0, .slice none 0 0, .map none] 92)).alloc (Obj.map #[] 0)).alloc (Obj.cells #[.slice p B.boys.length cap, .int .i64 B.weeks, .slice q B.trials.length capt, .map (some (W.heap.size + 1 + 1))] 92)).cell? ⟨W.heap.size + 1 + 1 + 1, 1, none⟩ = some (.int .i64 B.weeks) := by go_simp
  have c2 : ((((W.alloc (Obj.cells #[.slice p B.boys.length cap, .int .i64 B.weeks, .slice q B.trials.length capt] 27)).alloc (Obj.cells #[.slice none 0 0, .int .i64 0, .slice none 0 0, .map none] 92)).alloc (Obj.map #[] 0)).alloc (Obj.cells #[.slice p B.boys.length cap, .int .i64 B.weeks, .slice q B.trials.length capt, .map (some (W.heap.size + 1 + 1))] 92)).cell? ⟨W.heap.size + 1 + 1 + 1, 2, none⟩ = some (.slice q B.trials.length capt) := by go_simp
  have c3 : ((((W.alloc (Obj.cells #[.slice p B.boys.length cap, .int .i64 B.weeks, .slice q B.trials.length capt] 27)).alloc (Obj.cells #[.slice none 0 0, .int .i64 0, .slice none 0 0, .map none] 92)).alloc (Obj.map #[] 0)).alloc (Obj.cells #[.slice p B.boys.length cap, .int .i64 B.weeks, .slice q B.trials.length capt, .map (some (W.heap.size + 1 + 1))] 92)).cell? ⟨W.heap.size + 1 + 1 + 1, 3, none⟩ = some (.map (some (W.heap.size + 1 + 1))) := by go_simp
  have d0 : ((((W.alloc (Obj.cells #[.slice p B.boys.length cap, .int .i64 B.weeks, .slice q B.trials.length capt] 27)).alloc (Obj.cells #[.slice none 0 0, .int .i64 0, .slice none 0 0, .map none] 92)).alloc (Obj.map #[] 0)).alloc (Obj.cells #[.slice p B.boys.length cap, .int .i64 B.weeks, .slice q B.trials.length capt, .map (some (W.heap.size + 1 + 1))] 92)).cell? ⟨W.heap.size + 1, 0, none⟩ = some (.slice none 0 0) := by go_simp
  have d1 : ((((W.alloc (Obj.cells #[.slice p B.boys.length cap, .int .i64 B.weeks, .slice q B.trials.length capt] 27)).alloc (Obj.cells #[.slice none 0 0, .int .i64 0, .slice none 0 0, .map none] 92)).alloc (Obj.map #[] 0)).alloc (Obj.cells #[.slice p B.boys.length cap, .int .i64 B.weeks, .slice q B.trials.length capt, .map (some (W.heap.size + 1 + 1))] 92)).cell? ⟨W.heap.size + 1, 1, none⟩ = some (.int .i64 0) := by go_simp
  have d2 : ((((W.alloc (Obj.cells #[.slice p B.boys.length cap, .int .i64 B.weeks, .slice q B.trials.length capt] 27)).alloc (Obj.cells #[.slice none 0 0, .int .i64 0, .slice none 0 0, .map none] 92)).alloc (Obj.map #[] 0)).alloc (Obj.cells #[.slice p B.boys.length cap, .int .i64 B.weeks, .slice q B.trials.length capt, .map (some (W.heap.size + 1 + 1))] 92)).cell? ⟨W.heap.size + 1, 2, none⟩ = some (.slice none 0 0) := by go_simp
  have d3 : ((((W.alloc (Obj.cells #[.slice p B.boys.length cap, .int .i64 B.weeks, .slice q B.trials.length capt] 27)).alloc (Obj.cells #[.slice none 0 0, .int .i64 0, .slice none 0 0, .map none] 92)).alloc (Obj.map #[] 0)).alloc (Obj.cells #[.slice p B.boys.length cap, .int .i64 B.weeks, .slice q B.trials.length capt, .map (some (W.heap.size + 1 + 1))] 92)).cell? ⟨W.heap.size + 1, 3, none⟩ = some (.map none) := by go_simp
  have df : ∀ i, ((((W.alloc (Obj.cells #[.slice p B.boys.length cap, .int .i64 B.weeks, .slice q B.trials.length capt] 27)).alloc (Obj.cells #[.slice none 0 0, .int .i64 0, .slice none 0 0, .map none] 92)).alloc (Obj.map #[] 0)).alloc (Obj.cells #[.slice p B.boys.length cap, .int .i64 B.weeks, .slice q B.trials.length capt, .map (some (W.heap.size + 1 + 1))] 92)).frozen? ⟨W.heap.size + 1, i, none⟩ = false := by intro i; go_simp
  generalize ((((W.alloc (Obj.cells #[.slice p B.boys.length cap, .int .i64 B.weeks, .slice q B.trials.length capt] 27)).alloc (Obj.cells #[.slice none 0 0, .int .i64 0, .slice none 0 0, .map none] 92)).alloc (Obj.map #[] 0)).alloc (Obj.cells #[.slice p B.boys.length cap, .int .i64 B.weeks, .slice q B.trials.length capt, .map (some (W.heap.size + 1 + 1))] 92)) = V0 at *
  generalize hcb : W.heap.size + 1 + 1 + 1 = cb at *
  generalize hbm : W.heap.size + 1 + 1 = bm at *
  generalize hrb : W.heap.size + 1 = rb at *
  have hbook : ∀ (i : Nat) (x : Trial), B.trials[i]? = some x → validTrialB B.boys.length B.weeks.toNat x = true := by
    simp only [Book.okB, Bool.and_eq_true, List.all_eq_true] at hok
    exact fun i x hx => hok.2 x (List.mem_of_getElem? hx)
  have hlen : B.boys.length ≤ 4 ∧ B.weeks ≤ 6 ∧ B.trials.length ≤ 6 := by
    simp only [Book.okB, inB, Bool.and_eq_true, decide_eq_true_eq] at hok
    omega
  go_loopw [13] (fun i V => ∃ (j : Nat) (l : List Slot), j ≤ B.trials.length ∧ i = .int .i64 j ∧ Tried V bm (W.heap.size + 4) l (B.trials.take j) ∧ Turns (fun b => b = bm ∨ W.heap.size + 4 ≤ b) V0 V) (fun i V => B.trials.length - (intOf i).toNat)
  case atStart =>
    exact ⟨0, [], by omega, rfl, ⟨hmap, (fun s hs => nomatch hs), (fun i j s t h => by simp at h), (fun s hs => nomatch hs), (fun i j s t h => by simp at h), (fun b k _ _ => .inr ⟨(fun s hs => nomatch hs), rfl⟩)⟩, Turns.refl _ _⟩
  case round =>
    obtain ⟨j, l, hj, rfl, hT, hV⟩ := hrel
    by_cases hlt : j < B.trials.length
    · have hltI : (j : Int) < B.trials.length := by omega
      have hget : B.trials[j]? = some B.trials[j] := List.getElem?_eq_getElem hlt
      generalize B.trials[j] = t at *
      rcases h.trials with h00 | ⟨bT, oT, rfl, hTT⟩
      · rw [h00] at hlt; cases hlt
      have hTV := (hTT.kept hk0).turns hV (by have := hTT.1; omega)
      obtain ⟨t0, t1, t2, t3⟩ := hTV.2 j t hget
      have hbT := hTV.1
      have e3 := tcell hV (by omega) c3
      have hzc := Go.Ai.lt_of_cell e3
      have HT := Lib.hid hT; clear hT
      have HG := Lib.hid hget; clear hget
      have HB := Lib.hid hbook; clear hbook
      have HH := Lib.hid h; clear h
      clear hTT hTV hmap
      have hval := HB.out j t HG.out
      obtain ⟨tb, tw, tn, tg⟩ := t
      simp only [validTrialB, inB, Bool.and_eq_true, decide_eq_true_eq] at hval
      simp only at t0 t1 t2 t3
      obtain ⟨b, rfl⟩ := Int.eq_ofNat_of_zero_le (show 0 ≤ tb by omega)
      obtain ⟨k, rfl⟩ := Int.eq_ofNat_of_zero_le (show 0 ≤ tw by omega)
      have hb4 : b < 4 := by omega
      have hk6 : k < 6 := by omega
      have HV := Lib.hid hval; clear hval
      go_wp2_with fail
      have hk3 : Kept wr (((wr.alloc (Obj.cells #[.int .i64 (b : Int), .int .i64 (k : Int), .int .i64 tn, .int .i64 tg] 143)).alloc (Obj.cells #[.int .i64 (b : Int), .int .i64 (k : Int)] 157)).alloc (Obj.cells #[.int .i64 (b : Int), .int .i64 (k : Int), .int .i64 tn, .int .i64 tg] 143)) := kept_alloc (kept_alloc (kept_alloc (kept_refl _) _) _) _
      have hz3 : (((wr.alloc (Obj.cells #[.int .i64 (b : Int), .int .i64 (k : Int), .int .i64 tn, .int .i64 tg] 143)).alloc (Obj.cells #[.int .i64 (b : Int), .int .i64 (k : Int)] 157)).alloc (Obj.cells #[.int .i64 (b : Int), .int .i64 (k : Int), .int .i64 tn, .int .i64 tg] 143)).heap.size = wr.heap.size + 3 := by simp
      have hnb : (((wr.alloc (Obj.cells #[.int .i64 (b : Int), .int .i64 (k : Int), .int .i64 tn, .int .i64 tg] 143)).alloc (Obj.cells #[.int .i64 (b : Int), .int .i64 (k : Int)] 157)).alloc (Obj.cells #[.int .i64 (b : Int), .int .i64 (k : Int), .int .i64 tn, .int .i64 tg] 143)).heap[wr.heap.size + 1 + 1]? = some (.cells #[.int .i64 (b : Int), .int .i64 (k : Int), .int .i64 tn, .int .i64 tg] 143 (0, 0)) := by
        have h1 := World.alloc_heap_new ((wr.alloc (Obj.cells #[.int .i64 (b : Int), .int .i64 (k : Int), .int .i64 tn, .int .i64 tg] 143)).alloc (Obj.cells #[.int .i64 (b : Int), .int .i64 (k : Int)] 157)) (Obj.cells #[.int .i64 (b : Int), .int .i64 (k : Int), .int .i64 tn, .int .i64 tg] 143)
        simp only [World.size_alloc] at h1
        exact h1
      generalize (((wr.alloc (Obj.cells #[.int .i64 (b : Int), .int .i64 (k : Int), .int .i64 tn, .int .i64 tg] 143)).alloc (Obj.cells #[.int .i64 (b : Int), .int .i64 (k : Int)] 157)).alloc (Obj.cells #[.int .i64 (b : Int), .int .i64 (k : Int), .int .i64 tn, .int .i64 tg] 143)) = W3 at *
      obtain ⟨W3', l', j', s, hme, hT', hs, e1, e2, hW3, hz3'⟩ := entry_any (HT.out.kept hk3) hb4 hk6
      unfold keyV at hme
      rw [hme]
      have HT' := Lib.hid hT'; clear hT'
      have hbmz : bm < wr.heap.size := (Array.getElem?_eq_some_iff.1 HT.out.map).1
      have hnews := World.news_of_block ((hW3.block _ (by omega) (by omega)).trans hnb)
      obtain ⟨i0, hi, hiz, his, hib⟩ := info_parts infoT
      have hrow := (HT'.out.rows s (List.mem_of_getElem? hs)).1
      have hrl : s.ts.length ≤ 6 := by
        have := (HT'.out.rows s (List.mem_of_getElem? hs)).2
        simp only [List.length_take] at this
        omega
      have hbase : W.heap.size + 4 ≤ wr.heap.size := by have := hV.size; omega
      go_wp2_with (at_builtin; refine wpList_append_lies _ rfl _ _ 25 rfl (W.heap.size + 4) 143 i0 _ 4 32 Tryz.underlying25 hi hiz his hib rfl (by decide) s.v s.ts.length _ rfl hrow ⟨wr.heap.size + 1 + 1, 0, none⟩ 1 1 [.int .i64 (b : Int), .int .i64 (k : Int), .int .i64 tn, .int .i64 tg] rfl rfl hnews (by simp [Value.oneCell']) (by decide) (by unfold maxLen; omega) (by omega) (by omega) _ rfl ?_; intro g cap' W4 hown hgrow hat hlt4)
      have hm4 : W4.heap[bm]? = some (.map (entries l') l'.length) := (hgrow.block bm (by omega) (fun e => by
        rcases row_not_map hrow HT'.out.map with h1 | h1
        · rw [h1] at e; cases e
        · exact h1 e.symm)).trans HT'.out.map
      have hes := entryStore_at W4 bm l' l'.length j' s (.slice (some ⟨g, 0, none⟩) (s.ts.length + 1) cap') (s.ts ++ [⟨(b : Int), (k : Int), tn, tg⟩]) hm4 hs
      have htk : B.trials.take (j + 1) = B.trials.take j ++ [⟨(b : Int), (k : Int), tn, tg⟩] := by
        rw [List.take_succ, HG.out]; rfl
      have hend := HT'.out.append (t := ⟨(b : Int), (k : Int), tn, tg⟩) hs (by simp [isAt, e1, e2]) hgrow hown hat
      rw [← htk] at hend
      have hT4 : Turns (fun b => b = bm ∨ W.heap.size + 4 ≤ b) W3' W4 := ⟨hgrow.os, hgrow.tape, hgrow.output, hgrow.size, fun i hi hne => hgrow.block i hi (fun e => hne (.inr (hrow.lt i e.symm).1))⟩
      have hTs := grown_set (W := W4) (bm := bm) (o := .map (entries (l'.set j' { s with v := .slice (some ⟨g, 0, none⟩) (s.ts.length + 1) cap', ts := s.ts ++ [⟨(b : Int), (k : Int), tn, tg⟩] })) l'.length)
      have hT5 : Turns (fun b => b = bm ∨ W.heap.size + 4 ≤ b) V0 (setBlock W4 bm (.map (entries (l'.set j' { s with v := .slice (some ⟨g, 0, none⟩) (s.ts.length + 1) cap', ts := s.ts ++ [⟨(b : Int), (k : Int), tn, tg⟩] })) l'.length)) :=
        (((hV.trans (Ext.refl _ _) (kturns hk3 _)).trans (Ext.refl _ _) (hW3.mono fun _ _ h => .inl h)).trans (Ext.refl _ _) hT4).trans (Ext.refl _ _)
          ⟨hTs.os, hTs.tape, hTs.output, hTs.size, fun i hi hne => hTs.block i hi (fun e => hne (.inl (by cases e; rfl)))⟩
      have HEND : Hid (∃ (j2 : Nat) (l2 : List Slot), j2 ≤ B.trials.length ∧ Value.int .i64 ((j : Int) + 1) = .int .i64 (j2 : Int) ∧ Tried (setBlock W4 bm (.map (entries (l'.set j' { s with v := .slice (some ⟨g, 0, none⟩) (s.ts.length + 1) cap', ts := s.ts ++ [⟨(b : Int), (k : Int), tn, tg⟩] })) l'.length)) bm (W.heap.size + 4) l2 (B.trials.take j2) ∧ Turns (fun b => b = bm ∨ W.heap.size + 4 ≤ b) V0 (setBlock W4 bm (.map (entries (l'.set j' { s with v := .slice (some ⟨g, 0, none⟩) (s.ts.length + 1) cap', ts := s.ts ++ [⟨(b : Int), (k : Int), tn, tg⟩] })) l'.length))) :=
        Lib.hid ⟨j + 1, _, by omega, by simp, hend, hT5⟩
      clear hend hT5 hTs hT4
      rw [hes]
      clear hes hm4 hown hgrow hat hrow
      generalize setBlock W4 bm (.map (entries (l'.set j' { s with v := .slice (some ⟨g, 0, none⟩) (s.ts.length + 1) cap', ts := s.ts ++ [⟨(b : Int), (k : Int), tn, tg⟩] })) l'.length) = W5 at *
      go_wp2_with fail
      go_roundw
      case rel => exact HEND.out
      case measure => simp [intOf]; omega
    · have hltI : ¬ (j : Int) < B.trials.length := by omega
      have e0 := tcell hV (by omega) c0
      have e1 := tcell hV (by omega) c1
      have e2 := tcell hV (by omega) c2
      have e3 := tcell hV (by omega) c3
      have g0 := tcell hV (by omega) d0
      have g1 := tcell hV (by omega) d1
      have g2 := tcell hV (by omega) d2
      have g3 := tcell hV (by omega) d3
      have gf : ∀ i, wr.frozen? ⟨rb, i, none⟩ = false := fun i => (hV.frozen (by omega) (by omega)).trans (df i)
      have gf0 := gf 0
      have gf1 := gf 1
      have gf2 := gf 2
      have gf3 := gf 3
      go_wp2_with fail
      have hje : j = B.trials.length := by omega
      have hTC : Turns (fun b => b = rb) wr ((((wr.setCell ⟨rb, 0, none⟩ (.slice p B.boys.length cap)).setCell ⟨rb, 1, none⟩ (.int .i64 B.weeks)).setCell ⟨rb, 2, none⟩ (.slice q B.trials.length capt)).setCell ⟨rb, 3, none⟩ (.map (some bm))) := ((((Turns.refl (fun b => b = rb) wr).setCell rfl _ _).setCell rfl _ _).setCell rfl _ _).setCell rfl _ _
      have r0 : ((((wr.setCell ⟨rb, 0, none⟩ (.slice p B.boys.length cap)).setCell ⟨rb, 1, none⟩ (.int .i64 B.weeks)).setCell ⟨rb, 2, none⟩ (.slice q B.trials.length capt)).setCell ⟨rb, 3, none⟩ (.map (some bm))).cell? ⟨rb, 0, none⟩ = some (.slice p B.boys.length cap) := by go_simp
      have r1 : ((((wr.setCell ⟨rb, 0, none⟩ (.slice p B.boys.length cap)).setCell ⟨rb, 1, none⟩ (.int .i64 B.weeks)).setCell ⟨rb, 2, none⟩ (.slice q B.trials.length capt)).setCell ⟨rb, 3, none⟩ (.map (some bm))).cell? ⟨rb, 1, none⟩ = some (.int .i64 B.weeks) := by go_simp
      have r2 : ((((wr.setCell ⟨rb, 0, none⟩ (.slice p B.boys.length cap)).setCell ⟨rb, 1, none⟩ (.int .i64 B.weeks)).setCell ⟨rb, 2, none⟩ (.slice q B.trials.length capt)).setCell ⟨rb, 3, none⟩ (.map (some bm))).cell? ⟨rb, 2, none⟩ = some (.slice q B.trials.length capt) := by go_simp
      have r3 : ((((wr.setCell ⟨rb, 0, none⟩ (.slice p B.boys.length cap)).setCell ⟨rb, 1, none⟩ (.int .i64 B.weeks)).setCell ⟨rb, 2, none⟩ (.slice q B.trials.length capt)).setCell ⟨rb, 3, none⟩ (.map (some bm))).cell? ⟨rb, 3, none⟩ = some (.map (some bm)) := by go_simp
      generalize ((((wr.setCell ⟨rb, 0, none⟩ (.slice p B.boys.length cap)).setCell ⟨rb, 1, none⟩ (.int .i64 B.weeks)).setCell ⟨rb, 2, none⟩ (.slice q B.trials.length capt)).setCell ⟨rb, 3, none⟩ (.map (some bm))) = C at *
      have hbl : B.boys ≠ [] := by
        intro e
        simp only [Book.okB, inB, Bool.and_eq_true, decide_eq_true_eq] at hok
        rw [e] at hok; simp at hok
      obtain ⟨bb, ob, rfl, hboysb⟩ : ∃ b o, p = some ⟨b, o, none⟩ ∧ BoysAt Wb b o B.boys := hb.boys.resolve_left hbl
      have hboys := hboysb.kept hkb
      have hWC : Kept W C := by
        refine Below.trans (Below.trans hk0 (hV.toBelow (n := W.heap.size) ?_ (by omega))) (hTC.toBelow (n := W.heap.size) ?_ ?_)
        · rintro b (rfl | h) <;> omega
        · rintro b rfl; omega
        · have := hV.size; omega
      refine bodyPost_ret (v := .agg #[.slice (some ⟨bb, ob, none⟩) B.boys.length cap, .int .i64 B.weeks, .slice q B.trials.length capt, .map (some bm)]) (by simp [results, Tryz.results70, go_sem, r0, r1, r2, r3]) rfl ?_
      refine ⟨⟨bb, ob, cap, capt, q, bm, B⟩, rfl, rfl, hWC, hok, ?_, hboys.kept hWC, ?_, ?_, hb.nt.2⟩
      · exact ⟨Nat.lt_of_lt_of_le hboys.1 hWC.size, .inl hboysb.1⟩
      · rcases hb.trials with h1 | ⟨b, o, e, ht⟩
        · exact .inl h1
        · exact .inr ⟨b, o, e, ⟨Nat.lt_of_lt_of_le (ht.kept hkb).1 hWC.size, .inl ht.1⟩, (ht.kept hkb).kept hWC⟩
      · intro boy wk hb5 hw
        have hT' := hT
        rw [hje, List.take_length] at hT'
        exact hT'.look hTC (by omega) (by rintro b hb2 rfl; omega) ⟨by have := hTC.size; have := (Array.getElem?_eq_some_iff.1 hT.map).1; omega, .inr (by omega)⟩ (fun b hb2 hb3 => ⟨hb3, .inr (by omega)⟩) (by have h5 : boy < B.boys.length := hb5; omega) (by have h6 : (wk : Int) < B.weeks := hw; omega)
end Go.Proofs.YthgfbokfaidklaaGreatDoor
set_option linter.all false
namespace Go.Proofs.YthgfbokfaidklaaGreatDoor
open Go.RowKit Go.Sort
set_option maxRecDepth 100000
set_option maxHeartbeats 1000000

def FirstA (P : Bool) (r : Int) : Prop := (0 ≤ r) ↔ P = true
def ToldI (P : Int → Prop) (w : World) (e : Ending) (w' : World) : Prop := ∃ r : Int, P r ∧ e = .returned (.int .i64 r) ∧ Kept w w'
theorem oIsIn_any (n l h : Int) (w : World) : Calls Tryz.prog 58 #[.int .i64 n, .int .i64 l, .int .i64 h] w fun e w' => e = .returned (.bool (inB n l h)) ∧ w = w' := by
  by_cases h1 : l ≤ n
  · have h2 : decide (l ≤ n) = true := by simpa using h1
    have H : inB n l h = decide (n ≤ h) := by simp [inB, h1]
    rw [H]; clear H h1
    go_enter Tryz.func58, Tryz.ntmps58
    go_wp2
    go_ret
    exact ⟨rfl, rfl⟩
  · have h2 : decide (l ≤ n) = false := by simpa using h1
    have H : inB n l h = false := by simp [inB, h1]
    rw [H]; clear H h1
    go_enter Tryz.func58, Tryz.ntmps58
    go_wp2
    go_ret
    exact ⟨rfl, rfl⟩
theorem oIsIn_eq (n l h : Int) {g : Bool} (w : World) (hg : inB n l h = g) : Calls Tryz.prog 58 #[.int .i64 n, .int .i64 l, .int .i64 h] w fun e w' => e = .returned (.bool g) ∧ w = w' := hg ▸ oIsIn_any n l h w

/-- a tuning: from a pipe, to another one, how much higher, and by how much that is wrong -/
structure Tune where
  src : Int
  dst : Int
  off : Int
  err : Int
  deriving Inhabited
structure Fork where
  pipe : Int
  read : Int
  err : Int
  deriving Inhabited
def Tune.val (t : Tune) : Value := .agg #[.int .i64 t.src, .int .i64 t.dst, .int .i64 t.off, .int .i64 t.err]
def Fork.val (t : Fork) : Value := .agg #[.int .i64 t.pipe, .int .i64 t.read, .int .i64 t.err]
def Tune.okB (P : Int) (t : Tune) : Bool := (((inB t.src 0 (P - 1) && inB t.dst 0 (P - 1)) && (t.src != t.dst)) && inB t.off (-30) 30) && inB t.err 0 5
def Fork.okB (P : Int) (t : Fork) : Bool := (inB t.pipe 0 (P - 1) && inB t.read (-60) 60) && inB t.err 0 5
/-- tunings that lie in memory, one behind the other -/
def TunesIn (w : World) (b o : Nat) (l : List Tune) : Prop := b < w.heap.size ∧ ∀ i x, l[i]? = some x → w.cell? ⟨b, o + i * 4, none⟩ = some (.int .i64 x.src) ∧ w.cell? ⟨b, o + i * 4 + 1, none⟩ = some (.int .i64 x.dst) ∧ w.cell? ⟨b, o + i * 4 + 2, none⟩ = some (.int .i64 x.off) ∧ w.cell? ⟨b, o + i * 4 + 3, none⟩ = some (.int .i64 x.err)
theorem TunesIn.kept {w W : World} {b o : Nat} {l : List Tune} (h : TunesIn w b o l) (k : Kept w W) : TunesIn W b o l :=
  ⟨Nat.lt_of_lt_of_le h.1 k.size, fun i x hx => by
    obtain ⟨h1, h2, h3, h4⟩ := h.2 i x hx
    exact ⟨kcell k h1, kcell k h2, kcell k h3, kcell k h4⟩⟩
def ForksIn (w : World) (b o : Nat) (l : List Fork) : Prop := b < w.heap.size ∧ ∀ i x, l[i]? = some x → w.cell? ⟨b, o + i * 3, none⟩ = some (.int .i64 x.pipe) ∧ w.cell? ⟨b, o + i * 3 + 1, none⟩ = some (.int .i64 x.read) ∧ w.cell? ⟨b, o + i * 3 + 2, none⟩ = some (.int .i64 x.err)
theorem ForksIn.kept {w W : World} {b o : Nat} {l : List Fork} (h : ForksIn w b o l) (k : Kept w W) : ForksIn W b o l :=
  ⟨Nat.lt_of_lt_of_le h.1 k.size, fun i x hx => by
    obtain ⟨h1, h2, h3⟩ := h.2 i x hx
    exact ⟨kcell k h1, kcell k h2, kcell k h3⟩⟩
def TunesAt (w : World) (p : Option Addr) (l : List Tune) : Prop := l = [] ∨ ∃ b o, p = some ⟨b, o, none⟩ ∧ TunesIn w b o l
def ForksAt (w : World) (p : Option Addr) (l : List Fork) : Prop := l = [] ∨ ∃ b o, p = some ⟨b, o, none⟩ ∧ ForksIn w b o l
theorem TunesAt.kept {w W : World} {p : Option Addr} {l : List Tune} (h : TunesAt w p l) (k : Kept w W) : TunesAt W p l := h.imp id fun ⟨b, o, e, h⟩ => ⟨b, o, e, h.kept k⟩
theorem ForksAt.kept {w W : World} {p : Option Addr} {l : List Fork} (h : ForksAt w p l) (k : Kept w W) : ForksAt W p l := h.imp id fun ⟨b, o, e, h⟩ => ⟨b, o, e, h.kept k⟩
/-- a book of an organ -/
structure OBook where
  pipes : Int
  tunes : List Tune
  tp : Option Addr
  tcap : Nat
  forks : List Fork
  fp : Option Addr
  fcap : Nat
  B : Book
  p : Option Addr
  q : Option Addr
  cap : Nat
  capt : Nat
def OBook.val (X : OBook) : Value := .agg #[.int .i64 X.pipes, .slice X.tp X.tunes.length X.tcap, .slice X.fp X.forks.length X.fcap, .slice X.p X.B.boys.length X.cap, .int .i64 X.B.weeks, .slice X.q X.B.trials.length X.capt]
structure OBookAt (w : World) (X : OBook) : Prop where
  book : BookAt w X.p X.q X.cap X.capt X.B
  nt : X.tunes.length ≤ 140737488355328
  nf : X.forks.length ≤ 140737488355328
  tunes : TunesAt w X.tp X.tunes
  forks : ForksAt w X.fp X.forks
theorem OBookAt.kept {w W : World} {X : OBook} (h : OBookAt w X) (k : Kept w W) : OBookAt W X := ⟨h.book.kept k, h.nt, h.nf, h.tunes.kept k, h.forks.kept k⟩
def OBook.okB (X : OBook) : Bool := ((((inB X.pipes 1 5 && decide (X.tunes.length ≤ 6)) && X.tunes.all (Tune.okB X.pipes)) && decide (X.forks.length ≤ 3)) && X.forks.all (Fork.okB X.pipes)) && X.B.okB
/-- the cells of a boxed book -/
def BoxO (w : World) (b : Nat) (X : OBook) : Prop := w.cell? ⟨b, 0, none⟩ = some (.int .i64 X.pipes) ∧ w.cell? ⟨b, 1, none⟩ = some (.slice X.tp X.tunes.length X.tcap) ∧ w.cell? ⟨b, 2, none⟩ = some (.slice X.fp X.forks.length X.fcap) ∧ w.cell? ⟨b, 3, none⟩ = some (.slice X.p X.B.boys.length X.cap) ∧ w.cell? ⟨b, 4, none⟩ = some (.int .i64 X.B.weeks) ∧ w.cell? ⟨b, 5, none⟩ = some (.slice X.q X.B.trials.length X.capt)
theorem BoxO.kept {w W : World} {b : Nat} {X : OBook} (h : BoxO w b X) (k : Kept w W) : BoxO W b X :=
  ⟨kcell k h.1, kcell k h.2.1, kcell k h.2.2.1, kcell k h.2.2.2.1, kcell k h.2.2.2.2.1, kcell k h.2.2.2.2.2⟩
theorem boxO_new (w : World) (X : OBook) : BoxO (w.alloc (Obj.cells #[.int .i64 X.pipes, .slice X.tp X.tunes.length X.tcap, .slice X.fp X.forks.length X.fcap, .slice X.p X.B.boys.length X.cap, .int .i64 X.B.weeks, .slice X.q X.B.trials.length X.capt] 29)) w.heap.size X := ⟨by go_simp, by go_simp, by go_simp, by go_simp, by go_simp, by go_simp⟩

theorem isPipe_eq (X : OBook) (n : Int) {g : Bool} (w : World) (hP : 1 ≤ X.pipes ∧ X.pipes ≤ 5) (hg : inB n 0 (X.pipes - 1) = g) :
    Calls Tryz.prog 46 #[.agg #[.int .i64 X.pipes, .slice X.tp X.tunes.length X.tcap, .slice X.fp X.forks.length X.fcap, .slice X.p X.B.boys.length X.cap, .int .i64 X.B.weeks, .slice X.q X.B.trials.length X.capt], .int .i64 n] w fun e w' => e = .returned (.bool g) ∧ Kept w w' := by
  have hk0 : Kept w (w.alloc (Obj.cells #[.int .i64 X.pipes, .slice X.tp X.tunes.length X.tcap, .slice X.fp X.forks.length X.fcap, .slice X.p X.B.boys.length X.cap, .int .i64 X.B.weeks, .slice X.q X.B.trials.length X.capt] 29)) := kept_alloc (kept_refl _) _
  have hw : IntKind.i64.wrap (X.pipes - 1) = X.pipes - 1 := IntWalk.i64_in _ (by omega)
  have H := Lib.hid (oIsIn_eq n 0 (X.pipes - 1) (w.alloc (Obj.cells #[.int .i64 X.pipes, .slice X.tp X.tunes.length X.tcap, .slice X.fp X.forks.length X.fcap, .slice X.p X.B.boys.length X.cap, .int .i64 X.B.weeks, .slice X.q X.B.trials.length X.capt] 29)) hg)
  clear hg
  go_enter Tryz.func46, Tryz.ntmps46
  go_wp2_with fail
  with_reducible refine H.out.mono ?_
  rintro e w' ⟨rfl, rfl⟩
  go_wp2_with fail
  go_ret
  exact ⟨rfl, hk0⟩

theorem validTune_any (X : OBook) (t : Tune) (w : World) (hP : 1 ≤ X.pipes ∧ X.pipes ≤ 5) :
    Calls Tryz.prog 52 #[.agg #[.int .i64 X.pipes, .slice X.tp X.tunes.length X.tcap, .slice X.fp X.forks.length X.fcap, .slice X.p X.B.boys.length X.cap, .int .i64 X.B.weeks, .slice X.q X.B.trials.length X.capt], .agg #[.int .i64 t.src, .int .i64 t.dst, .int .i64 t.off, .int .i64 t.err]] w fun e w' => e = .returned (.bool (t.okB X.pipes)) ∧ Kept w w' := by
  have hk0 : Kept w ((w.alloc (Obj.cells #[.int .i64 X.pipes, .slice X.tp X.tunes.length X.tcap, .slice X.fp X.forks.length X.fcap, .slice X.p X.B.boys.length X.cap, .int .i64 X.B.weeks, .slice X.q X.B.trials.length X.capt] 29)).alloc (Obj.cells #[.int .i64 t.src, .int .i64 t.dst, .int .i64 t.off, .int .i64 t.err] 67)) := kept_alloc (kept_alloc (kept_refl _) _) _
  have x0 : ((w.alloc (Obj.cells #[.int .i64 X.pipes, .slice X.tp X.tunes.length X.tcap, .slice X.fp X.forks.length X.fcap, .slice X.p X.B.boys.length X.cap, .int .i64 X.B.weeks, .slice X.q X.B.trials.length X.capt] 29)).alloc (Obj.cells #[.int .i64 t.src, .int .i64 t.dst, .int .i64 t.off, .int .i64 t.err] 67)).cell? ⟨w.heap.size, 0, none⟩ = some (.int .i64 X.pipes) := by go_simp
  have x1 : ((w.alloc (Obj.cells #[.int .i64 X.pipes, .slice X.tp X.tunes.length X.tcap, .slice X.fp X.forks.length X.fcap, .slice X.p X.B.boys.length X.cap, .int .i64 X.B.weeks, .slice X.q X.B.trials.length X.capt] 29)).alloc (Obj.cells #[.int .i64 t.src, .int .i64 t.dst, .int .i64 t.off, .int .i64 t.err] 67)).cell? ⟨w.heap.size, 1, none⟩ = some (.slice X.tp X.tunes.length X.tcap) := by go_simp
  have x2 : ((w.alloc (Obj.cells #[.int .i64 X.pipes, .slice X.tp X.tunes.length X.tcap, .slice X.fp X.forks.length X.fcap, .slice X.p X.B.boys.length X.cap, .int .i64 X.B.weeks, .slice X.q X.B.trials.length X.capt] 29)).alloc (Obj.cells #[.int .i64 t.src, .int .i64 t.dst, .int .i64 t.off, .int .i64 t.err] 67)).cell? ⟨w.heap.size, 2, none⟩ = some (.slice X.fp X.forks.length X.fcap) := by go_simp
  have x3 : ((w.alloc (Obj.cells #[.int .i64 X.pipes, .slice X.tp X.tunes.length X.tcap, .slice X.fp X.forks.length X.fcap, .slice X.p X.B.boys.length X.cap, .int .i64 X.B.weeks, .slice X.q X.B.trials.length X.capt] 29)).alloc (Obj.cells #[.int .i64 t.src, .int .i64 t.dst, .int .i64 t.off, .int .i64 t.err] 67)).cell? ⟨w.heap.size, 3, none⟩ = some (.slice X.p X.B.boys.length X.cap) := by go_simp
  have x4 : ((w.alloc (Obj.cells #[.int .i64 X.pipes, .slice X.tp X.tunes.length X.tcap, .slice X.fp X.forks.length X.fcap, .slice X.p X.B.boys.length X.cap, .int .i64 X.B.weeks, .slice X.q X.B.trials.length X.capt] 29)).alloc (Obj.cells #[.int .i64 t.src, .int .i64 t.dst, .int .i64 t.off, .int .i64 t.err] 67)).cell? ⟨w.heap.size, 4, none⟩ = some (.int .i64 X.B.weeks) := by go_simp
  have x5 : ((w.alloc (Obj.cells #[.int .i64 X.pipes, .slice X.tp X.tunes.length X.tcap, .slice X.fp X.forks.length X.fcap, .slice X.p X.B.boys.length X.cap, .int .i64 X.B.weeks, .slice X.q X.B.trials.length X.capt] 29)).alloc (Obj.cells #[.int .i64 t.src, .int .i64 t.dst, .int .i64 t.off, .int .i64 t.err] 67)).cell? ⟨w.heap.size, 5, none⟩ = some (.slice X.q X.B.trials.length X.capt) := by go_simp
  have y0 : ((w.alloc (Obj.cells #[.int .i64 X.pipes, .slice X.tp X.tunes.length X.tcap, .slice X.fp X.forks.length X.fcap, .slice X.p X.B.boys.length X.cap, .int .i64 X.B.weeks, .slice X.q X.B.trials.length X.capt] 29)).alloc (Obj.cells #[.int .i64 t.src, .int .i64 t.dst, .int .i64 t.off, .int .i64 t.err] 67)).cell? ⟨w.heap.size + 1, 0, none⟩ = some (.int .i64 t.src) := by go_simp
  have y1 : ((w.alloc (Obj.cells #[.int .i64 X.pipes, .slice X.tp X.tunes.length X.tcap, .slice X.fp X.forks.length X.fcap, .slice X.p X.B.boys.length X.cap, .int .i64 X.B.weeks, .slice X.q X.B.trials.length X.capt] 29)).alloc (Obj.cells #[.int .i64 t.src, .int .i64 t.dst, .int .i64 t.off, .int .i64 t.err] 67)).cell? ⟨w.heap.size + 1, 1, none⟩ = some (.int .i64 t.dst) := by go_simp
  have y2 : ((w.alloc (Obj.cells #[.int .i64 X.pipes, .slice X.tp X.tunes.length X.tcap, .slice X.fp X.forks.length X.fcap, .slice X.p X.B.boys.length X.cap, .int .i64 X.B.weeks, .slice X.q X.B.trials.length X.capt] 29)).alloc (Obj.cells #[.int .i64 t.src, .int .i64 t.dst, .int .i64 t.off, .int .i64 t.err] 67)).cell? ⟨w.heap.size + 1, 2, none⟩ = some (.int .i64 t.off) := by go_simp
  have y3 : ((w.alloc (Obj.cells #[.int .i64 X.pipes, .slice X.tp X.tunes.length X.tcap, .slice X.fp X.forks.length X.fcap, .slice X.p X.B.boys.length X.cap, .int .i64 X.B.weeks, .slice X.q X.B.trials.length X.capt] 29)).alloc (Obj.cells #[.int .i64 t.src, .int .i64 t.dst, .int .i64 t.off, .int .i64 t.err] 67)).cell? ⟨w.heap.size + 1, 3, none⟩ = some (.int .i64 t.err) := by go_simp
  have HPI := Lib.hid (fun n g V (hg : inB n 0 (X.pipes - 1) = g) => isPipe_eq X n V hP hg)
  have HIN := Lib.hid (fun n l h g V (hg : inB n l h = g) => oIsIn_eq n l h V hg)
  have hzz : w.heap.size < ((w.alloc (Obj.cells #[.int .i64 X.pipes, .slice X.tp X.tunes.length X.tcap, .slice X.fp X.forks.length X.fcap, .slice X.p X.B.boys.length X.cap, .int .i64 X.B.weeks, .slice X.q X.B.trials.length X.capt] 29)).alloc (Obj.cells #[.int .i64 t.src, .int .i64 t.dst, .int .i64 t.off, .int .i64 t.err] 67)).heap.size := by simp; omega
  have hzy : w.heap.size + 1 < ((w.alloc (Obj.cells #[.int .i64 X.pipes, .slice X.tp X.tunes.length X.tcap, .slice X.fp X.forks.length X.fcap, .slice X.p X.B.boys.length X.cap, .int .i64 X.B.weeks, .slice X.q X.B.trials.length X.capt] 29)).alloc (Obj.cells #[.int .i64 t.src, .int .i64 t.dst, .int .i64 t.off, .int .i64 t.err] 67)).heap.size := by simp
  rcases h0 : inB t.src 0 (X.pipes - 1) with _ | _
  · have H0 := Lib.hid h0; clear h0
    have HR := Lib.hid (show t.okB X.pipes = false by simp [Tune.okB, H0.out])
    go_enter Tryz.func52, Tryz.ntmps52
    go_wp2_with fail
    generalize ((w.alloc (Obj.cells #[.int .i64 X.pipes, .slice X.tp X.tunes.length X.tcap, .slice X.fp X.forks.length X.fcap, .slice X.p X.B.boys.length X.cap, .int .i64 X.B.weeks, .slice X.q X.B.trials.length X.capt] 29)).alloc (Obj.cells #[.int .i64 t.src, .int .i64 t.dst, .int .i64 t.off, .int .i64 t.err] 67)) = W0 at *
    with_reducible refine (HPI.out _ _ _ H0.out).mono ?_
    rintro e w0 ⟨rfl, k0⟩
    have kk0 := kept_trans hk0 k0
    replace x0 := kcell k0 x0
    replace x1 := kcell k0 x1
    replace x2 := kcell k0 x2
    replace x3 := kcell k0 x3
    replace x4 := kcell k0 x4
    replace x5 := kcell k0 x5
    replace y0 := kcell k0 y0
    replace y1 := kcell k0 y1
    replace y2 := kcell k0 y2
    replace y3 := kcell k0 y3
    go_wp2_with fail
    go_ret
    exact ⟨by rw [HR.out]; rfl, kk0⟩
  · have H0 := Lib.hid h0; clear h0
    rcases h1 : inB t.dst 0 (X.pipes - 1) with _ | _
    · have H1 := Lib.hid h1; clear h1
      have HR := Lib.hid (show t.okB X.pipes = false by simp [Tune.okB, H1.out])
      go_enter Tryz.func52, Tryz.ntmps52
      go_wp2_with fail
      generalize ((w.alloc (Obj.cells #[.int .i64 X.pipes, .slice X.tp X.tunes.length X.tcap, .slice X.fp X.forks.length X.fcap, .slice X.p X.B.boys.length X.cap, .int .i64 X.B.weeks, .slice X.q X.B.trials.length X.capt] 29)).alloc (Obj.cells #[.int .i64 t.src, .int .i64 t.dst, .int .i64 t.off, .int .i64 t.err] 67)) = W0 at *
      with_reducible refine (HPI.out _ _ _ H0.out).mono ?_
      rintro e w0 ⟨rfl, k0⟩
      have kk0 := kept_trans hk0 k0
      replace x0 := kcell k0 x0
      replace x1 := kcell k0 x1
      replace x2 := kcell k0 x2
      replace x3 := kcell k0 x3
      replace x4 := kcell k0 x4
      replace x5 := kcell k0 x5
      replace y0 := kcell k0 y0
      replace y1 := kcell k0 y1
      replace y2 := kcell k0 y2
      replace y3 := kcell k0 y3
      go_wp2_with fail
      with_reducible refine (HPI.out _ _ _ H1.out).mono ?_
      rintro e w1 ⟨rfl, k1⟩
      have kk1 := kept_trans kk0 k1
      replace x0 := kcell k1 x0
      replace x1 := kcell k1 x1
      replace x2 := kcell k1 x2
      replace x3 := kcell k1 x3
      replace x4 := kcell k1 x4
      replace x5 := kcell k1 x5
      replace y0 := kcell k1 y0
      replace y1 := kcell k1 y1
      replace y2 := kcell k1 y2
      replace y3 := kcell k1 y3
      go_wp2_with fail
      go_ret
      exact ⟨by rw [HR.out]; rfl, kk1⟩
    · have H1 := Lib.hid h1; clear h1
      rcases h2 : (t.src != t.dst) with _ | _
      · have H2 := Lib.hid h2
        have HR := Lib.hid (show t.okB X.pipes = false by simp [Tune.okB, H2.out])
        go_enter Tryz.func52, Tryz.ntmps52
        go_wp2_with fail
        generalize ((w.alloc (Obj.cells #[.int .i64 X.pipes, .slice X.tp X.tunes.length X.tcap, .slice X.fp X.forks.length X.fcap, .slice X.p X.B.boys.length X.cap, .int .i64 X.B.weeks, .slice X.q X.B.trials.length X.capt] 29)).alloc (Obj.cells #[.int .i64 t.src, .int .i64 t.dst, .int .i64 t.off, .int .i64 t.err] 67)) = W0 at *
        with_reducible refine (HPI.out _ _ _ H0.out).mono ?_
        rintro e w0 ⟨rfl, k0⟩
        have kk0 := kept_trans hk0 k0
        replace x0 := kcell k0 x0
        replace x1 := kcell k0 x1
        replace x2 := kcell k0 x2
        replace x3 := kcell k0 x3
        replace x4 := kcell k0 x4
        replace x5 := kcell k0 x5
        replace y0 := kcell k0 y0
        replace y1 := kcell k0 y1
        replace y2 := kcell k0 y2
        replace y3 := kcell k0 y3
        go_wp2_with fail
        with_reducible refine (HPI.out _ _ _ H1.out).mono ?_
        rintro e w1 ⟨rfl, k1⟩
        have kk1 := kept_trans kk0 k1
        replace x0 := kcell k1 x0
        replace x1 := kcell k1 x1
        replace x2 := kcell k1 x2
        replace x3 := kcell k1 x3
        replace x4 := kcell k1 x4
        replace x5 := kcell k1 x5
        replace y0 := kcell k1 y0
        replace y1 := kcell k1 y1
        replace y2 := kcell k1 y2
        replace y3 := kcell k1 y3
        go_wp2_with fail
        go_ret
        exact ⟨by rw [HR.out]; rfl, kk1⟩
      · have H2 := Lib.hid h2
        rcases h3 : inB t.off (-30) 30 with _ | _
        · have H3 := Lib.hid h3; clear h3
          have HR := Lib.hid (show t.okB X.pipes = false by simp [Tune.okB, H3.out])
          go_enter Tryz.func52, Tryz.ntmps52
          go_wp2_with fail
          generalize ((w.alloc (Obj.cells #[.int .i64 X.pipes, .slice X.tp X.tunes.length X.tcap, .slice X.fp X.forks.length X.fcap, .slice X.p X.B.boys.length X.cap, .int .i64 X.B.weeks, .slice X.q X.B.trials.length X.capt] 29)).alloc (Obj.cells #[.int .i64 t.src, .int .i64 t.dst, .int .i64 t.off, .int .i64 t.err] 67)) = W0 at *
          with_reducible refine (HPI.out _ _ _ H0.out).mono ?_
          rintro e w0 ⟨rfl, k0⟩
          have kk0 := kept_trans hk0 k0
          replace x0 := kcell k0 x0
          replace x1 := kcell k0 x1
          replace x2 := kcell k0 x2
          replace x3 := kcell k0 x3
          replace x4 := kcell k0 x4
          replace x5 := kcell k0 x5
          replace y0 := kcell k0 y0
          replace y1 := kcell k0 y1
          replace y2 := kcell k0 y2
          replace y3 := kcell k0 y3
          go_wp2_with fail
          with_reducible refine (HPI.out _ _ _ H1.out).mono ?_
          rintro e w1 ⟨rfl, k1⟩
          have kk1 := kept_trans kk0 k1
          replace x0 := kcell k1 x0
          replace x1 := kcell k1 x1
          replace x2 := kcell k1 x2
          replace x3 := kcell k1 x3
          replace x4 := kcell k1 x4
          replace x5 := kcell k1 x5
          replace y0 := kcell k1 y0
          replace y1 := kcell k1 y1
          replace y2 := kcell k1 y2
          replace y3 := kcell k1 y3
          go_wp2_with fail
          with_reducible refine (HIN.out _ _ _ _ _ H3.out).mono ?_
          rintro e w3 ⟨rfl, rfl⟩
          go_wp2_with fail
          go_ret
          exact ⟨by rw [HR.out]; rfl, kk1⟩
        · have H3 := Lib.hid h3; clear h3
          rcases h4 : inB t.err 0 5 with _ | _
          · have H4 := Lib.hid h4; clear h4
            have HR := Lib.hid (show t.okB X.pipes = false by simp [Tune.okB, H4.out])
            go_enter Tryz.func52, Tryz.ntmps52
            go_wp2_with fail
            generalize ((w.alloc (Obj.cells #[.int .i64 X.pipes, .slice X.tp X.tunes.length X.tcap, .slice X.fp X.forks.length X.fcap, .slice X.p X.B.boys.length X.cap, .int .i64 X.B.weeks, .slice X.q X.B.trials.length X.capt] 29)).alloc (Obj.cells #[.int .i64 t.src, .int .i64 t.dst, .int .i64 t.off, .int .i64 t.err] 67)) = W0 at *
            with_reducible refine (HPI.out _ _ _ H0.out).mono ?_
            rintro e w0 ⟨rfl, k0⟩
            have kk0 := kept_trans hk0 k0
            replace x0 := kcell k0 x0
            replace x1 := kcell k0 x1
            replace x2 := kcell k0 x2
            replace x3 := kcell k0 x3
            replace x4 := kcell k0 x4
            replace x5 := kcell k0 x5
            replace y0 := kcell k0 y0
            replace y1 := kcell k0 y1
            replace y2 := kcell k0 y2
            replace y3 := kcell k0 y3
            go_wp2_with fail
            with_reducible refine (HPI.out _ _ _ H1.out).mono ?_
            rintro e w1 ⟨rfl, k1⟩
            have kk1 := kept_trans kk0 k1
            replace x0 := kcell k1 x0
            replace x1 := kcell k1 x1
            replace x2 := kcell k1 x2
            replace x3 := kcell k1 x3
            replace x4 := kcell k1 x4
            replace x5 := kcell k1 x5
            replace y0 := kcell k1 y0
            replace y1 := kcell k1 y1
            replace y2 := kcell k1 y2
            replace y3 := kcell k1 y3
            go_wp2_with fail
            with_reducible refine (HIN.out _ _ _ _ _ H3.out).mono ?_
            rintro e w3 ⟨rfl, rfl⟩
            go_wp2_with fail
            with_reducible refine (HIN.out _ _ _ _ _ H4.out).mono ?_
            rintro e w4 ⟨rfl, rfl⟩
            go_wp2_with fail
            go_ret
            exact ⟨by rw [HR.out]; rfl, kk1⟩
          · have H4 := Lib.hid h4; clear h4
            have HR := Lib.hid (show t.okB X.pipes = true by simp [Tune.okB, H0.out, H1.out, H2.out, H3.out, H4.out])
            go_enter Tryz.func52, Tryz.ntmps52
            go_wp2_with fail
            generalize ((w.alloc (Obj.cells #[.int .i64 X.pipes, .slice X.tp X.tunes.length X.tcap, .slice X.fp X.forks.length X.fcap, .slice X.p X.B.boys.length X.cap, .int .i64 X.B.weeks, .slice X.q X.B.trials.length X.capt] 29)).alloc (Obj.cells #[.int .i64 t.src, .int .i64 t.dst, .int .i64 t.off, .int .i64 t.err] 67)) = W0 at *
            with_reducible refine (HPI.out _ _ _ H0.out).mono ?_
            rintro e w0 ⟨rfl, k0⟩
            have kk0 := kept_trans hk0 k0
            replace x0 := kcell k0 x0
            replace x1 := kcell k0 x1
            replace x2 := kcell k0 x2
            replace x3 := kcell k0 x3
            replace x4 := kcell k0 x4
            replace x5 := kcell k0 x5
            replace y0 := kcell k0 y0
            replace y1 := kcell k0 y1
            replace y2 := kcell k0 y2
            replace y3 := kcell k0 y3
            go_wp2_with fail
            with_reducible refine (HPI.out _ _ _ H1.out).mono ?_
            rintro e w1 ⟨rfl, k1⟩
            have kk1 := kept_trans kk0 k1
            replace x0 := kcell k1 x0
            replace x1 := kcell k1 x1
            replace x2 := kcell k1 x2
            replace x3 := kcell k1 x3
            replace x4 := kcell k1 x4
            replace x5 := kcell k1 x5
            replace y0 := kcell k1 y0
            replace y1 := kcell k1 y1
            replace y2 := kcell k1 y2
            replace y3 := kcell k1 y3
            go_wp2_with fail
            with_reducible refine (HIN.out _ _ _ _ _ H3.out).mono ?_
            rintro e w3 ⟨rfl, rfl⟩
            go_wp2_with fail
            with_reducible refine (HIN.out _ _ _ _ _ H4.out).mono ?_
            rintro e w4 ⟨rfl, rfl⟩
            go_wp2_with fail
            go_ret
            exact ⟨by rw [HR.out]; rfl, kk1⟩

theorem stTune_any (bb : Nat) (X : OBook) (t : Tune) (w : World) (hb : BoxO w bb X) (hP : 1 ≤ X.pipes ∧ X.pipes ≤ 5) :
    Calls Tryz.prog 81 #[.agg #[.int .i64 t.src, .int .i64 t.dst, .int .i64 t.off, .int .i64 t.err], .pointer (some ⟨bb, 0, none⟩)] w fun e w' => e = .returned (.bool (t.okB X.pipes)) ∧ Kept w w' := by
  have hk0 : Kept w (w.alloc (Obj.cells #[.int .i64 t.src, .int .i64 t.dst, .int .i64 t.off, .int .i64 t.err] 67)) := kept_alloc (kept_refl _) _
  obtain ⟨b0, b1, b2, b3, b4, b5⟩ := hb
  have hz := Go.Ai.lt_of_cell b0
  have H := Lib.hid (validTune_any X t (w.alloc (Obj.cells #[.int .i64 t.src, .int .i64 t.dst, .int .i64 t.off, .int .i64 t.err] 67)) hP)
  go_enter Tryz.func81, Tryz.ntmps81
  go_wp2_with fail
  refine H.out.mono ?_
  rintro e w' ⟨rfl, hk⟩
  go_wp2_with fail
  go_ret
  exact ⟨rfl, kept_trans hk0 hk⟩
theorem notTune_any (bf bb : Nat) (X : OBook) (t : Tune) (w : World) (hf : w.cell? ⟨bf, 0, none⟩ = some (.func (.func 81) #[] #[.pointer (some ⟨bb, 0, none⟩)])) (hb : BoxO w bb X) (hP : 1 ≤ X.pipes ∧ X.pipes ≤ 5) :
    Calls Tryz.prog 104 #[.agg #[.int .i64 t.src, .int .i64 t.dst, .int .i64 t.off, .int .i64 t.err], .pointer (some ⟨bf, 0, none⟩)] w fun e w' => e = .returned (.bool (!t.okB X.pipes)) ∧ Kept w w' := by
  have hz := Go.Ai.lt_of_cell hf
  have hk0 : Kept w (w.alloc (Obj.cells #[.int .i64 t.src, .int .i64 t.dst, .int .i64 t.off, .int .i64 t.err] 67)) := kept_alloc (kept_refl _) _
  have H := Lib.hid (stTune_any bb X t _ (hb.kept hk0) hP)
  clear hb
  go_enter Tryz.func104, Tryz.ntmps104
  go_wp2_with fail
  refine H.out.mono ?_
  rintro e w' ⟨rfl, hk⟩
  go_wp2_with fail
  go_ret
  exact ⟨rfl, kept_trans hk0 hk⟩
theorem indexTune_any (p : Option Addr) (cap bf bb : Nat) (X : OBook) (l : List Tune) (w : World) (hT : TunesAt w p l) (hn : l.length ≤ 6) (hf : w.cell? ⟨bf, 0, none⟩ = some (.func (.func 81) #[] #[.pointer (some ⟨bb, 0, none⟩)])) (hb : BoxO w bb X) (hP : 1 ≤ X.pipes ∧ X.pipes ≤ 5) :
   Calls Tryz.prog 116 #[.slice p l.length cap, .func (.func 104) #[] #[.pointer (some ⟨bf, 0, none⟩)]] w (ToldI (FirstA (l.any fun t => !t.okB X.pipes)) w) := by
  have HBX := Lib.hid (And.intro hb hP); clear hb hP
  go_enter Tryz.func116, Tryz.ntmps116
  go_wp2_with fail
  go_loopw [8] (fun i W => ∃ k : Nat, k ≤ l.length ∧ i = .int .i64 k ∧ (∀ j t, j < k → l[j]? = some t → Tune.okB X.pipes t = true) ∧ Kept w W) (fun i W => l.length - (intOf i).toNat)
  case atStart => exact ⟨0, by omega, rfl, fun j t hj => by omega, kept_refl _⟩
  case round =>
    obtain ⟨k, hk, rfl, hno, hkW⟩ := hrel
    have HNO := Lib.hid hno; clear hno
    by_cases hlt : k < l.length
    · obtain ⟨b, o, rfl, hTI⟩ : ∃ b o, p = some ⟨b, o, none⟩ ∧ TunesIn w b o l := by
        rcases hT with e | h
        · rw [e] at hlt; simp at hlt
        · exact h
      have hget : l[k]? = some l[k] := List.getElem?_eq_getElem hlt
      have hmem : l[k] ∈ l := List.getElem_mem hlt
      generalize l[k] = t at *
      obtain ⟨c0, c1, c2, c3⟩ := (hTI.kept hkW).2 k t hget
      have HG := Lib.hid hget; clear hget
      have HB := Lib.hid (fun W (kk : Kept w W) => notTune_any bf bb X t W (kcell kk hf) (HBX.out.1.kept kk) HBX.out.2)
      rcases hv : t.okB X.pipes with _ | _
      · have HV := Lib.hid hv; clear hv
        have hkz : (0 : Int) ≤ k := by omega
        have HP : Hid ((l.any fun t => !t.okB X.pipes) = true) := Lib.hid (List.any_eq_true.2 ⟨t, hmem, by rw [HV.out]; rfl⟩)
        go_wp2_with fail
        refine (HB.out _ hkW).mono ?_
        rintro e w' ⟨rfl, hk2⟩
        rw [HV.out]
        go_wp2_with fail
        go_ret
        exact ⟨k, (show FirstA _ _ from ⟨fun _ => HP.out, fun _ => hkz⟩), rfl, kept_trans hkW hk2⟩
      · have HV := Lib.hid hv; clear hv
        have HNEW : Hid (∀ (j : Nat) (t : Tune), j < k + 1 → l[j]? = some t → t.okB X.pipes = true) := Lib.hid (by
          intro j t' hj hg
          by_cases e : j = k
          · subst e; rw [HG.out] at hg; cases hg; exact HV.out
          · exact HNO.out j t' (by omega) hg)
        go_wp2_with fail
        refine (HB.out _ hkW).mono ?_
        rintro e w' ⟨rfl, hk2⟩
        rw [HV.out]
        have hkW2 := kept_trans hkW hk2
        go_wp2_with fail
        go_roundw
        case rel => exact ⟨k + 1, by omega, by go_num, HNEW.out, hkW2⟩
        case measure => simp [intOf]; omega
    · have hkl : k = l.length := by omega
      have HP : Hid ((l.any fun t => !t.okB X.pipes) = false) := Lib.hid (by
        rw [List.any_eq_false]
        intro t ht
        obtain ⟨j, hj, rfl⟩ := List.getElem_of_mem ht
        rw [HNO.out j l[j] (by omega) (List.getElem?_eq_getElem hj)]; simp)
      have hd : decide ((k : Int) < (l.length : Int)) = false := by simp; omega
      have hlt2 : ¬ (k : Int) < l.length := by omega
      clear hkl
      go_wp2_with fail
      go_ret
      exact ⟨-1, (show FirstA _ _ from ⟨fun h => by omega, fun h => by rw [HP.out] at h; cases h⟩), rfl, hkW⟩
theorem containsTune_any (p : Option Addr) (cap bf bb : Nat) (X : OBook) (l : List Tune) (w : World) (hT : TunesAt w p l) (hn : l.length ≤ 6) (hf : w.cell? ⟨bf, 0, none⟩ = some (.func (.func 81) #[] #[.pointer (some ⟨bb, 0, none⟩)])) (hb : BoxO w bb X) (hP : 1 ≤ X.pipes ∧ X.pipes ≤ 5) :
   Calls Tryz.prog 103 #[.slice p l.length cap, .func (.func 104) #[] #[.pointer (some ⟨bf, 0, none⟩)]] w fun e w' => e = .returned (.bool (l.any fun t => !t.okB X.pipes)) ∧ Kept w w' := by
  generalize hg : (l.any fun t => !t.okB X.pipes) = g
  have HI := indexTune_any p cap bf bb X l w hT hn hf hb hP
  rw [hg] at HI
  have H := Lib.hid HI; clear HI hg hb hP
  go_enter Tryz.func103, Tryz.ntmps103
  go_wp2_with fail
  refine H.out.mono ?_
  rintro e w' ⟨r, hr1, rfl, hk⟩
  have HR := Lib.hid hr1; clear hr1
  go_wp2_with fail
  go_ret
  refine ⟨?_, hk⟩
  have h : FirstA g r := HR.out
  unfold FirstA at h
  have e : decide (0 ≤ r) = g := by cases g <;> simp_all
  simpa using e
theorem allTune_any (p : Option Addr) (cap bb : Nat) (X : OBook) (l : List Tune) (w : World) (hT : TunesAt w p l) (hn : l.length ≤ 6) (hb : BoxO w bb X) (hP : 1 ≤ X.pipes ∧ X.pipes ≤ 5) :
   Calls Tryz.prog 80 #[.slice p l.length cap, .func (.func 81) #[] #[.pointer (some ⟨bb, 0, none⟩)]] w fun e w' => e = .returned (.bool (l.all (Tune.okB X.pipes))) ∧ Kept w w' := by
  have hk0 : Kept w (w.alloc (Obj.cells #[.func (.func 81) #[] #[.pointer (some ⟨bb, 0, none⟩)]] 135)) := kept_alloc (kept_refl _) _
  have hf : (w.alloc (Obj.cells #[.func (.func 81) #[] #[.pointer (some ⟨bb, 0, none⟩)]] 135)).cell? ⟨w.heap.size, 0, none⟩ = some (.func (.func 81) #[] #[.pointer (some ⟨bb, 0, none⟩)]) := by go_simp
  have HC := Lib.hid (containsTune_any p cap w.heap.size bb X l _ (hT.kept hk0) hn hf (hb.kept hk0) hP)
  have he : l.all (Tune.okB X.pipes) = !(l.any fun t => !t.okB X.pipes) := by rw [List.not_any_eq_all_not]; simp
  rw [he]
  generalize (l.any fun t => !t.okB X.pipes) = g at *
  clear he hf hb hP
  go_enter Tryz.func80, Tryz.ntmps80
  go_wp2_with fail
  refine HC.out.mono ?_
  rintro e w' ⟨rfl, hk⟩
  go_wp2_with fail
  go_ret
  exact ⟨rfl, kept_trans hk0 hk⟩

theorem validFork_any (X : OBook) (t : Fork) (w : World) (hP : 1 ≤ X.pipes ∧ X.pipes ≤ 5) :
    Calls Tryz.prog 84 #[.agg #[.int .i64 X.pipes, .slice X.tp X.tunes.length X.tcap, .slice X.fp X.forks.length X.fcap, .slice X.p X.B.boys.length X.cap, .int .i64 X.B.weeks, .slice X.q X.B.trials.length X.capt], .agg #[.int .i64 t.pipe, .int .i64 t.read, .int .i64 t.err]] w fun e w' => e = .returned (.bool (t.okB X.pipes)) ∧ Kept w w' := by
  have hk0 : Kept w ((w.alloc (Obj.cells #[.int .i64 X.pipes, .slice X.tp X.tunes.length X.tcap, .slice X.fp X.forks.length X.fcap, .slice X.p X.B.boys.length X.cap, .int .i64 X.B.weeks, .slice X.q X.B.trials.length X.capt] 29)).alloc (Obj.cells #[.int .i64 t.pipe, .int .i64 t.read, .int .i64 t.err] 63)) := kept_alloc (kept_alloc (kept_refl _) _) _
  have x0 : ((w.alloc (Obj.cells #[.int .i64 X.pipes, .slice X.tp X.tunes.length X.tcap, .slice X.fp X.forks.length X.fcap, .slice X.p X.B.boys.length X.cap, .int .i64 X.B.weeks, .slice X.q X.B.trials.length X.capt] 29)).alloc (Obj.cells #[.int .i64 t.pipe, .int .i64 t.read, .int .i64 t.err] 63)).cell? ⟨w.heap.size, 0, none⟩ = some (.int .i64 X.pipes) := by go_simp
  have x1 : ((w.alloc (Obj.cells #[.int .i64 X.pipes, .slice X.tp X.tunes.length X.tcap, .slice X.fp X.forks.length X.fcap, .slice X.p X.B.boys.length X.cap, .int .i64 X.B.weeks, .slice X.q X.B.trials.length X.capt] 29)).alloc (Obj.cells #[.int .i64 t.pipe, .int .i64 t.read, .int .i64 t.err] 63)).cell? ⟨w.heap.size, 1, none⟩ = some (.slice X.tp X.tunes.length X.tcap) := by go_simp
  have x2 : ((w.alloc (Obj.cells #[.int .i64 X.pipes, .slice X.tp X.tunes.length X.tcap, .slice X.fp X.forks.length X.fcap, .slice X.p X.B.boys.length X.cap, .int .i64 X.B.weeks, .slice X.q X.B.trials.length X.capt] 29)).alloc (Obj.cells #[.int .i64 t.pipe, .int .i64 t.read, .int .i64 t.err] 63)).cell? ⟨w.heap.size, 2, none⟩ = some (.slice X.fp X.forks.length X.fcap) := by go_simp
  have x3 : ((w.alloc (Obj.cells #[.int .i64 X.pipes, .slice X.tp X.tunes.length X.tcap, .slice X.fp X.forks.length X.fcap, .slice X.p X.B.boys.length X.cap, .int .i64 X.B.weeks, .slice X.q X.B.trials.length X.capt] 29)).alloc (Obj.cells #[.int .i64 t.pipe, .int .i64 t.read, .int .i64 t.err] 63)).cell? ⟨w.heap.size, 3, none⟩ = some (.slice X.p X.B.boys.length X.cap) := by go_simp
  have x4 : ((w.alloc (Obj.cells #[.int .i64 X.pipes, .slice X.tp X.tunes.length X.tcap, .slice X.fp X.forks.length X.fcap, .slice X.p X.B.boys.length X.cap, .int .i64 X.B.weeks, .slice X.q X.B.trials.length X.capt] 29)).alloc (Obj.cells #[.int .i64 t.pipe, .int .i64 t.read, .int .i64 t.err] 63)).cell? ⟨w.heap.size, 4, none⟩ = some (.int .i64 X.B.weeks) := by go_simp
  have x5 : ((w.alloc (Obj.cells #[.int .i64 X.pipes, .slice X.tp X.tunes.length X.tcap, .slice X.fp X.forks.length X.fcap, .slice X.p X.B.boys.length X.cap, .int .i64 X.B.weeks, .slice X.q X.B.trials.length X.capt] 29)).alloc (Obj.cells #[.int .i64 t.pipe, .int .i64 t.read, .int .i64 t.err] 63)).cell? ⟨w.heap.size, 5, none⟩ = some (.slice X.q X.B.trials.length X.capt) := by go_simp
  have y0 : ((w.alloc (Obj.cells #[.int .i64 X.pipes, .slice X.tp X.tunes.length X.tcap, .slice X.fp X.forks.length X.fcap, .slice X.p X.B.boys.length X.cap, .int .i64 X.B.weeks, .slice X.q X.B.trials.length X.capt] 29)).alloc (Obj.cells #[.int .i64 t.pipe, .int .i64 t.read, .int .i64 t.err] 63)).cell? ⟨w.heap.size + 1, 0, none⟩ = some (.int .i64 t.pipe) := by go_simp
  have y1 : ((w.alloc (Obj.cells #[.int .i64 X.pipes, .slice X.tp X.tunes.length X.tcap, .slice X.fp X.forks.length X.fcap, .slice X.p X.B.boys.length X.cap, .int .i64 X.B.weeks, .slice X.q X.B.trials.length X.capt] 29)).alloc (Obj.cells #[.int .i64 t.pipe, .int .i64 t.read, .int .i64 t.err] 63)).cell? ⟨w.heap.size + 1, 1, none⟩ = some (.int .i64 t.read) := by go_simp
  have y2 : ((w.alloc (Obj.cells #[.int .i64 X.pipes, .slice X.tp X.tunes.length X.tcap, .slice X.fp X.forks.length X.fcap, .slice X.p X.B.boys.length X.cap, .int .i64 X.B.weeks, .slice X.q X.B.trials.length X.capt] 29)).alloc (Obj.cells #[.int .i64 t.pipe, .int .i64 t.read, .int .i64 t.err] 63)).cell? ⟨w.heap.size + 1, 2, none⟩ = some (.int .i64 t.err) := by go_simp
  have HPI := Lib.hid (fun n g V (hg : inB n 0 (X.pipes - 1) = g) => isPipe_eq X n V hP hg)
  have HIN := Lib.hid (fun n l h g V (hg : inB n l h = g) => oIsIn_eq n l h V hg)
  have hzz : w.heap.size < ((w.alloc (Obj.cells #[.int .i64 X.pipes, .slice X.tp X.tunes.length X.tcap, .slice X.fp X.forks.length X.fcap, .slice X.p X.B.boys.length X.cap, .int .i64 X.B.weeks, .slice X.q X.B.trials.length X.capt] 29)).alloc (Obj.cells #[.int .i64 t.pipe, .int .i64 t.read, .int .i64 t.err] 63)).heap.size := by simp; omega
  have hzy : w.heap.size + 1 < ((w.alloc (Obj.cells #[.int .i64 X.pipes, .slice X.tp X.tunes.length X.tcap, .slice X.fp X.forks.length X.fcap, .slice X.p X.B.boys.length X.cap, .int .i64 X.B.weeks, .slice X.q X.B.trials.length X.capt] 29)).alloc (Obj.cells #[.int .i64 t.pipe, .int .i64 t.read, .int .i64 t.err] 63)).heap.size := by simp
  rcases h0 : inB t.pipe 0 (X.pipes - 1) with _ | _
  · have H0 := Lib.hid h0; clear h0
    have HR := Lib.hid (show t.okB X.pipes = false by simp [Fork.okB, H0.out])
    go_enter Tryz.func84, Tryz.ntmps84
    go_wp2_with fail
    generalize ((w.alloc (Obj.cells #[.int .i64 X.pipes, .slice X.tp X.tunes.length X.tcap, .slice X.fp X.forks.length X.fcap, .slice X.p X.B.boys.length X.cap, .int .i64 X.B.weeks, .slice X.q X.B.trials.length X.capt] 29)).alloc (Obj.cells #[.int .i64 t.pipe, .int .i64 t.read, .int .i64 t.err] 63)) = W0 at *
    with_reducible refine (HPI.out _ _ _ H0.out).mono ?_
    rintro e w0 ⟨rfl, k0⟩
    have kk0 := kept_trans hk0 k0
    replace x0 := kcell k0 x0
    replace x1 := kcell k0 x1
    replace x2 := kcell k0 x2
    replace x3 := kcell k0 x3
    replace x4 := kcell k0 x4
    replace x5 := kcell k0 x5
    replace y0 := kcell k0 y0
    replace y1 := kcell k0 y1
    replace y2 := kcell k0 y2
    go_wp2_with fail
    go_ret
    exact ⟨by rw [HR.out]; rfl, kk0⟩
  · have H0 := Lib.hid h0; clear h0
    rcases h1 : inB t.read (-60) 60 with _ | _
    · have H1 := Lib.hid h1; clear h1
      have HR := Lib.hid (show t.okB X.pipes = false by simp [Fork.okB, H1.out])
      go_enter Tryz.func84, Tryz.ntmps84
      go_wp2_with fail
      generalize ((w.alloc (Obj.cells #[.int .i64 X.pipes, .slice X.tp X.tunes.length X.tcap, .slice X.fp X.forks.length X.fcap, .slice X.p X.B.boys.length X.cap, .int .i64 X.B.weeks, .slice X.q X.B.trials.length X.capt] 29)).alloc (Obj.cells #[.int .i64 t.pipe, .int .i64 t.read, .int .i64 t.err] 63)) = W0 at *
      with_reducible refine (HPI.out _ _ _ H0.out).mono ?_
      rintro e w0 ⟨rfl, k0⟩
      have kk0 := kept_trans hk0 k0
      replace x0 := kcell k0 x0
      replace x1 := kcell k0 x1
      replace x2 := kcell k0 x2
      replace x3 := kcell k0 x3
      replace x4 := kcell k0 x4
      replace x5 := kcell k0 x5
      replace y0 := kcell k0 y0
      replace y1 := kcell k0 y1
      replace y2 := kcell k0 y2
      go_wp2_with fail
      with_reducible refine (HIN.out _ _ _ _ _ H1.out).mono ?_
      rintro e w1 ⟨rfl, rfl⟩
      go_wp2_with fail
      go_ret
      exact ⟨by rw [HR.out]; rfl, kk0⟩
    · have H1 := Lib.hid h1; clear h1
      rcases h2 : inB t.err 0 5 with _ | _
      · have H2 := Lib.hid h2; clear h2
        have HR := Lib.hid (show t.okB X.pipes = false by simp [Fork.okB, H2.out])
        go_enter Tryz.func84, Tryz.ntmps84
        go_wp2_with fail
        generalize ((w.alloc (Obj.cells #[.int .i64 X.pipes, .slice X.tp X.tunes.length X.tcap, .slice X.fp X.forks.length X.fcap, .slice X.p X.B.boys.length X.cap, .int .i64 X.B.weeks, .slice X.q X.B.trials.length X.capt] 29)).alloc (Obj.cells #[.int .i64 t.pipe, .int .i64 t.read, .int .i64 t.err] 63)) = W0 at *
        with_reducible refine (HPI.out _ _ _ H0.out).mono ?_
        rintro e w0 ⟨rfl, k0⟩
        have kk0 := kept_trans hk0 k0
        replace x0 := kcell k0 x0
        replace x1 := kcell k0 x1
        replace x2 := kcell k0 x2
        replace x3 := kcell k0 x3
        replace x4 := kcell k0 x4
        replace x5 := kcell k0 x5
        replace y0 := kcell k0 y0
        replace y1 := kcell k0 y1
        replace y2 := kcell k0 y2
        go_wp2_with fail
        with_reducible refine (HIN.out _ _ _ _ _ H1.out).mono ?_
        rintro e w1 ⟨rfl, rfl⟩
        go_wp2_with fail
        with_reducible refine (HIN.out _ _ _ _ _ H2.out).mono ?_
        rintro e w2 ⟨rfl, rfl⟩
        go_wp2_with fail
        go_ret
        exact ⟨by rw [HR.out]; rfl, kk0⟩
      · have H2 := Lib.hid h2; clear h2
        have HR := Lib.hid (show t.okB X.pipes = true by simp [Fork.okB, H0.out, H1.out, H2.out])
        go_enter Tryz.func84, Tryz.ntmps84
        go_wp2_with fail
        generalize ((w.alloc (Obj.cells #[.int .i64 X.pipes, .slice X.tp X.tunes.length X.tcap, .slice X.fp X.forks.length X.fcap, .slice X.p X.B.boys.length X.cap, .int .i64 X.B.weeks, .slice X.q X.B.trials.length X.capt] 29)).alloc (Obj.cells #[.int .i64 t.pipe, .int .i64 t.read, .int .i64 t.err] 63)) = W0 at *
        with_reducible refine (HPI.out _ _ _ H0.out).mono ?_
        rintro e w0 ⟨rfl, k0⟩
        have kk0 := kept_trans hk0 k0
        replace x0 := kcell k0 x0
        replace x1 := kcell k0 x1
        replace x2 := kcell k0 x2
        replace x3 := kcell k0 x3
        replace x4 := kcell k0 x4
        replace x5 := kcell k0 x5
        replace y0 := kcell k0 y0
        replace y1 := kcell k0 y1
        replace y2 := kcell k0 y2
        go_wp2_with fail
        with_reducible refine (HIN.out _ _ _ _ _ H1.out).mono ?_
        rintro e w1 ⟨rfl, rfl⟩
        go_wp2_with fail
        with_reducible refine (HIN.out _ _ _ _ _ H2.out).mono ?_
        rintro e w2 ⟨rfl, rfl⟩
        go_wp2_with fail
        go_ret
        exact ⟨by rw [HR.out]; rfl, kk0⟩

theorem stFork_any (bb : Nat) (X : OBook) (t : Fork) (w : World) (hb : BoxO w bb X) (hP : 1 ≤ X.pipes ∧ X.pipes ≤ 5) :
    Calls Tryz.prog 83 #[.agg #[.int .i64 t.pipe, .int .i64 t.read, .int .i64 t.err], .pointer (some ⟨bb, 0, none⟩)] w fun e w' => e = .returned (.bool (t.okB X.pipes)) ∧ Kept w w' := by
  have hk0 : Kept w (w.alloc (Obj.cells #[.int .i64 t.pipe, .int .i64 t.read, .int .i64 t.err] 63)) := kept_alloc (kept_refl _) _
  obtain ⟨b0, b1, b2, b3, b4, b5⟩ := hb
  have hz := Go.Ai.lt_of_cell b0
  have H := Lib.hid (validFork_any X t (w.alloc (Obj.cells #[.int .i64 t.pipe, .int .i64 t.read, .int .i64 t.err] 63)) hP)
  go_enter Tryz.func83, Tryz.ntmps83
  go_wp2_with fail
  refine H.out.mono ?_
  rintro e w' ⟨rfl, hk⟩
  go_wp2_with fail
  go_ret
  exact ⟨rfl, kept_trans hk0 hk⟩
theorem notFork_any (bf bb : Nat) (X : OBook) (t : Fork) (w : World) (hf : w.cell? ⟨bf, 0, none⟩ = some (.func (.func 83) #[] #[.pointer (some ⟨bb, 0, none⟩)])) (hb : BoxO w bb X) (hP : 1 ≤ X.pipes ∧ X.pipes ≤ 5) :
    Calls Tryz.prog 106 #[.agg #[.int .i64 t.pipe, .int .i64 t.read, .int .i64 t.err], .pointer (some ⟨bf, 0, none⟩)] w fun e w' => e = .returned (.bool (!t.okB X.pipes)) ∧ Kept w w' := by
  have hz := Go.Ai.lt_of_cell hf
  have hk0 : Kept w (w.alloc (Obj.cells #[.int .i64 t.pipe, .int .i64 t.read, .int .i64 t.err] 63)) := kept_alloc (kept_refl _) _
  have H := Lib.hid (stFork_any bb X t _ (hb.kept hk0) hP)
  clear hb
  go_enter Tryz.func106, Tryz.ntmps106
  go_wp2_with fail
  refine H.out.mono ?_
  rintro e w' ⟨rfl, hk⟩
  go_wp2_with fail
  go_ret
  exact ⟨rfl, kept_trans hk0 hk⟩
theorem indexFork_any (p : Option Addr) (cap bf bb : Nat) (X : OBook) (l : List Fork) (w : World) (hT : ForksAt w p l) (hn : l.length ≤ 6) (hf : w.cell? ⟨bf, 0, none⟩ = some (.func (.func 83) #[] #[.pointer (some ⟨bb, 0, none⟩)])) (hb : BoxO w bb X) (hP : 1 ≤ X.pipes ∧ X.pipes ≤ 5) :
   Calls Tryz.prog 117 #[.slice p l.length cap, .func (.func 106) #[] #[.pointer (some ⟨bf, 0, none⟩)]] w (ToldI (FirstA (l.any fun t => !t.okB X.pipes)) w) := by
  have HBX := Lib.hid (And.intro hb hP); clear hb hP
  go_enter Tryz.func117, Tryz.ntmps117
  go_wp2_with fail
  go_loopw [8] (fun i W => ∃ k : Nat, k ≤ l.length ∧ i = .int .i64 k ∧ (∀ j t, j < k → l[j]? = some t → Fork.okB X.pipes t = true) ∧ Kept w W) (fun i W => l.length - (intOf i).toNat)
  case atStart => exact ⟨0, by omega, rfl, fun j t hj => by omega, kept_refl _⟩
  case round =>
    obtain ⟨k, hk, rfl, hno, hkW⟩ := hrel
    have HNO := Lib.hid hno; clear hno
    by_cases hlt : k < l.length
    · obtain ⟨b, o, rfl, hTI⟩ : ∃ b o, p = some ⟨b, o, none⟩ ∧ ForksIn w b o l := by
        rcases hT with e | h
        · rw [e] at hlt; simp at hlt
        · exact h
      have hget : l[k]? = some l[k] := List.getElem?_eq_getElem hlt
      have hmem : l[k] ∈ l := List.getElem_mem hlt
      generalize l[k] = t at *
      obtain ⟨c0, c1, c2⟩ := (hTI.kept hkW).2 k t hget
      have HG := Lib.hid hget; clear hget
      have HB := Lib.hid (fun W (kk : Kept w W) => notFork_any bf bb X t W (kcell kk hf) (HBX.out.1.kept kk) HBX.out.2)
      rcases hv : t.okB X.pipes with _ | _
      · have HV := Lib.hid hv; clear hv
        have hkz : (0 : Int) ≤ k := by omega
        have HP : Hid ((l.any fun t => !t.okB X.pipes) = true) := Lib.hid (List.any_eq_true.2 ⟨t, hmem, by rw [HV.out]; rfl⟩)
        go_wp2_with fail
        refine (HB.out _ hkW).mono ?_
        rintro e w' ⟨rfl, hk2⟩
        rw [HV.out]
        go_wp2_with fail
        go_ret
        exact ⟨k, (show FirstA _ _ from ⟨fun _ => HP.out, fun _ => hkz⟩), rfl, kept_trans hkW hk2⟩
      · have HV := Lib.hid hv; clear hv
        have HNEW : Hid (∀ (j : Nat) (t : Fork), j < k + 1 → l[j]? = some t → t.okB X.pipes = true) := Lib.hid (by
          intro j t' hj hg
          by_cases e : j = k
          · subst e; rw [HG.out] at hg; cases hg; exact HV.out
          · exact HNO.out j t' (by omega) hg)
        go_wp2_with fail
        refine (HB.out _ hkW).mono ?_
        rintro e w' ⟨rfl, hk2⟩
        rw [HV.out]
        have hkW2 := kept_trans hkW hk2
        go_wp2_with fail
        go_roundw
        case rel => exact ⟨k + 1, by omega, by go_num, HNEW.out, hkW2⟩
        case measure => simp [intOf]; omega
    · have hkl : k = l.length := by omega
      have HP : Hid ((l.any fun t => !t.okB X.pipes) = false) := Lib.hid (by
        rw [List.any_eq_false]
        intro t ht
        obtain ⟨j, hj, rfl⟩ := List.getElem_of_mem ht
        rw [HNO.out j l[j] (by omega) (List.getElem?_eq_getElem hj)]; simp)
      have hd : decide ((k : Int) < (l.length : Int)) = false := by simp; omega
      have hlt2 : ¬ (k : Int) < l.length := by omega
      clear hkl
      go_wp2_with fail
      go_ret
      exact ⟨-1, (show FirstA _ _ from ⟨fun h => by omega, fun h => by rw [HP.out] at h; cases h⟩), rfl, hkW⟩
theorem containsFork_any (p : Option Addr) (cap bf bb : Nat) (X : OBook) (l : List Fork) (w : World) (hT : ForksAt w p l) (hn : l.length ≤ 6) (hf : w.cell? ⟨bf, 0, none⟩ = some (.func (.func 83) #[] #[.pointer (some ⟨bb, 0, none⟩)])) (hb : BoxO w bb X) (hP : 1 ≤ X.pipes ∧ X.pipes ≤ 5) :
   Calls Tryz.prog 105 #[.slice p l.length cap, .func (.func 106) #[] #[.pointer (some ⟨bf, 0, none⟩)]] w fun e w' => e = .returned (.bool (l.any fun t => !t.okB X.pipes)) ∧ Kept w w' := by
  generalize hg : (l.any fun t => !t.okB X.pipes) = g
  have HI := indexFork_any p cap bf bb X l w hT hn hf hb hP
  rw [hg] at HI
  have H := Lib.hid HI; clear HI hg hb hP
  go_enter Tryz.func105, Tryz.ntmps105
  go_wp2_with fail
  refine H.out.mono ?_
  rintro e w' ⟨r, hr1, rfl, hk⟩
  have HR := Lib.hid hr1; clear hr1
  go_wp2_with fail
  go_ret
  refine ⟨?_, hk⟩
  have h : FirstA g r := HR.out
  unfold FirstA at h
  have e : decide (0 ≤ r) = g := by cases g <;> simp_all
  simpa using e
theorem allFork_any (p : Option Addr) (cap bb : Nat) (X : OBook) (l : List Fork) (w : World) (hT : ForksAt w p l) (hn : l.length ≤ 6) (hb : BoxO w bb X) (hP : 1 ≤ X.pipes ∧ X.pipes ≤ 5) :
   Calls Tryz.prog 82 #[.slice p l.length cap, .func (.func 83) #[] #[.pointer (some ⟨bb, 0, none⟩)]] w fun e w' => e = .returned (.bool (l.all (Fork.okB X.pipes))) ∧ Kept w w' := by
  have hk0 : Kept w (w.alloc (Obj.cells #[.func (.func 83) #[] #[.pointer (some ⟨bb, 0, none⟩)]] 138)) := kept_alloc (kept_refl _) _
  have hf : (w.alloc (Obj.cells #[.func (.func 83) #[] #[.pointer (some ⟨bb, 0, none⟩)]] 138)).cell? ⟨w.heap.size, 0, none⟩ = some (.func (.func 83) #[] #[.pointer (some ⟨bb, 0, none⟩)]) := by go_simp
  have HC := Lib.hid (containsFork_any p cap w.heap.size bb X l _ (hT.kept hk0) hn hf (hb.kept hk0) hP)
  have he : l.all (Fork.okB X.pipes) = !(l.any fun t => !t.okB X.pipes) := by rw [List.not_any_eq_all_not]; simp
  rw [he]
  generalize (l.any fun t => !t.okB X.pipes) = g at *
  clear he hf hb hP
  go_enter Tryz.func82, Tryz.ntmps82
  go_wp2_with fail
  refine HC.out.mono ?_
  rintro e w' ⟨rfl, hk⟩
  go_wp2_with fail
  go_ret
  exact ⟨rfl, kept_trans hk0 hk⟩
end Go.Proofs.YthgfbokfaidklaaGreatDoor
set_option linter.all false
namespace Go.Proofs.YthgfbokfaidklaaGreatDoor
open Go.RowKit Go.Sort Go.Rg
open Go.ChangeMaps (setBlock)
set_option maxRecDepth 100000

theorem oklaw : WideMaps.KeyLaw Tryz.prog 106 := deep_law_laid laidOut (m := 2) (by omega) (by decide +kernel) (by kernel_rfl) (by kernel_rfl)
theorem okeys_some : ((List.range 6).all fun a => (List.range 6).all fun b => (keyOf Tryz.prog 106 (keyV a b)).isSome) = true := by kernel_rfl
theorem okey_some {a b : Nat} (ha : a < 6) (hb : b < 6) : ∃ l, keyOf Tryz.prog 106 (keyV a b) = some l := by
  have := okeys_some
  rw [List.all_eq_true] at this
  have := this a (List.mem_range.2 ha)
  rw [List.all_eq_true] at this
  have := this b (List.mem_range.2 hb)
  exact Option.isSome_iff_exists.1 this
/-- an entry -/
structure OSlot where
  a : Nat
  b : Nat
  v : Int
def OSlot.key (s : OSlot) : Value := keyV s.a s.b
def oentriesFrom : Nat → List OSlot → List MapEntry
  | _, [] => []
  | i, s :: l => ⟨s.key, .int .i64 s.v, i⟩ :: oentriesFrom (i + 1) l
def oentries (l : List OSlot) : Array MapEntry := (oentriesFrom 0 l).toArray
theorem oentriesFrom_get : ∀ (i j : Nat) (l : List OSlot), (oentriesFrom i l)[j]? = (l[j]?).map fun s => ⟨s.key, .int .i64 s.v, i + j⟩
  | _, _, [] => by simp [oentriesFrom]
  | i, 0, s :: l => by simp [oentriesFrom]
  | i, j + 1, s :: l => by
    simp only [oentriesFrom, List.getElem?_cons_succ, oentriesFrom_get (i + 1) j l]
    congr 1; funext s; simp; omega
theorem oentriesFrom_mem {i : Nat} {l : List OSlot} {e : MapEntry} (h : e ∈ oentriesFrom i l) : ∃ s ∈ l, e.key = s.key := by
  obtain ⟨j, hj, rfl⟩ := List.getElem_of_mem h
  have := oentriesFrom_get i j l
  rw [List.getElem?_eq_getElem hj] at this
  cases hs : l[j]? with
  | none => rw [hs] at this; cases this
  | some s =>
    rw [hs] at this
    simp only [Option.map_some, Option.some.injEq] at this
    exact ⟨s, List.mem_of_getElem? hs, by rw [this]⟩
theorem oentriesFrom_snoc : ∀ (i : Nat) (l : List OSlot) (s : OSlot), oentriesFrom i (l ++ [s]) = oentriesFrom i l ++ [⟨s.key, .int .i64 s.v, i + l.length⟩]
  | i, [], s => by simp [oentriesFrom]
  | i, t :: l, s => by simp [oentriesFrom, oentriesFrom_snoc (i + 1) l s]; omega
def OSlotOk (l : List OSlot) : Prop := ∀ s ∈ l, s.a < 6 ∧ s.b < 6

theorem ofind_slot (w : World) (l : List OSlot) (hl : OSlotOk l) {b k : Nat} (hb : b < 6) (hk : k < 6) :
    ((Instr.findKey 106 (keyV b k) (oentries l).toList).run Tryz.prog w = .ok none w ∧ ∀ s ∈ l, ¬ (s.a = b ∧ s.b = k)) ∨
    ∃ j s, (Instr.findKey 106 (keyV b k) (oentries l).toList).run Tryz.prog w = .ok (some (j, .int .i64 s.v)) w ∧ l[j]? = some s ∧ s.a = b ∧ s.b = k := by
  obtain ⟨lx, hlx⟩ := okey_some hb hk
  rcases oklaw.find w hlx (oentries l).toList (fun e he => by
    obtain ⟨s, hs, e2⟩ := oentriesFrom_mem (by simpa [oentries] using he)
    obtain ⟨h1, h2⟩ := hl s hs
    rw [e2]; exact okey_some h1 h2) with ⟨h1, h2⟩ | ⟨j, e, h1, h2, h3⟩
  · refine .inl ⟨h1, fun s hs ⟨e1, e2⟩ => ?_⟩
    obtain ⟨j, hj, rfl⟩ := List.getElem_of_mem hs
    have := oentriesFrom_get 0 j l
    rw [List.getElem?_eq_getElem hj] at this
    refine h2 _ (by simpa [oentries] using List.mem_of_getElem? this) ?_
    simp [OSlot.key, e1, e2]
  · have := oentriesFrom_get 0 j l
    rw [show (oentriesFrom 0 l)[j]? = some e by simpa [oentries] using h2] at this
    cases hs : l[j]? with
    | none => rw [hs] at this; cases this
    | some s =>
      rw [hs] at this
      simp only [Option.map_some, Option.some.injEq] at this
      subst this
      obtain ⟨e1, e2⟩ := keyV_inj h3
      exact .inr ⟨j, s, h1, hs, e1, e2⟩

theorem ound : Tryz.prog.underlying 74 = some (.map 106 3) := by kernel_rfl
theorem ozero_int (w : World) : (zeroValue 3).run Tryz.prog w = .ok (.int .i64 0) w := by kernel_rfl
def setF (f : Fm) (i j : Nat) (v : Int) : Fm := fun a b => if a = i ∧ b = j then v else f a b
theorem updF_eq (f : Fm) (i j : Nat) (m : Int) : updF f i j m = setF f i j (min m (f i j)) := rfl
/-- what a map of bounds tells -/
structure BoundsAt (W : World) (bm : Nat) (l : List OSlot) (f : Fm) : Prop where
  map : W.heap[bm]? = some (.map (oentries l) l.length)
  ok : OSlotOk l
  nodup : ∀ (i j : Nat) (s t : OSlot), l[i]? = some s → l[j]? = some t → s.a = t.a → s.b = t.b → i = j
  told : ∀ a b : Nat, a < 6 → b < 6 → (∃ s ∈ l, s.a = a ∧ s.b = b ∧ s.v = f a b) ∨ ((∀ s ∈ l, ¬ (s.a = a ∧ s.b = b)) ∧ f a b = dfltF a b)
theorem BoundsAt.of_block {A B : World} {bm : Nat} {l : List OSlot} {f : Fm} (h : BoundsAt A bm l f) (e : B.heap[bm]? = A.heap[bm]?) : BoundsAt B bm l f := { h with map := e.trans h.map }
theorem BoundsAt.lt {A : World} {bm : Nat} {l : List OSlot} {f : Fm} (h : BoundsAt A bm l f) : bm < A.heap.size := (Array.getElem?_eq_some_iff.1 h.map).1
theorem BoundsAt.kept {A B : World} {bm : Nat} {l : List OSlot} {f : Fm} (h : BoundsAt A bm l f) (k : Kept A B) : BoundsAt B bm l f := h.of_block (k.block bm h.lt)
theorem bounds_new {W : World} {bm : Nat} (h : W.heap[bm]? = some (.map #[] 0)) : BoundsAt W bm [] dfltF where
  map := h
  ok := fun s hs => by cases hs
  nodup := fun i j s t hi => by simp at hi
  told := fun a b _ _ => .inr ⟨(fun s hs => by cases hs), rfl⟩

/-- a bound, looked up -/
theorem BoundsAt.look {W : World} {bm : Nat} {l : List OSlot} {f : Fm} (h : BoundsAt W bm l f) {a b : Nat} (ha : a < 6) (hb : b < 6) :
    ∃ (v : Int) (kn : Bool), (∀ W', W'.heap[bm]? = W.heap[bm]? → (Instr.lookup 74 (.map (some bm)) (keyV a b) true).run Tryz.prog W' = .ok (.tuple #[.int .i64 v, .bool kn]) W') ∧ ((kn = true ∧ v = f a b) ∨ (kn = false ∧ f a b = dfltF a b)) := by
  obtain ⟨lx, hlx⟩ := okey_some ha hb
  rcases h.told a b ha hb with ⟨s, hs, e1, e2, e3⟩ | ⟨hno, he⟩
  · refine ⟨f a b, true, fun W' hW' => ?_, .inl ⟨rfl, rfl⟩⟩
    have hg := MapKept.run_getObj_map (P := Tryz.prog) (hW'.trans h.map)
    rcases ofind_slot W' l h.ok ha hb with ⟨_, h3⟩ | ⟨j, s', h1, h3, h4, h5⟩
    · exact absurd ⟨e1, e2⟩ (h3 s hs)
    · have : s'.v = f a b := by
        obtain ⟨i, hi, rfl⟩ := List.getElem_of_mem hs
        have := h.nodup i j _ s' (List.getElem?_eq_getElem hi) h3 (by omega) (by omega)
        subst this
        rw [List.getElem?_eq_getElem hi] at h3
        cases h3
        exact e3
      simp [Instr.lookup, run_underlying ound, hg, oklaw.check W' _ hlx, h1, Result.andThen, this]
  · refine ⟨0, false, fun W' hW' => ?_, .inr ⟨rfl, he⟩⟩
    have hg := MapKept.run_getObj_map (P := Tryz.prog) (hW'.trans h.map)
    rcases ofind_slot W' l h.ok ha hb with ⟨h1, _⟩ | ⟨j, s', h1, h3, h4, h5⟩
    · simp [Instr.lookup, run_underlying ound, hg, oklaw.check W' _ hlx, h1, ozero_int, Result.andThen]
    · exact absurd ⟨h4, h5⟩ (hno s' (List.mem_of_getElem? h3))

/-- a bound, written -/
theorem BoundsAt.write {W : World} {bm : Nat} {l : List OSlot} {f : Fm} (h : BoundsAt W bm l f) {a b : Nat} (ha : a < 6) (hb : b < 6) (v : Int) :
    ∃ l' : List OSlot, (Instr.mapUpdate 74 (.map (some bm)) (keyV a b) (.int .i64 v)).run Tryz.prog W = .ok () (setBlock W bm (.map (oentries l') l'.length)) ∧ BoundsAt (setBlock W bm (.map (oentries l') l'.length)) bm l' (setF f a b v) := by
  obtain ⟨lx, hlx⟩ := okey_some ha hb
  have hg := MapKept.run_getObj_map (P := Tryz.prog) h.map
  rcases ofind_slot W l h.ok ha hb with ⟨h1, hno⟩ | ⟨j, s, h1, h3, h4, h5⟩
  · refine ⟨l ++ [⟨a, b, v⟩], ?_, ?_⟩
    · have hpush : (oentries l).push ⟨keyV a b, .int .i64 v, l.length⟩ = oentries (l ++ [⟨a, b, v⟩]) := by
        apply Array.ext'
        simp [oentries, oentriesFrom_snoc, OSlot.key]
      have hset := MapKept.run_setObj_map (P := Tryz.prog) (.map (oentries (l ++ [⟨a, b, v⟩])) (l.length + 1)) h.map
      simp [Instr.mapUpdate, run_underlying ound, hg, oklaw.check W _ hlx, h1, Result.andThen, hpush, hset, setBlock]
    · refine ⟨by rw [set_same h.lt], ?_, ?_, ?_⟩
      · intro s hs
        rcases List.mem_append.1 hs with hs | hs
        · exact h.ok s hs
        · simp only [List.mem_singleton] at hs; subst hs; exact ⟨ha, hb⟩
      · intro i j s t hi hj e1 e2
        rcases getElem?_snoc hi with hi | ⟨rfl, rfl⟩ <;> rcases getElem?_snoc hj with hj | ⟨rfl, rfl⟩
        · exact h.nodup i j s t hi hj e1 e2
        · exact absurd ⟨e1, e2⟩ (hno s (List.mem_of_getElem? hi))
        · exact absurd ⟨e1.symm, e2.symm⟩ (hno t (List.mem_of_getElem? hj))
        · rfl
      · intro a' b' ha' hb'
        unfold setF
        by_cases e : a' = a ∧ b' = b
        · obtain ⟨rfl, rfl⟩ := e
          exact .inl ⟨⟨a', b', v⟩, by simp, rfl, rfl, by simp⟩
        · rw [if_neg e]
          rcases h.told a' b' ha' hb' with ⟨s, hs, e1, e2, e3⟩ | ⟨hn, he⟩
          · exact .inl ⟨s, List.mem_append_left _ hs, e1, e2, e3⟩
          · refine .inr ⟨fun s hs => ?_, he⟩
            rcases List.mem_append.1 hs with hs | hs
            · exact hn s hs
            · simp only [List.mem_singleton] at hs; subst hs
              exact fun h' => e ⟨h'.1.symm, h'.2.symm⟩
  · have hjl := (List.getElem?_eq_some_iff.1 h3).1
    refine ⟨l.set j ⟨a, b, v⟩, ?_, ?_⟩
    · have hj : (oentries l)[j]? = some ⟨keyV a b, .int .i64 s.v, j⟩ := by
        have := oentriesFrom_get 0 j l
        rw [h3] at this
        simp only [Option.map_some, Nat.zero_add, OSlot.key, h4, h5] at this
        simpa [oentries] using this
      have hmod : (oentries l).modify j (fun e => { e with key := keyV a b, val := .int .i64 v }) = oentries (l.set j ⟨a, b, v⟩) := by
        apply Array.ext'
        rw [Array.toList_modify]
        apply List.ext_getElem?
        intro i
        rw [List.getElem?_modify]
        simp only [oentries]
        rw [oentriesFrom_get, oentriesFrom_get, List.getElem?_set]
        by_cases e : j = i
        · subst e
          rw [h3]; simp [hjl, OSlot.key]
        · simp [e]
      have hset := MapKept.run_setObj_map (P := Tryz.prog) (.map (oentries (l.set j ⟨a, b, v⟩)) l.length) h.map
      simp [Instr.mapUpdate, run_underlying ound, hg, oklaw.check W _ hlx, h1, Result.andThen, hj, oklaw.stays W hlx, hmod, hset, setBlock]
    · have get : ∀ {i x}, (l.set j ⟨a, b, v⟩)[i]? = some x → (i ≠ j ∧ l[i]? = some x) ∨ (i = j ∧ x = ⟨a, b, v⟩) := fun {i x} hx => by
        rw [List.getElem?_set] at hx
        by_cases e : j = i
        · subst e; simp [hjl] at hx; exact .inr ⟨rfl, hx.symm⟩
        · simp only [e, if_false] at hx; exact .inl ⟨fun h => e h.symm, hx⟩
      refine ⟨by rw [set_same h.lt], ?_, ?_, ?_⟩
      · intro x hx
        obtain ⟨i, hi, rfl⟩ := List.getElem_of_mem hx
        rcases get (List.getElem?_eq_getElem hi) with ⟨_, h1⟩ | ⟨_, h1⟩
        · exact h.ok _ (List.mem_of_getElem? h1)
        · rw [h1]; exact ⟨ha, hb⟩
      · intro i i' x y hi hi' e1 e2
        rcases get hi with ⟨n1, g1⟩ | ⟨rfl, rfl⟩ <;> rcases get hi' with ⟨n2, g2⟩ | ⟨rfl, rfl⟩
        · exact h.nodup i i' x y g1 g2 e1 e2
        · exact h.nodup i _ x s g1 h3 (by simp at e1; omega) (by simp at e2; omega)
        · exact h.nodup _ i' s y h3 g2 (by simp at e1; omega) (by simp at e2; omega)
        · rfl
      · intro a' b' ha' hb'
        unfold setF
        by_cases e : a' = a ∧ b' = b
        · obtain ⟨rfl, rfl⟩ := e
          exact .inl ⟨⟨a', b', v⟩, List.mem_of_getElem? (i := j) (by simp [List.getElem?_set, hjl]), rfl, rfl, by simp⟩
        · rw [if_neg e]
          rcases h.told a' b' ha' hb' with ⟨s', hs', e1, e2, e3⟩ | ⟨hn, he⟩
          · obtain ⟨i, hi, rfl⟩ := List.getElem_of_mem hs'
            have hij : i ≠ j := by
              rintro rfl
              rw [List.getElem?_eq_getElem hi] at h3
              cases h3
              exact e ⟨by omega, by omega⟩
            exact .inl ⟨_, List.mem_of_getElem? (i := i) (by rw [List.getElem?_set, if_neg (Ne.symm hij)]; exact List.getElem?_eq_getElem hi), e1, e2, e3⟩
          · refine .inr ⟨fun x hx => ?_, he⟩
            obtain ⟨i, hi, rfl⟩ := List.getElem_of_mem hx
            rcases get (List.getElem?_eq_getElem hi) with ⟨_, h1⟩ | ⟨_, h1⟩
            · exact hn _ (List.mem_of_getElem? h1)
            · rw [h1]; exact fun h' => e ⟨h'.1.symm, h'.2.symm⟩
theorem turns_set (W : World) (bm : Nat) (o : Obj) : Turns (fun x => x = bm) W (setBlock W bm o) := by
  have := grown_set (W := W) (bm := bm) (o := o)
  exact ⟨this.os, this.tape, this.output, this.size, fun i hi hne => this.block i hi (fun e => hne (by cases e; rfl))⟩
end Go.Proofs.YthgfbokfaidklaaGreatDoor
set_option linter.all false
namespace Go.Proofs.YthgfbokfaidklaaGreatDoor
open Go.RowKit Go.Sort Go.Rg
set_option maxRecDepth 100000

theorem eq_no (k : Nat) (n1 n2 n3 n4 : Int) (w : World) : (Op.equalIn 10000 98 (.agg #[.int .i64 (k : Int), .int .i64 n1, .int .i64 n2, .int .i64 n3, .int .i64 n4]) (.agg #[.int .i64 (-1), .int .i64 (-1), .int .i64 (-1), .int .i64 (-1), .int .i64 (-1)])).run Tryz.prog w = .ok false w := by kernel_rfl
theorem eq_yes (w : World) : (Op.equalIn 10000 98 (.agg #[.int .i64 (-1), .int .i64 (-1), .int .i64 (-1), .int .i64 (-1), .int .i64 (-1)]) (.agg #[.int .i64 (-1), .int .i64 (-1), .int .i64 (-1), .int .i64 (-1), .int .i64 (-1)])).run Tryz.prog w = .ok true w := by kernel_rfl
attribute [local go_sem] eq_no eq_yes
theorem gen_rng {lo hi : Nat → Int} {boy : Int} {lt : List Trial} {kp : List Int → Bool} : ∀ (d : Nat) (pre x : List Int), x ∈ gen lo hi boy lt kp d pre → Rng lo hi pre → Rng lo hi x
  | 0, pre, x, h, hr => by
    unfold gen at h
    split at h
    · simp at h; rw [h]; exact hr
    · cases h
  | d + 1, pre, x, h, hr => by
    unfold gen at h
    simp only [List.mem_flatten, List.mem_map] at h
    obtain ⟨l, ⟨m, hm, rfl⟩, hx⟩ := h
    split at hx
    · cases hx
    · have := List.mem_range.1 hm
      exact gen_rng d _ x hx (hr.snoc (by omega) (by omega))
theorem truths_rng {B : Book} {boy : Nat} {x : Boy} {n : List Int} (h : n ∈ B.truths boy x) : Rng x.lo x.hi n := gen_rng 5 [] n h (fun i v h => by simp at h)
theorem first_cases {B : Book} {boy : Nat} {x : Boy} (hx : x.okB = true) : (B.truths boy x = [] ∧ firstOf (B.truths boy x) = [-1, -1, -1, -1, -1]) ∨ (B.truths boy x ≠ [] ∧ ∃ (k : Nat) (n1 n2 n3 n4 : Int), firstOf (B.truths boy x) = [(k : Int), n1, n2, n3, n4]) := by
  cases ht : B.truths boy x with
  | nil => exact .inl ⟨rfl, rfl⟩
  | cons y ys =>
    refine .inr ⟨by simp, ?_⟩
    have hm : y ∈ B.truths boy x := by rw [ht]; exact List.mem_cons_self
    obtain ⟨n0, n1, n2, n3, n4, rfl⟩ := truths_len hm
    have h0 := truths_rng hm 0 n0 rfl
    have h1 := (spanAt_ok x hx).1 0 (by omega)
    obtain ⟨k, rfl⟩ := Int.eq_ofNat_of_zero_le (show 0 ≤ n0 by omega)
    exact ⟨k, n1, n2, n3, n4, rfl⟩

def Nothing (W : World) : Prop := ∀ i, i < 5 → W.cell? ⟨1, i, none⟩ = some (.int .i64 (-1))
theorem Nothing.kept {A B : World} (h : Nothing A) (k : Kept A B) : Nothing B := fun i hi => kcell k (h i hi)
def CanP (B : Book) (r : Bool) : Prop := r = true ↔ ∀ (boy : Nat) (x : Boy), B.boys[boy]? = some x → B.truths boy x ≠ []

set_option maxHeartbeats 4000000 in
theorem canBeTrue_any (S : Nat → Prop) (c : Choir) (W : World) (h : ChoirAt S W c) (hS : ∀ b, S b → b < W.heap.size) (hg : Nothing W) :
    Calls Tryz.prog 71 #[c.val] W (ToldB (CanP c.B) W) := by
  have hlen : 1 ≤ c.B.boys.length ∧ c.B.boys.length ≤ 4 := by
    have := h.ok
    simp only [Book.okB, inB, Bool.and_eq_true, decide_eq_true_eq] at this
    omega
  have hbo : ∀ (i : Nat) (x : Boy), c.B.boys[i]? = some x → x.okB = true := by
    have := h.ok
    simp only [Book.okB, Bool.and_eq_true, List.all_eq_true] at this
    exact fun i x hx => this.1.2 x (List.mem_of_getElem? hx)
  unfold Choir.val
  go_enter Tryz.func71, Tryz.ntmps71
  go_wp2_with fail
  have hk0 : Kept W (W.alloc (Obj.cells #[.slice (some ⟨c.bb, c.ob, none⟩) c.B.boys.length c.capb, .int .i64 c.B.weeks, .slice c.q c.B.trials.length c.capt, .map (some c.bm)] 92)) := kept_alloc (kept_refl _) _
  have hz0 : (W.alloc (Obj.cells #[.slice (some ⟨c.bb, c.ob, none⟩) c.B.boys.length c.capb, .int .i64 c.B.weeks, .slice c.q c.B.trials.length c.capt, .map (some c.bm)] 92)).heap.size = W.heap.size + 1 := by simp
  have c0 : (W.alloc (Obj.cells #[.slice (some ⟨c.bb, c.ob, none⟩) c.B.boys.length c.capb, .int .i64 c.B.weeks, .slice c.q c.B.trials.length c.capt, .map (some c.bm)] 92)).cell? ⟨W.heap.size, 0, none⟩ = some (.slice (some ⟨c.bb, c.ob, none⟩) c.B.boys.length c.capb) := by go_simp
  have c1 : (W.alloc (Obj.cells #[.slice (some ⟨c.bb, c.ob, none⟩) c.B.boys.length c.capb, .int .i64 c.B.weeks, .slice c.q c.B.trials.length c.capt, .map (some c.bm)] 92)).cell? ⟨W.heap.size, 1, none⟩ = some (.int .i64 c.B.weeks) := by go_simp
  have c2 : (W.alloc (Obj.cells #[.slice (some ⟨c.bb, c.ob, none⟩) c.B.boys.length c.capb, .int .i64 c.B.weeks, .slice c.q c.B.trials.length c.capt, .map (some c.bm)] 92)).cell? ⟨W.heap.size, 2, none⟩ = some (.slice c.q c.B.trials.length c.capt) := by go_simp
  have c3 : (W.alloc (Obj.cells #[.slice (some ⟨c.bb, c.ob, none⟩) c.B.boys.length c.capb, .int .i64 c.B.weeks, .slice c.q c.B.trials.length c.capt, .map (some c.bm)] 92)).cell? ⟨W.heap.size, 3, none⟩ = some (.map (some c.bm)) := by go_simp
  generalize W.alloc (Obj.cells #[.slice (some ⟨c.bb, c.ob, none⟩) c.B.boys.length c.capb, .int .i64 c.B.weeks, .slice c.q c.B.trials.length c.capt, .map (some c.bm)] 92) = V0 at *
  go_loopw [8] (fun i V => ∃ j : Nat, j ≤ c.B.boys.length ∧ i = .int .i64 j ∧ (∀ (boy : Nat) (x : Boy), boy < j → c.B.boys[boy]? = some x → c.B.truths boy x ≠ []) ∧ Kept V0 V) (fun i V => c.B.boys.length - (intOf i).toNat)
  case atStart => exact ⟨0, by omega, rfl, fun boy x hb => by omega, kept_refl _⟩
  case round =>
    obtain ⟨j, hj, rfl, hno, hV⟩ := hrel
    have HNO := Lib.hid hno; clear hno
    have hkV := kept_trans hk0 hV
    by_cases hlt : j < c.B.boys.length
    · have hltI : (j : Int) < c.B.boys.length := by omega
      have hget : c.B.boys[j]? = some c.B.boys[j] := List.getElem?_eq_getElem hlt
      generalize c.B.boys[j] = x at *
      have d0 : ∀ d os, (grow (redrawn wr d) os).cell? ⟨W.heap.size, 0, none⟩ = some (.slice (some ⟨c.bb, c.ob, none⟩) c.B.boys.length c.capb) := cell_regrown (kcell hV c0)
      have d1 : ∀ d os, (grow (redrawn wr d) os).cell? ⟨W.heap.size, 1, none⟩ = some (.int .i64 c.B.weeks) := cell_regrown (kcell hV c1)
      have d2 : ∀ d os, (grow (redrawn wr d) os).cell? ⟨W.heap.size, 2, none⟩ = some (.slice c.q c.B.trials.length c.capt) := cell_regrown (kcell hV c2)
      have d3 : ∀ d os, (grow (redrawn wr d) os).cell? ⟨W.heap.size, 3, none⟩ = some (.map (some c.bm)) := cell_regrown (kcell hV c3)
      have g0 : ∀ d os, (grow (redrawn wr d) os).cell? ⟨1, 0, none⟩ = some (.int .i64 (-1)) := cell_regrown ((hg.kept hkV) 0 (by omega))
      have g1 : ∀ d os, (grow (redrawn wr d) os).cell? ⟨1, 1, none⟩ = some (.int .i64 (-1)) := cell_regrown ((hg.kept hkV) 1 (by omega))
      have g2 : ∀ d os, (grow (redrawn wr d) os).cell? ⟨1, 2, none⟩ = some (.int .i64 (-1)) := cell_regrown ((hg.kept hkV) 2 (by omega))
      have g3 : ∀ d os, (grow (redrawn wr d) os).cell? ⟨1, 3, none⟩ = some (.int .i64 (-1)) := cell_regrown ((hg.kept hkV) 3 (by omega))
      have g4 : ∀ d os, (grow (redrawn wr d) os).cell? ⟨1, 4, none⟩ = some (.int .i64 (-1)) := cell_regrown ((hg.kept hkV) 4 (by omega))
      have hca : ∀ d os, Calls Tryz.prog 100 #[.agg #[.slice (some ⟨c.bb, c.ob, none⟩) c.B.boys.length c.capb, .int .i64 c.B.weeks, .slice c.q c.B.trials.length c.capt, .map (some c.bm)], .int .i64 (j : Int)] (grow (redrawn wr d) os) fun e w'' => e = .returned (numsV (firstOf (c.B.truths j x))) ∧ ∃ p : Regrown, w'' = grow (redrawn wr p.d) p.os := by
        intro d os
        have hkx := kept_trans hkV (below_regrown wr d os)
        exact Calls.regrown_of (first_any S c j x hget _ (h.turns (kturns hkx (fun _ => False)) (fun _ _ h => h)) (fun b hb => Nat.lt_of_lt_of_le (hS b hb) hkx.size) (hg.kept hkx))
      rcases first_cases (B := c.B) (boy := j) (hbo j x hget) with ⟨ht, hf⟩ | ⟨ht, k, n1, n2, n3, n4, hf⟩
      · rw [hf] at hca
        simp only [numsV, List.map_cons, List.map_nil] at hca
        have HCA := Lib.hid hca; clear hca
        have hey := eq_yes
        have HP : Hid (¬ ∀ (boy : Nat) (x : Boy), c.B.boys[boy]? = some x → c.B.truths boy x ≠ []) := Lib.hid (fun hh => hh j x hget ht)
        clear hget hbo hf ht
        go_wp2_with fail
        refine wp_region_quiet_below (by kernel_rfl) (by kernel_rfl) ?_
        repeat (any_goals (quiet_step (first | exact HCA.out _ _)))
        refine wpQuiet_nil ?_
        intro _ hw'
        obtain ⟨⟨dq, osq⟩, hw''⟩ := hw'
        subst hw''
        have hkq := kept_trans hkV (below_regrown wr dq osq)
        clear d0 d1 d2 d3 g0 g1 g2 g3 g4
        go_wp2_with fail
        go_ret
        exact ⟨false, (show CanP _ _ from ⟨(fun h => by cases h), (fun h => absurd h HP.out)⟩), rfl, hkq⟩
      · rw [hf] at hca
        simp only [numsV, List.map_cons, List.map_nil] at hca
        have HCA := Lib.hid hca; clear hca
        have HNEW : Hid (∀ (boy : Nat) (x : Boy), boy < j + 1 → c.B.boys[boy]? = some x → c.B.truths boy x ≠ []) := Lib.hid (by
          intro boy y hb hg2
          by_cases e : boy = j
          · subst e; rw [hget] at hg2; cases hg2; exact ht
          · exact HNO.out boy y (by omega) hg2)
        clear hget hbo hf ht
        go_wp2_with fail
        refine wp_region_quiet_below (by kernel_rfl) (by kernel_rfl) ?_
        repeat (any_goals (quiet_step (first | exact HCA.out _ _)))
        refine wpQuiet_nil ?_
        intro _ hw'
        obtain ⟨⟨dq, osq⟩, hw''⟩ := hw'
        subst hw''
        have hkq := kept_trans hV (below_regrown wr dq osq)
        clear d0 d1 d2 d3 g0 g1 g2 g3 g4
        go_wp2_with fail
        go_roundw
        case rel => exact ⟨j + 1, by omega, by go_num, HNEW.out, hkq⟩
        case measure => simp [intOf]; omega
    · have hltI : ¬ (j : Int) < c.B.boys.length := by omega
      go_wp2_with fail
      go_ret
      exact ⟨true, (show CanP _ _ from ⟨(fun _ boy x hx => HNO.out boy x (by have := (List.getElem?_eq_some_iff.1 hx).1; omega) hx), (fun _ => rfl)⟩), rfl, hkV⟩
end Go.Proofs.YthgfbokfaidklaaGreatDoor
set_option linter.all false
namespace Go.Proofs.YthgfbokfaidklaaGreatDoor
open Go.RowKit Go.Sort Go.Rg
set_option maxRecDepth 100000

def zeroChoir : Value := .agg #[.slice none 0 0, .int .i64 0, .slice none 0 0, .map none]
def Can (B : Book) : Prop := ∀ (boy : Nat) (x : Boy), B.boys[boy]? = some x → B.truths boy x ≠ []
def OpenP (B : Book) (asked : Bool) (n0 : Nat) (W : World) (e : Ending) (C : World) : Prop :=
  ∃ v err, e = .returned (.tuple #[v, .int .i64 err]) ∧ Kept W C ∧
    ((err = 0 ∧ B.okB = true ∧ asked = true ∧ Can B ∧ ∃ c : Choir, c.B = B ∧ v = c.val ∧ ChoirAt (fun b => b < C.heap.size ∧ (b < n0 ∨ W.heap.size ≤ b)) C c) ∨
     (v = zeroChoir ∧ ((err = 20 ∧ B.okB = false) ∨ (err = 21 ∧ B.okB = true ∧ asked = false) ∨ (err = 22 ∧ B.okB = true ∧ asked = true ∧ ¬ Can B))))
def Book.val (B : Book) (p q : Option Addr) (cap capt : Nat) : Value := .agg #[.slice p B.boys.length cap, .int .i64 B.weeks, .slice q B.trials.length capt]

end Go.Proofs.YthgfbokfaidklaaGreatDoor
