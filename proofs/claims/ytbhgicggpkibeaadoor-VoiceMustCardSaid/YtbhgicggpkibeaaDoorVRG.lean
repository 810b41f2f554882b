/- Ranges over a function: an iterator's contract by turned blocks, and the law for its caller. No conditions. -/
import Derived.RangeFuncNested
import Derived.RangeFuncCalls
import Derived.RangeFuncLeaves
import Derived.WalkKit
set_option linter.all false
set_option linter.all false
namespace Go.Rg
open Go Go.RowKit

/-- From A to B blocks are made, and of those that were there only blocks of T turn. -/
structure Turns (T : Nat → Prop) (A B : World) : Prop where
  os : B.os = A.os
  tape : B.tape = A.tape
  output : B.output = A.output
  size : A.heap.size ≤ B.heap.size
  block : ∀ b, b < A.heap.size → ¬ T b → B.heap[b]? = A.heap[b]?

/-- T' is T and blocks that are made from n on. -/
structure Ext (n : Nat) (T T' : Nat → Prop) : Prop where
  up : ∀ b, T b → T' b
  out : ∀ b, T' b → T b ∨ n ≤ b
theorem Ext.refl (n : Nat) (T : Nat → Prop) : Ext n T T := ⟨fun _ h => h, fun _ h => .inl h⟩
theorem Ext.trans {n m : Nat} {T T' T'' : Nat → Prop} (h : Ext n T T') (k : Ext m T' T'') (hm : n ≤ m) : Ext n T T'' := ⟨fun b hb => k.up b (h.up b hb), fun b hb => by
  rcases k.out b hb with h1 | h1
  · exact h.out b h1
  · exact .inr (by omega)⟩
theorem Ext.less {n m : Nat} {T T' : Nat → Prop} (h : Ext m T T') (hm : n ≤ m) : Ext n T T' := ⟨h.up, fun b hb => (h.out b hb).imp id fun h => by omega⟩
theorem Turns.refl (T : Nat → Prop) (A : World) : Turns T A A := ⟨rfl, rfl, rfl, Nat.le_refl _, fun _ _ _ => rfl⟩
theorem Turns.trans {T T' : Nat → Prop} {A B C : World} (h : Turns T A B) (e : Ext A.heap.size T T') (k : Turns T' B C) : Turns T A C :=
  ⟨k.os.trans h.os, k.tape.trans h.tape, k.output.trans h.output, Nat.le_trans h.size k.size, fun b hb hn =>
    (k.block b (Nat.lt_of_lt_of_le hb h.size) fun hb' => by rcases e.out b hb' with h1 | h1; exact hn h1; omega).trans (h.block b hb hn)⟩
theorem Turns.mono {T T' : Nat → Prop} {A B : World} (h : Turns T A B) (e : ∀ b, b < A.heap.size → T b → T' b) : Turns T' A B :=
  ⟨h.os, h.tape, h.output, h.size, fun b hb hn => h.block b hb fun ht => hn (e b hb ht)⟩
theorem Turns.alloc {T : Nat → Prop} {A B : World} (h : Turns T A B) (o : Obj) : Turns T A (B.alloc o) :=
  ⟨h.os, h.tape, h.output, Nat.le_trans h.size (by simp), fun b hb hn => (Below.heap_alloc B o b (Nat.lt_of_lt_of_le hb h.size)).trans (h.block b hb hn)⟩
theorem Turns.drew {T : Nat → Prop} {A B : World} (h : Turns T A B) : Turns T A B.drew := ⟨h.os, h.tape, h.output, h.size, h.block⟩
theorem Turns.putObj {T : Nat → Prop} {A B : World} (h : Turns T A B) {l : Nat} (hl : T l ∨ A.heap.size ≤ l) (o : Obj) : Turns T A (B.putObj l o) :=
  ⟨h.os, h.tape, h.output, by simpa using h.size, fun b hb hn => (World.putObj_heap_other (r := l) (k := b) (by rintro rfl; rcases hl with h | h; exact hn h; omega)).trans (h.block b hb hn)⟩
theorem Turns.setCell {T : Nat → Prop} {A B : World} (h : Turns T A B) {b : Nat} (hb : T b) (o : Nat) (v : Value) : Turns T A (B.setCell ⟨b, o, none⟩ v) :=
  ⟨h.os, h.tape, h.output, by simpa [World.setCell] using h.size, fun k hk hn => by
    have e : (B.setCell ⟨b, o, none⟩ v).heap[k]? = B.heap[k]? := by
      have hne : ¬ b = k := by rintro rfl; exact hn hb
      simp [World.setCell, Array.getElem?_modify, hne]
    exact e.trans (h.block k hk hn)⟩
theorem Turns.below {T : Nat → Prop} {A B : World} (h : Below A.heap.size A B) : Turns T A B :=
  ⟨h.os, h.tape, h.output, h.size, fun b hb _ => h.block b hb⟩
theorem Turns.toBelow {T : Nat → Prop} {A B : World} (h : Turns T A B) {n : Nat} (hn : ∀ b, T b → n ≤ b) (hs : n ≤ A.heap.size) : Below n A B :=
  ⟨h.os, h.tape, h.output, h.size, fun b hb => h.block b (by omega) fun ht => by have := hn b ht; omega⟩
theorem Turns.cell {T : Nat → Prop} {A B : World} (h : Turns T A B) {b o : Nat} (hb : b < A.heap.size) (hn : ¬ T b) : B.cell? ⟨b, o, none⟩ = A.cell? ⟨b, o, none⟩ := by
  have := h.block b hb hn
  simp only [World.cell?, this]
theorem Turns.frozen {T : Nat → Prop} {A B : World} (h : Turns T A B) {b o : Nat} (hb : b < A.heap.size) (hn : ¬ T b) : B.frozen? ⟨b, o, none⟩ = A.frozen? ⟨b, o, none⟩ := by
  have := h.block b hb hn
  simp only [World.frozen?, this]

/-- What the iterator does between two rounds: blocks below lo and those of T lie as they lay. -/
structure Quiet (lo : Nat) (T : Nat → Prop) (A B : World) : Prop where
  os : B.os = A.os
  tape : B.tape = A.tape
  output : B.output = A.output
  size : A.heap.size ≤ B.heap.size
  block : ∀ b, b < A.heap.size → (b < lo ∨ T b) → B.heap[b]? = A.heap[b]?
theorem Quiet.refl (lo : Nat) (T : Nat → Prop) (A : World) : Quiet lo T A A := ⟨rfl, rfl, rfl, Nat.le_refl _, fun _ _ _ => rfl⟩
theorem Quiet.trans {lo : Nat} {T : Nat → Prop} {A B C : World} (h : Quiet lo T A B) (k : Quiet lo T B C) : Quiet lo T A C :=
  ⟨k.os.trans h.os, k.tape.trans h.tape, k.output.trans h.output, Nat.le_trans h.size k.size, fun b hb hn => (k.block b (Nat.lt_of_lt_of_le hb h.size) hn).trans (h.block b hb hn)⟩
theorem Quiet.below {lo : Nat} {T : Nat → Prop} {A B : World} (h : Below A.heap.size A B) : Quiet lo T A B := ⟨h.os, h.tape, h.output, h.size, fun b hb _ => h.block b hb⟩
theorem Quiet.alloc {lo : Nat} {T : Nat → Prop} {A B : World} (h : Quiet lo T A B) (o : Obj) : Quiet lo T A (B.alloc o) :=
  ⟨h.os, h.tape, h.output, Nat.le_trans h.size (by simp), fun b hb hn => (Below.heap_alloc B o b (Nat.lt_of_lt_of_le hb h.size)).trans (h.block b hb hn)⟩
theorem Quiet.drew {lo : Nat} {T : Nat → Prop} {A B : World} (h : Quiet lo T A B) : Quiet lo T A B.drew := ⟨h.os, h.tape, h.output, h.size, h.block⟩
theorem Quiet.putObj {lo : Nat} {T : Nat → Prop} {A B : World} (h : Quiet lo T A B) {l : Nat} (hl : lo ≤ l) (hn : ¬ T l) (o : Obj) : Quiet lo T A (B.putObj l o) :=
  ⟨h.os, h.tape, h.output, by simpa using h.size, fun b hb hb' => (World.putObj_heap_other (r := l) (k := b) (by rintro rfl; rcases hb' with h | h; omega; exact hn h)).trans (h.block b hb hb')⟩
theorem Quiet.cell {lo : Nat} {T : Nat → Prop} {A B : World} (h : Quiet lo T A B) {b o : Nat} (hb : b < A.heap.size) (hn : b < lo ∨ T b) : B.cell? ⟨b, o, none⟩ = A.cell? ⟨b, o, none⟩ := by
  have := h.block b hb hn
  simp only [World.cell?, this]
theorem Quiet.frozen {lo : Nat} {T : Nat → Prop} {A B : World} (h : Quiet lo T A B) {b o : Nat} (hb : b < A.heap.size) (hn : b < lo ∨ T b) : B.frozen? ⟨b, o, none⟩ = A.frozen? ⟨b, o, none⟩ := by
  have := h.block b hb hn
  simp only [World.frozen?, this]

/-- Nothing that was there has turned. -/
def Kept' (A B : World) : Prop := Turns (fun _ => False) A B
/-- What a round hands back. -/
def RoundTold (P : Program) (l : Nat) (arg : Value) (k : Nat) (J Jx : Nat → (Nat → Prop) → World → Prop) (T' : Nat → Prop) (A : World) : Prop :=
  YieldAt Fence.wide 0 P l #[arg] A fun e B => ∃ T'', Ext A.heap.size T' T'' ∧ (∀ b, T'' b → b < B.heap.size) ∧ Turns T'' A B ∧ ((e = .returned (.bool true) ∧ J (k + 1) T'' B) ∨ (e = .returned (.bool false) ∧ Jx (k + 1) T'' B))

/-- **The contract of an iterator's function**: it hands out the elements of xs in their order. D: what it reads, in the blocks of S. -/
def Gives {α : Type} (P : Program) (g : Nat) (lb : Array Value) (enc : α → Value) (xs : List α) (S : Nat → Prop) (D : World → Prop) : Prop :=
  ∀ (l : Nat) (T : Nat → Prop) (J Jx : Nat → (Nat → Prop) → World → Prop) (V : World), (∀ b, T b → b < V.heap.size) → (∀ b, S b → b < V.heap.size ∧ ¬ T b) → D V →
    (∀ k T' A B, J k T' A → Quiet V.heap.size T' A B → J k T' B) → (∀ k T' A B, Jx k T' A → Quiet V.heap.size T' A B → Jx k T' B) →
    (∀ k x T' A, xs[k]? = some x → Ext V.heap.size T T' → (∀ b, T' b → b < A.heap.size) → Turns T V A → J k T' A → RoundTold P l (enc x) k J Jx T' A) →
    J 0 T V →
    Calls P g (#[.func (.yield l) #[] #[]] ++ lb) V fun e B => (∃ v, e = .returned v) ∧ Turns T V B ∧ ∃ T', Ext V.heap.size T T' ∧ (J xs.length T' B ∨ ∃ k, k ≤ xs.length ∧ Jx k T' B)

def rangeBody (T1 : Nat → Prop) (I : Nat → (Nat → Prop) → World → Prop) (Ix : Code → Nat → (Nat → Prop) → World → Prop) (k : Nat) (A : World) : Exit → Act → World → Prop
  | .normal, _, B => ∃ T2 : Nat → Prop, Ext A.heap.size T1 T2 ∧ (∀ b, T2 b → b < B.heap.size) ∧ Turns T2 A B ∧ I (k + 1) T2 B
  | .ret, _, B => ∃ T2 : Nat → Prop, Ext A.heap.size T1 T2 ∧ (∀ b, T2 b → b < B.heap.size) ∧ Turns T2 A B ∧ Ix .ret (k + 1) T2 B
  | .exit id, _, B => ∃ T2 : Nat → Prop, Ext A.heap.size T1 T2 ∧ (∀ b, T2 b → b < B.heap.size) ∧ Turns T2 A B ∧ Ix (.exit id) (k + 1) T2 B
  | _, _, _ => False

theorem wpIn_range {P : Program} {α : Type} {g : Operand} {ps : Array Tmp} {assign body : Code} {Q : Exit → Act → World → Prop} {a : Act} {w : World}
    {gf : Nat} {lb : Array Value} (hg : a.eval g = .func (.func gf) #[] lb) (eg : ∀ args w, (callFunc gf args).run P w = .ok (.enter gf args) w)
    {enc : α → Value} {xs : List α} {S : Nat → Prop} {D : World → Prop} (hgives : Gives P gf lb enc xs S D) (hps : ps.size = 1)
    (T : Nat → Prop) (hT : ∀ b, T b → b < w.heap.size) (hS : ∀ b, S b → b < w.heap.size ∧ ¬ T b) (hD : ∀ B, Kept' w B → D B)
    (I : Nat → (Nat → Prop) → World → Prop) (Ix : Code → Nat → (Nat → Prop) → World → Prop)
    (hI : ∀ k T' A B, I k T' A → Quiet w.heap.size T' A B → I k T' B) (hIx : ∀ c k T' A B, Ix c k T' A → Quiet w.heap.size T' A B → Ix c k T' B)
    (h0 : I 0 T w)
    (hround : ∀ l k x T' A, xs[k]? = some x → Ext w.heap.size T T' → (∀ b, T' b → b < A.heap.size) → Turns T w A → l = w.heap.size + 1 → l < A.heap.size → ¬ T' l → I k T' A →
      assign.wpIn (Fence.wide.inRound l) 0 P (Exit.then (fun a₁ A₁ => ∃ T1, Ext A.heap.size T' T1 ∧ Turns T1 A A₁ ∧
          ∀ A₂, Turns (· = l) A₁ A₂ → A₂.heap.size = A₁.heap.size → (∃ r, A₂.heap[l]? = some (.loop r)) → body.wpIn (Fence.wide.inRound l) 0 P (rangeBody T1 I Ix k A₂) a₁ A₂) (fun _ _ _ => False))
        { tmps := (ps.zip #[enc x]).foldl (fun t (p, v) => t.setIfInBounds p v) a.tmps, defers := [] } A)
    (hdone : ∀ (Db : Nat) (T' : Nat → Prop) (B : World), w.heap.size ≤ Db → ¬ T' Db → Ext w.heap.size T T' → Turns T w B → I xs.length T' B → B.heap[Db]? = some (.deferred (some [])) → Q .normal { a with defers := { target := .collected Db, args := #[] } :: a.defers } B)
    (hstop : ∀ (Db : Nat) (c : Code) (k : Nat) (T' : Nat → Prop) (B : World), w.heap.size ≤ Db → ¬ T' Db → Ext w.heap.size T T' → Turns T w B → k ≤ xs.length → Ix c k T' B → B.heap[Db]? = some (.deferred (some [])) → c.wpIn Fence.wide 0 P Q { a with defers := { target := .collected Db, args := #[] } :: a.defers } B) :
    (Code.rangeFunc g ps assign body).wpIn Fence.wide 0 P Q a w := by
  refine wpIn_rangeFunc ?_
  intro fn hfn
  obtain ⟨rec, hrec⟩ : ∃ rec : LoopState → Option Code → Loop, rec = fun st pe => { state := st, pending := pe, fn, tmps := a.tmps, params := ps, assign, body, defers := w.heap.size } := ⟨_, rfl⟩
  obtain ⟨W1, hW1⟩ : ∃ W1, (w.alloc (.deferred (some []))).alloc (.loop (rec .ready none)) = W1 := ⟨_, rfl⟩
  have hs1 : W1.heap.size = w.heap.size + 2 := by rw [← hW1]; simp
  have hL1 : W1.heap[w.heap.size + 1]? = some (.loop (rec .ready none)) := by
    rw [← hW1]; have := World.alloc_heap_new (w.alloc (.deferred (some []))) (.loop (rec .ready none)); rwa [World.size_alloc] at this
  have hK1 : W1.heap[w.heap.size]? = some (.deferred (some [])) := by
    rw [← hW1]; exact (Below.heap_alloc _ _ _ (by simp)).trans (World.alloc_heap_new w _)
  have hw1 : ∀ T, Turns T w W1 := fun T => by rw [← hW1]; exact ((Turns.refl _ w).alloc _).alloc _
  have hq1 : ∀ T, Quiet w.heap.size T w W1 := fun T => by rw [← hW1]; exact ((Quiet.refl _ _ w).alloc _).alloc _
  refine ⟨w.heap.size + 1, [{ target := .collected w.heap.size, args := #[] }], W1, { target := .fn (.func gf) lb, args := #[.func (.yield (w.heap.size + 1)) #[] #[]] }, W1, gf,
    #[.func (.yield (w.heap.size + 1)) #[] #[]] ++ lb, W1, ?_, ?_, ?_, ?_, (by intro h; simp [Fence.wide] at h), ?_⟩
  · rw [← hW1, hrec]; exact run_enterLoop_outer _ _ _ _ _
  · simp only [resolve, hg]
    simp [go_sem]
  · intro f' hf'; trivial
  · simp [invoke, go_sem, eg]
  refine callsIn_wide.2 ?_
  -- what the law's own books say
  let BK : (Nat → Prop) → (Nat → Prop) → LoopState → Option Code → World → Prop := fun T0 T' st pe A =>
    (∀ b, T' b ↔ T0 b ∨ b = w.heap.size + 1) ∧ ¬ T0 (w.heap.size + 1) ∧ ¬ T0 w.heap.size ∧ Ext w.heap.size T T0 ∧ Turns T w A ∧ A.heap[w.heap.size + 1]? = some (.loop (rec st pe)) ∧ A.heap[w.heap.size]? = some (.deferred (some []))
  have hBK : ∀ T0 T' st pe A B, BK T0 T' st pe A → Quiet W1.heap.size T' A B → BK T0 T' st pe B := by
    rintro T0 T' st pe A B ⟨h1, h2, h3, h4, h5, h6, h7⟩ hq
    have hlt1 := (Array.getElem?_eq_some_iff.1 h6).1
    have hlt2 := (Array.getElem?_eq_some_iff.1 h7).1
    refine ⟨h1, h2, h3, h4, ?_, (hq.block _ hlt1 (.inl (by omega))).trans h6, (hq.block _ hlt2 (.inl (by omega))).trans h7⟩
    exact ⟨hq.os.trans h5.os, hq.tape.trans h5.tape, hq.output.trans h5.output, Nat.le_trans h5.size hq.size, fun b hb hn => (hq.block b (Nat.lt_of_lt_of_le hb h5.size) (.inl (by omega))).trans (h5.block b hb hn)⟩
  have weak : ∀ {T0 T' : Nat → Prop} {A B : World}, (∀ b, T' b ↔ T0 b ∨ b = w.heap.size + 1) → Quiet W1.heap.size T' A B → Quiet w.heap.size T0 A B := fun h1 hq =>
    ⟨hq.os, hq.tape, hq.output, hq.size, fun b hb h => hq.block b hb (h.elim (fun h => .inl (by omega)) fun h => .inr ((h1 b).2 (.inl h)))⟩
  have key := hgives (w.heap.size + 1) (fun b => T b ∨ b = w.heap.size + 1)
    (fun k T' A => ∃ T0, BK T0 T' .ready none A ∧ I k T0 A)
    (fun k T' A => ∃ T0 c, BK T0 T' .done (some c) A ∧ Ix c k T0 A) W1
    (by rintro b (h | rfl); have := hT b h; omega; omega)
    (fun b hb => ⟨by have := (hS b hb).1; omega, by rintro (h | h); exact (hS b hb).2 h; have := (hS b hb).1; omega⟩)
    (hD _ (hw1 _))
    (fun k T' A B ⟨T0, hb, hi⟩ hq => ⟨T0, hBK _ _ _ _ _ _ hb hq, hI _ _ _ _ hi (weak hb.1 hq)⟩)
    (fun k T' A B ⟨T0, c, hb, hi⟩ hq => ⟨T0, c, hBK _ _ _ _ _ _ hb hq, hIx _ _ _ _ _ hi (weak hb.1 hq)⟩)
    ?_ ⟨T, ⟨fun b => Iff.rfl, fun h => by have := hT _ h; omega, fun h => by have := hT _ h; omega, Ext.refl _ _, hw1 T, hL1, hK1⟩, hI _ _ _ _ h0 (hq1 T)⟩
  · refine key.mono ?_
    rintro e W2 ⟨⟨v, rfl⟩, hT2, T', hE', (⟨T0, ⟨b1, b2, b3, b4, b5, b6, b7⟩, hi⟩ | ⟨k, hk, T0, c, ⟨b1, b2, b3, b4, b5, b6, b7⟩, hi⟩)⟩
    · refine ⟨none, _, by have := run_endLoop (P := P) b6 (by rw [hrec]; simp); rw [hrec] at this; exact this, ?_⟩
      refine hdone _ T0 _ (Nat.le_refl _) b3 b4 (b5.putObj (.inr (by omega)) _) (hI _ _ _ _ hi ((Quiet.refl _ _ _).putObj (by omega) b2 _)) ((World.putObj_heap_other (by omega)).trans b7)
    · refine ⟨some c, _, by have := run_endLoop (P := P) b6 (by rw [hrec]; simp); rw [hrec] at this; exact this, ?_⟩
      refine hstop _ c k T0 _ (Nat.le_refl _) b3 b4 (b5.putObj (.inr (by omega)) _) hk (hIx _ _ _ _ _ hi ((Quiet.refl _ _ _).putObj (by omega) b2 _)) ((World.putObj_heap_other (by omega)).trans b7)
  · rintro k x T' A hx hE hTs hTA ⟨T0, ⟨b1, b2, b3, b4, b5, b6, b7⟩, hi⟩
    have hlt : w.heap.size + 1 < A.heap.size := (Array.getElem?_eq_some_iff.1 b6).1
    have hy := run_yield (P := P) (args := #[enc x]) b6 (by rw [hrec]; simp [hps])
    rw [hrec] at hy
    refine ⟨fn, _, assign, body, hy, roundIn_of_wpIn hfn (wpIn_mono (hround _ k x T0 A hx b4 (fun b hb => hTs b ((b1 b).2 (.inl hb))) b5 rfl hlt b2 hi) ?_)⟩
    clear hy
    rintro e a1 A1 hp
    cases e <;> try exact hp.elim
    obtain ⟨T1, hE1, hT1, hb⟩ := hp
    have n1 : ∀ {T2 : Nat → Prop} {B : World}, Ext A.heap.size T0 T2 → A.heap.size ≤ B.heap.size → ¬ T2 (w.heap.size + 1) ∧ ¬ T2 w.heap.size := fun h _ =>
      ⟨fun hh => by rcases h.out _ hh with h1 | h1; exact b2 h1; omega, fun hh => by rcases h.out _ hh with h1 | h1; exact b3 h1; omega⟩
    obtain ⟨n1a, n1b⟩ := n1 hE1 hT1.size
    have l1 := (hT1.block _ hlt n1a).trans b6
    have d1 := (hT1.block _ (by omega) n1b).trans b7
    have hlt1 := (Array.getElem?_eq_some_iff.1 l1).1
    refine ⟨_, run_beginRound l1 (by rw [hrec]), ?_⟩
    have l2 : (A1.putObj (w.heap.size + 1) (.loop { rec .ready none with state := .busy })).heap[w.heap.size + 1]? = some (.loop { rec .ready none with state := .busy }) := World.putObj_heap_same hlt1
    have d2 : (A1.putObj (w.heap.size + 1) (.loop { rec .ready none with state := .busy })).heap[w.heap.size]? = some (.deferred (some [])) := (World.putObj_heap_other (by omega)).trans d1
    have t2 : Turns (· = w.heap.size + 1) A1 (A1.putObj (w.heap.size + 1) (.loop { rec .ready none with state := .busy })) := Turns.putObj (T := fun x => x = w.heap.size + 1) (Turns.refl _ _) (.inl rfl) _
    have s2 : (A1.putObj (w.heap.size + 1) (.loop { rec .ready none with state := .busy })).heap.size = A1.heap.size := by simp
    refine wpIn_mono (hb _ t2 s2 ⟨_, l2⟩) ?_
    generalize A1.putObj (w.heap.size + 1) (.loop { rec .ready none with state := .busy }) = A2 at *
    have fin : ∀ (jump : Option Code) (T2 : Nat → Prop) (B : World), Ext A2.heap.size T1 T2 → Turns T2 A2 B →
        (Instr.endRound (w.heap.size + 1) jump).run P B = .ok (.bool jump.isNone) (B.putObj (w.heap.size + 1) (.loop (rec (if jump.isNone then .ready else .done) jump))) ∧
        BK T2 (fun b => T2 b ∨ b = w.heap.size + 1) (if jump.isNone then .ready else .done) jump (B.putObj (w.heap.size + 1) (.loop (rec (if jump.isNone then .ready else .done) jump))) ∧
        Ext A.heap.size T' (fun b => T2 b ∨ b = w.heap.size + 1) ∧ Turns (fun b => T2 b ∨ b = w.heap.size + 1) A (B.putObj (w.heap.size + 1) (.loop (rec (if jump.isNone then .ready else .done) jump))) ∧
        Quiet w.heap.size T2 B (B.putObj (w.heap.size + 1) (.loop (rec (if jump.isNone then .ready else .done) jump))) := fun jump T2 B hE2 hT2 => by
      have hA12 : A.heap.size ≤ A2.heap.size := by have := hT1.size; omega
      have hE02 : Ext A.heap.size T0 T2 := hE1.trans hE2 hA12
      obtain ⟨n2a, n2b⟩ := n1 (B := A) hE02 (Nat.le_refl _)
      have hl3 := (hT2.block _ (by omega) n2a).trans l2
      have hd3 := (hT2.block _ (by omega) n2b).trans d2
      have h := run_endRound (P := P) jump hl3
      have u1 : Turns (fun b => T2 b ∨ b = w.heap.size + 1) A A2 := (hT1.mono fun _ _ h => .inl (hE2.up _ h)).trans (Ext.refl _ _) (t2.mono fun _ _ h => .inr h)
      have hTA2 : Turns (fun b => T2 b ∨ b = w.heap.size + 1) A B := u1.trans (Ext.refl _ _) (hT2.mono fun _ _ h => .inl h)
      have hTw : Turns T w B := b5.trans (T' := fun b => T2 b ∨ b = w.heap.size + 1) ⟨fun b hb => .inl (hE02.up _ (b4.up _ hb)), fun b hb => by
        rcases hb with hb | rfl
        · rcases hE02.out b hb with h1 | h1
          · exact b4.out b h1
          · exact .inr (Nat.le_trans b5.size h1)
        · exact .inr (by omega)⟩ hTA2
      have hlB := (Array.getElem?_eq_some_iff.1 hl3).1
      refine ⟨?_, ⟨fun b => Iff.rfl, n2a, n2b, ?_, hTw.putObj (.inr (by omega)) _, World.putObj_heap_same hlB, (World.putObj_heap_other (by omega)).trans hd3⟩, ?_, hTA2.putObj (.inl (.inr rfl)) _, (Quiet.refl _ _ _).putObj (by omega) n2a _⟩
      · rw [hrec] at h ⊢; exact h
      · exact b4.trans hE02 b5.size
      · refine ⟨fun b hb => ?_, ?_⟩
        · rcases (b1 b).1 hb with h | h
          · exact .inl (hE02.up _ h)
          · exact .inr h
        · rintro b (hb | rfl)
          · rcases hE02.out b hb with h1 | h1
            · exact .inl ((b1 b).2 (.inl h1))
            · exact .inr h1
          · exact .inl ((b1 _).2 (.inr rfl))
    have zz : ∀ {T2 : Nat → Prop} {B : World} {o : Obj}, Turns T2 A2 B → (∀ b, T2 b → b < B.heap.size) → ∀ b, (T2 b ∨ b = w.heap.size + 1) → b < (B.putObj (w.heap.size + 1) o).heap.size := fun {T2 B o} h1 h2 b hb => by
      have := h1.size; have := hT1.size
      rw [World.putObj_size]
      rcases hb with hb | rfl
      · exact h2 b hb
      · omega
    rintro e a3 B hp
    cases e with
    | normal =>
      obtain ⟨T2, hE2, hz2, hT2, hi2⟩ := hp
      obtain ⟨hr, hbk, hx2, ht2, hq2⟩ := fin none T2 B hE2 hT2
      exact ⟨_, _, hr, _, hx2, zz hT2 hz2, ht2, .inl ⟨rfl, T2, hbk, hI _ _ _ _ hi2 hq2⟩⟩
    | ret =>
      obtain ⟨T2, hE2, hz2, hT2, hi2⟩ := hp
      obtain ⟨hr, hbk, hx2, ht2, hq2⟩ := fin (some .ret) T2 B hE2 hT2
      exact ⟨_, _, hr, _, hx2, zz hT2 hz2, ht2, .inr ⟨rfl, T2, _, hbk, hIx _ _ _ _ _ hi2 hq2⟩⟩
    | exit id =>
      obtain ⟨T2, hE2, hz2, hT2, hi2⟩ := hp
      obtain ⟨hr, hbk, hx2, ht2, hq2⟩ := fin (some (.exit id)) T2 B hE2 hT2
      exact ⟨_, _, hr, _, hx2, zz hT2 hz2, ht2, .inr ⟨rfl, T2, _, hbk, hIx _ _ _ _ _ hi2 hq2⟩⟩
    | goto t => exact hp.elim
    | panic ch => exact hp.elim
    | outgrown => exact hp.elim
end Go.Rg
