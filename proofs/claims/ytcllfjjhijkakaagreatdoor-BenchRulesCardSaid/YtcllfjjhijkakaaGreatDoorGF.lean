/- slices.Repeat of a place, one to three times: the evaluator's runs over two numbers that are not known. No conditions. -/
import Derived.Test.YtcllfjjhijkakaaGreatDoorGD
import Derived.Test.YtcllfjjhijkakaaGreatDoorGE
import Derived.Test.YtcllfjjhijkakaaGreatDoorST
import Derived.Test.YtcllfjjhijkakaaGreatDoorCards
import Derived.Test.YtcllfjjhijkakaaGreatDoorTie
import Derived.WalkKit
import Derived.ProofKit
import Derived.OpenShut
import Derived.LaidMore
import Derived.Lib.LaidTab
import Derived.Stop.Joined
import Derived.Carry
import Derived.SizedLaws
import Derived.Deep.Slices
import Derived.Deep.Strs
import Derived.Test.YtcllfjjhijkakaaGreatDoorSZ
import Derived.Test.YtcllfjjhijkakaaGreatDoorAiL
import Derived.OwnWalkIn
import Derived.Test.YtcllfjjhijkakaaGreatDoorGC
set_option linter.all false
namespace Go.Proofs.YtcllfjjhijkakaaGreatDoor
open Go.RowKit Go.Sort Go.Rg
set_option maxRecDepth 100000
def Own (P : World → Prop) (p : Nat) (boxed : Bool) (C : World) : Prop :=
 ∃ S : Nat → Prop, (∀ b, S b → b < C.heap.size) ∧ (boxed = true → ¬ S p) ∧ ∀ D U, Turns U C D → (∀ b, S b → ¬ U b) → P D
theorem Own.here {P : World → Prop} {p : Nat} {o : Bool} {C : World} (h : Own P p o C) : P C := by
 obtain ⟨S, _, _, h3⟩ := h
 exact h3 C (fun _ => False) (Turns.refl _ _) (fun _ _ h => h)
theorem Own.turns {P : World → Prop} {p : Nat} {o : Bool} {C D : World} {U : Nat → Prop} (h : Own P p o C) (k : Turns U C D) (hu : ∀ S : Nat → Prop, (o = true → ¬ S p) → (∀ b, S b → b < C.heap.size) → ∀ b, S b → ¬ U b) : Own P p o D := by
 obtain ⟨S, h1, h2, h3⟩ := h
 refine ⟨S, fun b hb => Nat.lt_of_lt_of_le (h1 b hb) k.size, h2, fun E U' k' hu' => h3 E (fun b => U b ∨ U' b) ⟨k'.os.trans k.os, k'.tape.trans k.tape, k'.output.trans k.output, Nat.le_trans k.size k'.size, fun i hi hne => ?_⟩ (fun b hb => fun e => e.elim (hu S h2 h1 b hb) (hu' b hb))⟩
 exact (k'.block i (Nat.lt_of_lt_of_le hi k.size) (fun e => hne (.inr e))).trans (k.block i hi (fun e => hne (.inl e)))
def setAll : World → Nat → Nat → List Value → World
 | w, _, _, [] => w
 | w, p, i, x :: xs => setAll (w.setCell ⟨p, i, none⟩ x) p (i + 1) xs
theorem setAll_turns : ∀ (xs : List Value) (w : World) (p i : Nat), Turns (fun b => b = p) w (setAll w p i xs)
 | [], w, p, i => Turns.refl _ _
 | x :: xs, w, p, i => ((Turns.refl (fun b => b = p) w).setCell rfl _ _).trans (Ext.refl _ _) (setAll_turns xs (w.setCell ⟨p, i, none⟩ x) p (i + 1))
theorem setAll_frozen : ∀ (xs : List Value) (w : World) (p i : Nat) (a : Addr), (setAll w p i xs).frozen? a = w.frozen? a
 | [], w, p, i, a => rfl
 | x :: xs, w, p, i, a => (setAll_frozen xs _ p (i + 1) a).trans (World.frozen?_setCell _ _ _ _)
theorem setAll_below : ∀ (xs : List Value) (w : World) (p i j : Nat), j < i → (setAll w p i xs).cell? ⟨p, j, none⟩ = w.cell? ⟨p, j, none⟩
 | [], w, p, i, j, h => rfl
 | x :: xs, w, p, i, j, h => (setAll_below xs _ p (i + 1) j (by omega)).trans (cell_set_ne (by omega))
theorem setAll_cell : ∀ (xs : List Value) (w : World) (p i : Nat), (∀ j, j < xs.length → ∃ f, w.cell? ⟨p, i + j, none⟩ = some f) → ∀ (j : Nat) (x : Value), xs[j]? = some x → (setAll w p i xs).cell? ⟨p, i + j, none⟩ = some x
 | [], w, p, i, h, j, x, hx => by simp at hx
 | y :: xs, w, p, i, h, j, x, hx => by
  have h0 := h 0 (by simp)
  obtain ⟨f, hf⟩ := h0
  match j, hx with
  | 0, hx =>
   simp at hx; subst hx
   exact (setAll_below xs _ p (i + 1) (i + 0) (by omega)).trans (cell_set_eq hf)
  | j + 1, hx =>
   simp at hx
   have := setAll_cell xs (w.setCell ⟨p, i, none⟩ y) p (i + 1) (fun j' hj' => by
    obtain ⟨f', hf'⟩ := h (j' + 1) (by simp; omega)
    refine ⟨f', (cell_set_ne (by omega)).trans ?_⟩
    rw [show i + 1 + j' = i + (j' + 1) by omega]; exact hf') j x hx
   rw [show i + (j + 1) = i + 1 + j by omega]
   exact this
structure OReg (W0 : World) (zs : List Value) (P : Value → Int → World → Prop) (v : Value) (err : Int) (p : Nat) (o4 o8 o9 : Bool) (w : World) : Prop where
 kept : Kept W0 w
 box : o8 = true → W0.heap.size ≤ p ∧ p < w.heap.size ∧ (∀ i, i < zs.length → ∃ f, w.cell? ⟨p, i, none⟩ = some f) ∧ ∀ i, w.frozen? ⟨p, i, none⟩ = false
 res : o4 = true → Own (P v err) p o8 w
 put : o9 = true → o8 = true ∧ ∃ xs : List Value, v = .agg xs.toArray ∧ xs.length = zs.length ∧ ∀ i x, xs[i]? = some x → w.cell? ⟨p, i, none⟩ = some x
section
variable {W0 : World} {zs : List Value} {P : Value → Int → World → Prop} {v : Value} {err : Int} {p : Nat} {o4 o8 o9 : Bool} {w w' : World}
theorem OReg.go (h : OReg W0 zs P v err p o4 o8 o9 w) (k : Kept w w') : OReg W0 zs P v err p o4 o8 o9 w' where
 kept := kept_trans h.kept k
 box := fun e => by
  obtain ⟨h1, h2, h3, h4⟩ := h.box e
  exact ⟨h1, Nat.lt_of_lt_of_le h2 k.size, fun i hi => (h3 i hi).imp fun f hf => kcell k hf, fun i => ((kturns k (fun _ => False)).frozen h2 (fun h => h)).trans (h4 i)⟩
 res := fun e => (h.res e).turns (kturns k (fun _ => False)) (fun _ _ _ _ _ h => h)
 put := fun e => by
  obtain ⟨h0, xs, e1, e2, a⟩ := h.put e
  exact ⟨h0, xs, e1, e2, fun i x hx => kcell k (a i x hx)⟩
theorem OReg.opened (h : OReg W0 zs P v err p o4 o8 o9 w) (h9 : o9 = false) {v' : Value} {err' : Int} (k : Kept w w') (n0 : Nat) (hn : n0 ≤ W0.heap.size)
  (hP : ∀ D U, Turns U w' D → (∀ b, b < w'.heap.size → (b < n0 ∨ w.heap.size ≤ b) → ¬ U b) → P v' err' D) : OReg W0 zs P v' err' p true o8 o9 w' := by
 have hb := (h.go k).box
 refine ⟨kept_trans h.kept k, hb, fun _ => ⟨fun b => b < w'.heap.size ∧ (b < n0 ∨ w.heap.size ≤ b), fun b hb => hb.1, fun e hS => ?_, fun D U kU hU => hP D U kU (fun b h1 h2 => hU b ⟨h1, h2⟩)⟩, fun e => by rw [h9] at e; cases e⟩
 obtain ⟨b1, b2, _⟩ := h.box e
 have := hS.2
 omega
theorem OReg.boxed (h : OReg W0 zs P v err p o4 false o9 w) (h9 : o9 = false) (T : TypeId) :
  OReg W0 zs P v err w.heap.size o4 true o9 (w.alloc (Obj.cells zs.toArray T)) := by
 have k : Kept w (w.alloc (Obj.cells zs.toArray T)) := kept_alloc (kept_refl _) _
 refine ⟨kept_trans h.kept k, fun _ => ⟨h.kept.size, by simp, fun i hi => ⟨zs[i], ?_⟩, fun i => by go_simp⟩, fun e4 => ?_, fun e => by rw [h9] at e; cases e⟩
 ·have := World.news_of_block (World.alloc_heap_new w (Obj.cells zs.toArray T)) i zs[i] (by simp)
  have e : (⟨w.heap.size, 0, none⟩ : Addr).add i = ⟨w.heap.size, i, none⟩ := by
   unfold Addr.add
   split
   ·rename_i h0; rw [h0]
   ·simp
  rw [← e]; exact this
 ·obtain ⟨S, h1, h2, h3⟩ := h.res e4
  refine ⟨S, fun b hb => Nat.lt_of_lt_of_le (h1 b hb) k.size, fun _ hS => by have := h1 _ hS; omega, fun D U kU hU => ?_⟩
  have := (Own.turns (P := P v err) (p := p) (o := false) ⟨S, h1, h2, h3⟩ (kturns k (fun _ => False)) (fun _ _ _ _ _ h => h))
  exact h3 D U ⟨kU.os.trans k.os, kU.tape.trans k.tape, kU.output.trans k.output, Nat.le_trans k.size kU.size, fun i hi hne => (kU.block i (Nat.lt_of_lt_of_le hi k.size) hne).trans (k.block i hi)⟩ hU
theorem OReg.stored {xs : List Value} (h : OReg W0 zs P v err p o4 true false w) (hv : v = .agg xs.toArray) (hl : xs.length = zs.length) :
  OReg W0 zs P v err p o4 true true (setAll w p 0 xs) := by
 obtain ⟨hb, hz, hc, hf⟩ := h.box rfl
 have hT := setAll_turns xs w p 0
 have cells : ∀ i x, xs[i]? = some x → (setAll w p 0 xs).cell? ⟨p, i, none⟩ = some x := fun i x hx => by
  have := setAll_cell xs w p 0 (fun j hj => by simpa using hc j (by omega)) i x hx
  simpa using this
 refine ⟨Below.trans h.kept (hT.toBelow (n := W0.heap.size) (by rintro b rfl; exact hb) h.kept.size), fun _ => ⟨hb, Nat.lt_of_lt_of_le hz hT.size, fun i hi => ⟨xs[i]'(by omega), cells i _ (List.getElem?_eq_getElem (by omega))⟩, fun i => (setAll_frozen xs w p 0 _).trans (hf i)⟩, fun e4 => ?_, fun _ => ⟨rfl, xs, hv, hl, cells⟩⟩
 exact (h.res e4).turns hT (fun S h1 _ b hb e => h1 rfl (e ▸ hb))
theorem OReg.start (W0 : World) (zs : List Value) (P : Value → Int → World → Prop) : OReg W0 zs P undef 0 0 false false false W0.drew :=
 ⟨kept_drew (kept_refl _), (fun e => nomatch e), (fun e => nomatch e), (fun e => nomatch e)⟩
end
def StP (O : Nat) (pre : Nat → Value) (W0 : World) (zs : List Value) (P : Value → Int → World → Prop) (l : List Oper) (a0 : Act) (listed : Array Bool) (a : Act) (w : World) : Prop :=
 ∃ v err p, AtSt l.toArray (openVs O pre v err p) a0 listed a ∧ OReg W0 zs P v err p (on listed O) (on listed (O + 4)) (on listed (O + 5)) w
section
variable {l : List Oper} {a0 a : Act} {O : Nat} {pre : Nat → Value} {W0 w w' : World} {zs : List Value} {P : Value → Int → World → Prop} {listed : Array Bool} {v : Value} {err : Int} {p i : Nat} {o : Oper}
theorem StP.start : StP O pre W0 zs P l a0 (Array.replicate l.length false) a0 W0.drew := by
 have no : ∀ j, on (Array.replicate l.length false) j = false := fun j => by
  unfold on
  simp only [Array.getD_eq_getD_getElem?, Array.getElem?_replicate]
  split <;> simp
 refine ⟨undef, 0, 0, ⟨rfl, rfl, fun j o d hj => ?_, fun t _ => rfl⟩, by rw [no, no, no]; exact OReg.start W0 zs P⟩
 have := no j
 unfold on at this
 rw [this] at hj; cases hj
theorem StP.same (hd : distFrom l = true) (ha : AtSt l.toArray (openVs O pre v err p) a0 listed a) (hw : OReg W0 zs P v err p (on listed O) (on listed (O + 4)) (on listed (O + 5)) w) (ho : l[i]? = some o) (h1 : listed.getD i true = false)
  (i4 : i ≠ O) (i8 : i ≠ O + 4) (i9 : i ≠ O + 5) (k : Kept w w') : StP O pre W0 zs P l a0 (listed.setIfInBounds i true) (a.put o.dst (openVs O pre v err p i)) w' :=
 ⟨v, err, p, ha.put (by simpa using ho) h1 (dist_arr hd), by rw [on_set (Ne.symm i4), on_set (Ne.symm i8), on_set (Ne.symm i9)]; exact hw.go k⟩
theorem StP.opened (hd : distFrom l = true) (ha : AtSt l.toArray (openVs O pre v err p) a0 listed a) (hl : listed.size = l.length) (ho : l[O]? = some o) (h1 : listed.getD O true = false)
  (h5 : on listed (O + 1) = false) (h6 : on listed (O + 2) = false) (h7 : on listed (O + 3) = false) (h9 : on listed (O + 5) = false) (h10 : on listed (O + 6) = false) {v' : Value} {err' : Int} (hw' : OReg W0 zs P v' err' p true (on listed (O + 4)) (on listed (O + 5)) w') :
  StP O pre W0 zs P l a0 (listed.setIfInBounds O true) (a.put o.dst (.tuple #[v', .int .i64 err'])) w' := by
 have hs : ∀ j, listed.getD j false = true → openVs O pre v err p j = openVs O pre v' err' p j := fun j hj => by
  have h4 := on_no h1
  unfold on at h4 h5 h6 h7 h9 h10
  unfold openVs
  by_cases hjo : j < O
  ·rw [if_pos hjo, if_pos hjo]
  ·rw [if_neg hjo, if_neg hjo]
   obtain ⟨k, rfl⟩ : ∃ k, j = O + k := ⟨j - O, by omega⟩
   rw [Nat.add_sub_cancel_left]
   match k with
   | 0 => rw [Nat.add_zero, h4] at hj; cases hj
   | 1 => rw [h5] at hj; cases hj
   | 2 => rw [h6] at hj; cases hj
   | 3 => rw [h7] at hj; cases hj
   | 4 => rfl
   | 5 => rfl
   | 6 => rw [h10] at hj; cases hj
   | n + 7 => rfl
 have hz : O < listed.size := by rw [hl]; exact (List.getElem?_eq_some_iff.1 ho).1
 have hv : openVs O pre v' err' p O = .tuple #[v', .int .i64 err'] := by simp [openVs]
 have := (ha.swap hs).put (i := O) (by simpa using ho) h1 (dist_arr hd)
 rw [hv] at this
 exact ⟨v', err', p, this, by rw [on_self hz, on_set (by omega), on_set (by omega)]; exact hw'⟩
theorem StP.boxed (T : TypeId) (hd : distFrom l = true) (ha : AtSt l.toArray (openVs O pre v err p) a0 listed a) (hw : OReg W0 zs P v err p (on listed O) (on listed (O + 4)) (on listed (O + 5)) w) (hl : listed.size = l.length) (ho : l[O + 4]? = some o) (h1 : listed.getD (O + 4) true = false) (h9 : on listed (O + 5) = false) :
  StP O pre W0 zs P l a0 (listed.setIfInBounds (O + 4) true) (a.put o.dst (.pointer (some ⟨w.heap.size, 0, none⟩))) (w.alloc (Obj.cells zs.toArray T)) := by
 have hs : ∀ j, listed.getD j false = true → openVs O pre v err p j = openVs O pre v err w.heap.size j := fun j hj => by
  have h8 := on_no h1
  unfold on at h8
  by_cases e : j = O + 4
  ·subst e; rw [h8] at hj; cases hj
  ·unfold openVs
   by_cases hjo : j < O
   ·rw [if_pos hjo, if_pos hjo]
   ·rw [if_neg hjo, if_neg hjo]
    split <;> first | rfl | (exfalso; omega)
 have hz : O + 4 < listed.size := by rw [hl]; exact (List.getElem?_eq_some_iff.1 ho).1
 have h8 := on_no h1
 rw [h8] at hw
 have hv : openVs O pre v err w.heap.size (O + 4) = .pointer (some ⟨w.heap.size, 0, none⟩) := by
  unfold openVs
  rw [if_neg (by omega), Nat.add_sub_cancel_left]
  rfl
 have := (ha.swap hs).put (i := O + 4) (by simpa using ho) h1 (dist_arr hd)
 rw [hv] at this
 exact ⟨v, err, w.heap.size, this, by rw [on_self hz, on_set (by omega), on_set (by omega)]; exact hw.boxed h9 T⟩
theorem StP.stored (hd : distFrom l = true) (ha : AtSt l.toArray (openVs O pre v err p) a0 listed a) (hw : OReg W0 zs P v err p (on listed O) (on listed (O + 4)) (on listed (O + 5)) w) (hl : listed.size = l.length) (ho : l[O + 5]? = some o) (hno : o.dst = none) (h1 : listed.getD (O + 5) true = false) (h8 : on listed (O + 4) = true)
  {xs : List Value} (hv : v = .agg xs.toArray) (hlz : xs.length = zs.length) :
  StP O pre W0 zs P l a0 (listed.setIfInBounds (O + 5) true) a (setAll w p 0 xs) := by
 have hz : O + 5 < listed.size := by rw [hl]; exact (List.getElem?_eq_some_iff.1 ho).1
 have h9 := on_no h1
 rw [h8, h9] at hw
 have := ha.put (i := O + 5) (by simpa using ho) h1 (dist_arr hd)
 rw [hno] at this
 exact ⟨v, err, p, this, by rw [on_self hz, on_set (by omega), on_set (by omega), h8]; exact hw.stored hv hlz⟩
end
end Go.Proofs.YtcllfjjhijkakaaGreatDoor
namespace Go.Proofs.YtcllfjjhijkakaaGreatDoor
open Go.RowKit Go.Sort Go.Rg
set_option maxRecDepth 100000
attribute [local go_sem] Oper.semAt_some
def zeroL : List Value := [.slice none 0 0, .int .i64 0, .slice none 0 0, .slice none 0 0, .int .i64 0, .map none, .nilFunc]
def OpenR (X : BBook) (asked : Bool) (n0 : Nat) (v : Value) (err : Int) (C : World) : Prop :=
 (err = 0 ∧ X.okB = true ∧ asked = true ∧ Can X.B ∧ ∃ m, v = X.sval m noneOut ∧ StallsAt n0 C X m) ∨
   (v = zeroStalls ∧ ((err = 70 ∧ X.okB = false) ∨ (err = 71 ∧ X.okB = true ∧ asked = false) ∨ (err = 72 ∧ X.okB = true ∧ asked = true ∧ ¬ Can X.B)))
theorem row_turns {W C : World} {base size n : Nat} {e : TypeId} {v : Value} {xs : List Value} {U : Nat → Prop} (h : W.ownsRow base e size v n xs) (k : Turns U W C) (hu : ∀ b, base ≤ b → b < W.heap.size → ¬ U b) : C.ownsRow base e size v n xs := by
 refine ⟨h.1, h.2.imp id fun ⟨g, cap, cur, e1, e2, hg, r⟩ => ⟨g, cap, cur, e1, e2, ?_, r⟩⟩
 have hz := (Array.getElem?_eq_some_iff.1 hg).1
 exact (k.block g hz (hu g e2 hz)).trans hg
theorem Listed.turnsS {A B : World} {bm base : Nat} {l : List PSlot} {ts : List Tri} {U : Nat → Prop} (h : Listed A bm base l ts) (k : Turns U A B) (hu1 : ¬ U bm) (hu2 : ∀ b, base ≤ b → b < A.heap.size → ¬ U b) : Listed B bm base l ts :=
 { h with map := (k.block bm (Array.getElem?_eq_some_iff.1 h.map).1 hu1).trans h.map, rows := fun s hs => ⟨row_turns (h.rows s hs).1 k hu2, (h.rows s hs).2⟩ }
theorem StallsAt.turnsS {n0 m : Nat} {C D : World} {X : BBook} {U : Nat → Prop} (h : StallsAt n0 C X m) (k : Turns U C D) (hu : ∀ b, n0 ≤ b → b < C.heap.size → ¬ U b) : StallsAt n0 D X m := by
 obtain ⟨base, l, hb, hl⟩ := h.told
 exact ⟨h.lo, base, l, hb, hl.turnsS k (hu m h.lo (Array.getElem?_eq_some_iff.1 hl.map).1) (fun b h1 h2 => hu b (by omega) h2)⟩
theorem OpenR.turns {X : BBook} {asked : Bool} {n0 : Nat} {v : Value} {err : Int} {C D : World} {U : Nat → Prop} (h : OpenR X asked n0 v err C) (k : Turns U C D) (hu : ∀ b, n0 ≤ b → b < C.heap.size → ¬ U b) : OpenR X asked n0 v err D :=
 h.imp (fun ⟨h1, h2, h3, h4, m, h5, h6⟩ => ⟨h1, h2, h3, h4, m, h5, h6.turnsS k hu⟩) id
theorem OpenR.mono {X : BBook} {asked : Bool} {n0 n1 : Nat} {v : Value} {err : Int} {C : World} (h : OpenR X asked n0 v err C) (k : n1 ≤ n0) : OpenR X asked n1 v err C :=
 h.imp (fun ⟨h1, h2, h3, h4, m, h5, h6⟩ => ⟨h1, h2, h3, h4, m, h5, h6.mono k⟩) id
theorem isPiece_any (X : BBook) (n : Int) (w : World) (hnp : X.pieces.length ≤ 140737488355328) : Calls Tryz.prog 43 #[X.val, .int .i64 n] w fun e w' => e = .returned (.bool (inB n 0 (X.pieces.length - 1))) ∧ Kept w w' := by
 unfold BBook.val
 have hwr : IntKind.i64.wrap ((X.pieces.length : Int) - 1) = X.pieces.length - 1 := IntWalk.i64_in _ (by omega)
 go_enter Tryz.func43, Tryz.ntmps43
 go_wp2_with (go_at_call 56; refine (bIsIn_any _ _ _ _).mono ?_; rintro e w' ⟨rfl, rfl⟩)
 go_ret
 exact ⟨rfl, kept_alloc (kept_refl _) _⟩
theorem isPlace_true (X : BBook) (i k : Nat) (x : Piece) (w : World) (h : BBookAt w X) (hx : X.pieces[i]? = some x) (hk : k < x.parts.length) (hlp : x.parts.length ≤ 3) :
  Calls Tryz.prog 37 #[X.val, keyV i k] w fun e w' => e = .returned (.bool true) ∧ Kept w w' := by
 have hnp := h.np
 obtain ⟨b, o, hr, hbz, p0, p1, hpi⟩ := piece_cells h hx
 have hil : i < X.pieces.length := (List.getElem?_eq_some_iff.1 hx).1
 have hilI : (i : Int) < X.pieces.length := by omega
 have hi0 : (0 : Int) ≤ i := by omega
 have hwr : IntKind.i64.wrap ((x.parts.length : Int) - 1) = x.parts.length - 1 := IntWalk.i64_in _ (by omega)
 have hT1 : inB (i : Int) 0 (X.pieces.length - 1) = true := by simp [inB]; omega
 have hT2 : inB (k : Int) 0 (x.parts.length - 1) = true := by simp [inB]; omega
 have hk0 : Kept w ((w.alloc (Obj.cells #[.slice X.p X.B.boys.length X.cap, .int .i64 X.B.weeks, .slice X.q X.B.trials.length X.capt, .slice X.r X.pieces.length X.capp, .int .i64 X.most] 28)).alloc (Obj.cells #[.int .i64 (i : Int), .int .i64 (k : Int)] 86)) := kept_alloc (kept_alloc (kept_refl _) _) _
 have ZZ : ∀ Z, Z = ((w.alloc (Obj.cells #[.slice X.p X.B.boys.length X.cap, .int .i64 X.B.weeks, .slice X.q X.B.trials.length X.capt, .slice X.r X.pieces.length X.capp, .int .i64 X.most] 28)).alloc (Obj.cells #[.int .i64 (i : Int), .int .i64 (k : Int)] 86)) → Z.cell? ⟨w.heap.size, 0, none⟩ = some (.slice X.p X.B.boys.length X.cap) ∧ Z.cell? ⟨w.heap.size, 1, none⟩ = some (.int .i64 X.B.weeks) ∧ Z.cell? ⟨w.heap.size, 2, none⟩ = some (.slice X.q X.B.trials.length X.capt) ∧ Z.cell? ⟨w.heap.size, 3, none⟩ = some (.slice X.r X.pieces.length X.capp) ∧ Z.cell? ⟨w.heap.size, 4, none⟩ = some (.int .i64 X.most) ∧ Z.cell? ⟨w.heap.size + 1, 0, none⟩ = some (.int .i64 (i : Int)) ∧ Z.cell? ⟨w.heap.size + 1, 1, none⟩ = some (.int .i64 (k : Int)) := by rintro _ rfl; refine ⟨?_, ?_, ?_, ?_, ?_, ?_, ?_⟩ <;> go_simp
 obtain ⟨a0, a1, a2, a3, a4, k0, k1⟩ := ZZ _ rfl; clear ZZ
 have q1 := kcell hk0 p1
 have HP := Lib.hid (fun W => isPiece_any X (i : Int) W hnp)
 rw [hT1] at HP
 have HI := Lib.hid (fun W => bIsIn_any (k : Int) 0 (x.parts.length - 1) W)
 rw [hT2] at HI
 have HR := Lib.hid hr; clear hr p0 p1 hT1 hT2 h hpi hx
 unfold BBook.val keyV at *
 go_enter Tryz.func37, Tryz.ntmps37
 go_wp2_with fail
 generalize ((w.alloc (Obj.cells #[.slice X.p X.B.boys.length X.cap, .int .i64 X.B.weeks, .slice X.q X.B.trials.length X.capt, .slice X.r X.pieces.length X.capp, .int .i64 X.most] 28)).alloc (Obj.cells #[.int .i64 (i : Int), .int .i64 (k : Int)] 86)) = W0 at *
 have e0 := cell_regrown a0
 have e1 := cell_regrown a1
 have e2 := cell_regrown a2
 have e3 := cell_regrown a3
 have e4 := cell_regrown a4
 rw [HR.out] at e3
 have g0 := cell_regrown k0
 have g1 := cell_regrown k1
 have g2 := cell_regrown q1
 have HPW := Lib.hid (fun d os => Calls.regrown_of (HP.out (grow (redrawn W0 d) os)))
 have HIW := Lib.hid (fun d os => Calls.regrown_of ((HI.out (grow (redrawn W0 d) os)).mono (by rintro e w' ⟨rfl, rfl⟩; exact ⟨rfl, kept_refl _⟩)))
 rw [HR.out] at HPW
 refine wp_region_quiet_below (by kernel_rfl) (by kernel_rfl) ?_
 repeat (any_goals (first | go_big_quiet_skip | quiet_step (first | with_reducible exact HPW.out _ _ | with_reducible exact HIW.out _ _)))
 refine wpQuiet_nil ?_
 rintro _ ⟨⟨dq, osq⟩, rfl⟩
 have hkQ := kept_trans hk0 (below_regrown W0 dq osq)
 go_wp2_with fail
 go_ret
 exact ⟨rfl, hkQ⟩
end Go.Proofs.YtcllfjjhijkakaaGreatDoor
namespace Go.Proofs.YtcllfjjhijkakaaGreatDoor
open Go.RowKit Go.Sort Go.Rg
set_option maxRecDepth 100000
attribute [local go_sem] Oper.semAt_some
def CanBP (X : BBook) (i k : Nat) (W : World) (e : Ending) (C : World) : Prop :=
 ∃ v err, e = .returned (.tuple #[v, .int .i64 err]) ∧ Kept W C ∧
  ((err = 0 ∧ Can X.B ∧ ListAt C v (boysAt (triO X X.pieces.length) i k)) ∨ (err = 72 ∧ ¬ Can X.B ∧ v = .slice none 0 0))
set_option maxHeartbeats 8000000 in
theorem bCan_any (X : BBook) (i k : Nat) (x : Piece) (W : World) (h : BBookAt W X) (hg : Nothing W) (hok : X.okB = true) (hx : X.pieces[i]? = some x) (hk : k < x.parts.length) :
  Calls Tryz.prog 10 #[X.val, .int .i64 (i : Int), .int .i64 (k : Int)] W (CanBP X i k W) := by
 obtain ⟨_, hnp3, _, hpp⟩ := okB_parts hok
 have hk3 : k < 3 := by have := (hpp i x hx).2.1; omega
 have hx3 : x.parts.length ≤ 3 := (hpp i x hx).2.1.2
 have hi3 : i < 3 := by have := (List.getElem?_eq_some_iff.1 hx).1; omega
 clear hpp
 have HOP := Lib.hid (fun V (kk : Kept W V) => bOpen_any X true V (h.kept kk) (hg.kept kk))
 have HIP := Lib.hid (fun V (kk : Kept W V) => isPlace_true X i k x V (h.kept kk) hx hk hx3)
 unfold BBook.val keyV at HIP
 refine callsIn_wide.1 (callsIn_of_wp (n := 0) Tryz.func10 rfl trivial ?_ rfl)
 simp only [Tryz.ntmps10, List.size_toArray, List.length_cons, List.length_nil, Nat.reduceAdd, Nat.reduceSub, Array.replicate_succ, Array.replicate_zero, List.push_toArray, List.append_toArray, List.nil_append, List.cons_append]
 unfold BBook.val
 gi_wp2_with fail
 have hk0 : Kept W ((W.alloc (Obj.cells #[.slice X.p X.B.boys.length X.cap, .int .i64 X.B.weeks, .slice X.q X.B.trials.length X.capt, .slice X.r X.pieces.length X.capp, .int .i64 X.most] 28)).alloc (Obj.cells #[.int .i64 (i : Int), .int .i64 (k : Int)] 86)) := kept_alloc (kept_alloc (kept_refl _) _) _
 have ZZ : ∀ Z, Z = ((W.alloc (Obj.cells #[.slice X.p X.B.boys.length X.cap, .int .i64 X.B.weeks, .slice X.q X.B.trials.length X.capt, .slice X.r X.pieces.length X.capp, .int .i64 X.most] 28)).alloc (Obj.cells #[.int .i64 (i : Int), .int .i64 (k : Int)] 86)) → Z.cell? ⟨W.heap.size, 0, none⟩ = some (.slice X.p X.B.boys.length X.cap) ∧ Z.cell? ⟨W.heap.size, 1, none⟩ = some (.int .i64 X.B.weeks) ∧ Z.cell? ⟨W.heap.size, 2, none⟩ = some (.slice X.q X.B.trials.length X.capt) ∧ Z.cell? ⟨W.heap.size, 3, none⟩ = some (.slice X.r X.pieces.length X.capp) ∧ Z.cell? ⟨W.heap.size, 4, none⟩ = some (.int .i64 X.most) ∧ Z.cell? ⟨W.heap.size + 1, 0, none⟩ = some (.int .i64 (i : Int)) ∧ Z.cell? ⟨W.heap.size + 1, 1, none⟩ = some (.int .i64 (k : Int)) := by rintro _ rfl; refine ⟨?_, ?_, ?_, ?_, ?_, ?_, ?_⟩ <;> go_simp
 obtain ⟨a0c, a1c, a2c, a3c, a4c, k0c, k1c⟩ := ZZ _ rfl; clear ZZ
 generalize ((W.alloc (Obj.cells #[.slice X.p X.B.boys.length X.cap, .int .i64 X.B.weeks, .slice X.q X.B.trials.length X.capt, .slice X.r X.pieces.length X.capp, .int .i64 X.most] 28)).alloc (Obj.cells #[.int .i64 (i : Int), .int .i64 (k : Int)] 86)) = W0 at *
 refine wpIn_region_invL (StP 4 (fun j => match j with | 0 => (.agg #[.slice X.p X.B.boys.length X.cap, .int .i64 X.B.weeks, .slice X.q X.B.trials.length X.capt, .slice X.r X.pieces.length X.capp, .int .i64 X.most]) | 1 => (.agg #[.slice X.p X.B.boys.length X.cap, .int .i64 X.B.weeks, .slice X.q X.B.trials.length X.capt, .slice X.r X.pieces.length X.capp, .int .i64 X.most]) | 2 => .agg #[.int .i64 (i : Int), .int .i64 (k : Int)] | _ => .bool true) W0 zeroL (OpenR X true W.heap.size)) (by kernel_rfl) (by kernel_rfl) StP.start ?hop ?hend
 case hop =>
  rintro i o listed a w hl ho h1 h2 hcl ⟨v, err, pp, ha, hw⟩
  have hi11 : i < 11 := (List.getElem?_eq_some_iff.1 ho).1
  match i, ho with
  | 0, ho =>
   have st := StP.same (by kernel_rfl) ha hw ho h1 (by omega) (by omega) (by omega) (kept_refl w)
   have ST := Lib.hid st; clear st
   cases ho
   rw [if_pos (by rfl)]
   have t3 := ha.old 3 (by kernel_rfl)
   simp at t3
   have r0 := kcell hw.kept a0c
   have r1 := kcell hw.kept a1c
   have r2 := kcell hw.kept a2c
   have r3 := kcell hw.kept a3c
   have r4 := kcell hw.kept a4c
   go_simp
   exact ST.out
  | 1, ho =>
   have st := StP.same (by kernel_rfl) ha hw ho h1 (by omega) (by omega) (by omega) (kept_refl w)
   have ST := Lib.hid st; clear st
   cases ho
   rw [if_pos (by rfl)]
   have t3 := ha.old 3 (by kernel_rfl)
   simp at t3
   have r0 := kcell hw.kept a0c
   have r1 := kcell hw.kept a1c
   have r2 := kcell hw.kept a2c
   have r3 := kcell hw.kept a3c
   have r4 := kcell hw.kept a4c
   go_simp
   exact ST.out
  | 2, ho =>
   have st := StP.same (by kernel_rfl) ha hw ho h1 (by omega) (by omega) (by omega) (kept_refl w)
   have ST := Lib.hid st; clear st
   cases ho
   rw [if_pos (by rfl)]
   have t8 := ha.old 8 (by kernel_rfl)
   simp at t8
   have rk0 := kcell hw.kept k0c
   have rk1 := kcell hw.kept k1c
   go_simp
   exact ST.out
  | 3, ho =>
   have st := fun w' (k : Kept w w') => StP.same (by kernel_rfl) ha hw ho h1 (by omega) (by omega) (by omega) k
   have ST := Lib.hid st; clear st
   cases ho
   rw [if_pos (by rfl)]
   have t16 := ha.new 1 (h2 ⟨1, .data⟩ (by simp) rfl) (d := 16) rfl rfl (by simp)
   simp [openVs] at t16
   have t17 := ha.new 2 (h2 ⟨2, .data⟩ (by simp) rfl) (d := 17) rfl rfl (by simp)
   simp [openVs] at t17
   have hcall := HIP.out w (kept_trans hk0 hw.kept)
   have HCL := Lib.hid hcall; clear hcall
   go_simp
   refine ⟨trivial, rfl, (callsIn_wide.2 HCL.out).mono ?_⟩
   rintro e w' ⟨rfl, hk⟩
   exact ST.out _ hk
  | 4, ho =>
   obtain ⟨n5, n6, n7, n9, n10⟩ := open_first hcl h1 ⟨_, rfl, ⟨4, .data⟩, by simp, rfl, rfl⟩ ⟨_, rfl, ⟨5, .data⟩, by simp, rfl, rfl⟩ ⟨_, rfl, ⟨5, .data⟩, by simp, rfl, rfl⟩ ⟨_, rfl, ⟨6, .data⟩, by simp, rfl, rfl⟩ ⟨_, rfl, ⟨7, .data⟩, by simp, rfl, rfl⟩
   have st := fun v' err' w' (k : OReg W0 zeroL (OpenR X true W.heap.size) v' err' pp true (on listed 8) (on listed 9) w') => StP.opened (by kernel_rfl) ha hl ho h1 n5 n6 n7 n9 n10 k
   have ST := Lib.hid st; clear st
   cases ho
   rw [if_pos (by rfl)]
   have t15 := ha.new 0 (h2 ⟨0, .data⟩ (by simp) rfl) (d := 15) rfl rfl (by simp)
   simp [openVs] at t15
   have t18 := ha.new 3 (h2 ⟨3, .data⟩ (by simp) rfl) (d := 18) rfl rfl (by simp)
   simp [openVs] at t18
   have hcall := HOP.out w (kept_trans hk0 hw.kept)
   unfold BBook.val at hcall
   have HCL := Lib.hid hcall; clear hcall
   have HW := Lib.hid hw; clear hw
   go_simp
   refine ⟨trivial, rfl, (callsIn_wide.2 HCL.out).mono ?_⟩
   rintro e w' ⟨v', err', rfl, k', hr⟩
   exact ST.out v' err' w' (HW.out.opened n9 k' W.heap.size hk0.size (fun D U kU hU => OpenR.mono (OpenR.turns hr kU (fun b h1 h2 => hU b h2 (.inr h1))) (kept_trans hk0 HW.out.kept).size))
  | 5, ho =>
   have st := StP.same (by kernel_rfl) ha hw ho h1 (by omega) (by omega) (by omega) (kept_refl w)
   have ST := Lib.hid st; clear st
   cases ho
   rw [if_pos (by rfl)]
   have t19 := ha.new 4 (h2 ⟨4, .data⟩ (by simp) rfl) (d := 19) rfl rfl (by simp)
   simp [openVs] at t19
   go_simp
   exact ST.out
  | 6, ho =>
   have st := StP.same (by kernel_rfl) ha hw ho h1 (by omega) (by omega) (by omega) (kept_refl w)
   have ST := Lib.hid st; clear st
   cases ho
   rw [if_pos (by rfl)]
   have t14 := ha.new 5 (h2 ⟨5, .data⟩ (by simp) rfl) (d := 14) rfl rfl (by simp)
   simp [openVs] at t14
   go_simp
   exact ST.out
  | 7, ho =>
   have st := StP.same (by kernel_rfl) ha hw ho h1 (by omega) (by omega) (by omega) (kept_refl w)
   have ST := Lib.hid st; clear st
   cases ho
   rw [if_pos (by rfl)]
   have t14 := ha.new 5 (h2 ⟨5, .data⟩ (by simp) rfl) (d := 14) rfl rfl (by simp)
   simp [openVs] at t14
   go_simp
   exact ST.out
  | 8, ho =>
   have n9 : on listed 9 = false := by
    cases hb : on listed 9 with
    | false => rfl
    | true => have := hcl 9 _ rfl hb ⟨8, .data⟩ (by simp) rfl; rw [on_no h1] at this; cases this
   have st := StP.boxed 74 (by kernel_rfl) ha hw hl ho h1 n9
   have ST := Lib.hid st; clear st
   cases ho
   rw [if_pos (by rfl)]
   go_simp
   exact ST.out
  | 9, ho =>
   have y8 : on listed 8 = true := h2 ⟨8, .data⟩ (by cases ho; simp) rfl
   have y4 : on listed 4 = true := h2 ⟨4, .chain⟩ (by cases ho; simp) rfl
   have t9 := ha.new 8 y8 (d := 9) rfl rfl (by simp)
   simp [openVs] at t9
   have t20 := ha.new 6 (h2 ⟨6, .data⟩ (by cases ho; simp) rfl) (d := 20) rfl rfl (by simp)
   simp [openVs] at t20
   obtain ⟨hbp, hbz, hcs, hbf⟩ := hw.box y8
   obtain ⟨f0, b0⟩ := hcs 0 (by simp [zeroL])
   obtain ⟨f1, b1⟩ := hcs 1 (by simp [zeroL])
   obtain ⟨f2, b2⟩ := hcs 2 (by simp [zeroL])
   obtain ⟨f3, b3⟩ := hcs 3 (by simp [zeroL])
   obtain ⟨f4, b4⟩ := hcs 4 (by simp [zeroL])
   obtain ⟨f5, b5⟩ := hcs 5 (by simp [zeroL])
   obtain ⟨f6, b6⟩ := hcs 6 (by simp [zeroL])
   have bf0 := hbf 0
   have bf1 := hbf 1
   have bf2 := hbf 2
   have bf3 := hbf 3
   have bf4 := hbf 4
   have bf5 := hbf 5
   have bf6 := hbf 6
   rcases (hw.res y4).here with ⟨_, _, _, _, m, rfl, _⟩ | ⟨rfl, _⟩
   ·skip
    have st := StP.stored (by kernel_rfl) ha hw hl ho (by cases ho; rfl) h1 y8 (show X.sval m noneOut = Value.agg (List.toArray _) from rfl) rfl
    simp only [setAll, Nat.reduceAdd] at st
    have ST := Lib.hid st; clear st
    cases ho
    rw [if_pos (by rfl)]
    unfold BBook.sval noneOut at t20
    clear hbf hcs
    go_simp
    exact ST.out
   ·skip
    have st := StP.stored (by kernel_rfl) ha hw hl ho (by cases ho; rfl) h1 y8 (show zeroStalls = Value.agg (List.toArray _) from rfl) rfl
    simp only [setAll, Nat.reduceAdd] at st
    have ST := Lib.hid st; clear st
    cases ho
    rw [if_pos (by rfl)]
    unfold zeroStalls at t20
    clear hbf hcs
    go_simp
    exact ST.out
  | 10, ho =>
   have st := StP.same (by kernel_rfl) ha hw ho h1 (by omega) (by omega) (by omega) (kept_refl w)
   have ST := Lib.hid st; clear st
   cases ho
   rw [if_pos (by rfl)]
   have t21 := ha.new 7 (h2 ⟨7, .data⟩ (by simp) rfl) (d := 21) rfl rfl (by simp)
   simp [openVs] at t21
   go_simp
   exact ST.out
 case hend =>
  rintro listed a w hall ⟨v, err, pp, ha, hw⟩
  rw [show on listed 4 = true from hall 4 (by simp), show on listed 8 = true from hall 8 (by simp), show on listed 9 = true from hall 9 (by simp)] at hw
  obtain ⟨y, hy, hae⟩ := ha.lit (n := 29) rfl
  have y8 := (hy 8).symm.trans (ha.old 8 (by kernel_rfl))
  have y6 := (hy 6).symm.trans (ha.old 6 (by kernel_rfl))
  have y7 := (hy 7).symm.trans (ha.old 7 (by kernel_rfl))
  have y9 := (hy 9).symm.trans (ha.new 8 (hall 8 (by simp)) (d := 9) rfl rfl (by simp))
  have y10 := (hy 10).symm.trans (ha.new 10 (hall 10 (by simp)) (d := 10) rfl rfl (by simp))
  simp at y8 y6 y7
  simp [openVs] at y9 y10
  simp only [List.range, List.range.loop, List.map] at hae
  rw [y8, y6, y7, y9, y10] at hae
  subst hae
  clear ha hy y6 y7 y8 y9 y10
  refine (by assumption : ∀ a w, Code.wpIn _ _ _ _ _ a w → _) _ w ?_
  have rk0 := kcell hw.kept k0c
  have rk1 := kcell hw.kept k1c
  have kW := kept_trans hk0 hw.kept
  obtain ⟨_, xs, hv, hxl, hxc⟩ := hw.put rfl
  rcases (hw.res rfl).here with ⟨rfl, _, _, hcan, m, rfl, hst⟩ | ⟨rfl, herr⟩
  ·have e4 := congrArg (fun u => match u with | Value.agg cs => cs.toList | _ => []) hv
   simp only [BBook.sval, noneOut] at e4
   have b5 := hxc 5 (.map (some m)) (by rw [← e4]; rfl)
   obtain ⟨base, l, hb, hl⟩ := hst.told
   obtain ⟨u, hlu, hlist⟩ := hl.look hi3 hk3
   have hlk := hlu w rfl
   unfold keyV at hlk
   have HLI := Lib.hid hlist
   clear hlist hlu hl hst e4 hv hxc hxl
   gi_wp2_with fail
   refine bodyPost_ret (v := .tuple #[u, .int .i64 0]) (by simp [results, Tryz.results10, go_sem]) rfl ?_
   exact ⟨_, 0, rfl, kW, .inl ⟨rfl, hcan, HLI.out⟩⟩
  ·rcases herr with ⟨_, he⟩ | ⟨_, _, he⟩ | ⟨rfl, _, _, hnc⟩
   ·rw [hok] at he; cases he
   ·cases he
   gi_wp2_with fail
   refine bodyPost_ret (v := .tuple #[.slice none 0 0, .int .i64 72]) (by simp [results, Tryz.results10, go_sem]) rfl ?_
   exact ⟨_, 72, rfl, kW, .inr ⟨rfl, hnc, rfl⟩⟩
end Go.Proofs.YtcllfjjhijkakaaGreatDoor
namespace Go.Proofs.YtcllfjjhijkakaaGreatDoor
open Go.RowKit Go.Sort Go.Rg
set_option maxRecDepth 100000
set_option maxHeartbeats 4000000
theorem lies_eq (n l h : Int) (W : World) {g : Bool} (hg : inB n l h = g) : Calls Tryz.prog 15 #[.int .i64 n, .int .i64 l, .int .i64 h] W fun e w' => e = .returned (.bool g) ∧ W = w' := hg ▸ lies_any n l h W
theorem sound_any (X : BBook) (W : World) (h : BBookAt W X) : Calls Tryz.prog 4 #[X.val] W fun e w' => e = .returned (.bool X.okB) ∧ Kept W w' := by
 have hk0 : Kept W (W.alloc (Obj.cells #[.slice X.p X.B.boys.length X.cap, .int .i64 X.B.weeks, .slice X.q X.B.trials.length X.capt, .slice X.r X.pieces.length X.capp, .int .i64 X.most] 28)) := kept_alloc (kept_refl _) _
 have ZZ : ∀ Z, Z = (W.alloc (Obj.cells #[.slice X.p X.B.boys.length X.cap, .int .i64 X.B.weeks, .slice X.q X.B.trials.length X.capt, .slice X.r X.pieces.length X.capp, .int .i64 X.most] 28)) → Z.cell? ⟨W.heap.size, 0, none⟩ = some (.slice X.p X.B.boys.length X.cap) ∧ Z.cell? ⟨W.heap.size, 1, none⟩ = some (.int .i64 X.B.weeks) ∧ Z.cell? ⟨W.heap.size, 2, none⟩ = some (.slice X.q X.B.trials.length X.capt) ∧ Z.cell? ⟨W.heap.size, 3, none⟩ = some (.slice X.r X.pieces.length X.capp) ∧ Z.cell? ⟨W.heap.size, 4, none⟩ = some (.int .i64 X.most) := by rintro _ rfl; refine ⟨?_, ?_, ?_, ?_, ?_⟩ <;> go_simp
 obtain ⟨a0, a1, a2, a3, a4⟩ := ZZ _ rfl; clear ZZ
 have HC := Lib.hid (bCheck_any X (W.alloc (Obj.cells #[.slice X.p X.B.boys.length X.cap, .int .i64 X.B.weeks, .slice X.q X.B.trials.length X.capt, .slice X.r X.pieces.length X.capp, .int .i64 X.most] 28)) (h.kept hk0))
 have HV := Lib.hid (fun V (k : Kept W V) => check_any X.p X.q X.cap X.capt X.B V (h.book.kept k))
 have HB := Lib.hid h
 have hnpm := h.np
 unfold BBook.val at *
 rcases hok : X.okB with _ | _
 ·have HOK := Lib.hid hok; clear hok h
  go_enter Tryz.func4, Tryz.ntmps4
  go_wp2_with fail
  generalize (W.alloc (Obj.cells #[.slice X.p X.B.boys.length X.cap, .int .i64 X.B.weeks, .slice X.q X.B.trials.length X.capt, .slice X.r X.pieces.length X.capp, .int .i64 X.most] 28)) = V0 at *
  with_reducible refine HC.out.mono ?_
  rintro e V1 ⟨rfl, hk1⟩
  rw [HOK.out, show (if false = true then (0 : Int) else 70) = 70 from rfl]
  have hk01 := kept_trans hk0 hk1
  go_wp2_with fail
  go_loopw [3, 4] (fun t i V => t = .bool false ∧ i = .int .i64 0 ∧ Kept W V) (fun _ _ _ => 0)
  case atStart => exact ⟨rfl, rfl, hk01⟩
  case round =>
   obtain ⟨rfl, rfl, hkV⟩ := hrel
   go_wp2_with fail
   go_ret
   exact ⟨by simp, hkV⟩
 ·obtain ⟨hv, hnp, hmo, hpp⟩ := okB_parts hok
  have hvv := hv
  simp only [Book.okB, inB, Bool.and_eq_true, decide_eq_true_eq] at hvv
  have HOK := Lib.hid hok; clear hok
  have HVO := Lib.hid hv; clear hv
  have HPP := Lib.hid hpp; clear hpp
  have l1 := Lib.hid (fun V => lies_eq (X.B.boys.length) 1 4 V (g := true) (by simp [inB]; omega))
  have l2 := Lib.hid (fun V => lies_eq X.B.weeks 1 6 V (g := true) (by simp [inB]; omega))
  have l3 := Lib.hid (fun V => lies_eq (X.pieces.length) 1 3 V (g := true) (by simp [inB]; omega))
  have l4 := Lib.hid (fun V => lies_eq X.most 1 3 V (g := true) (by simp [inB]; omega))
  have htr : decide ((X.B.trials.length : Int) ≤ 6) = true := by simp; omega
  have hwk : 1 ≤ X.B.weeks ∧ X.B.weeks ≤ 6 := by omega
  have hwr : IntKind.i64.wrap (X.B.weeks - 1) = X.B.weeks - 1 := IntWalk.i64_in _ (by omega)
  clear hvv hmo
  obtain ⟨b, o, hr, hp⟩ : ∃ b o, X.r = some ⟨b, o, none⟩ ∧ PiecesAt W b o X.pieces := by
   rcases h.pieces with e | h
   ·rw [e] at hnp; simp at hnp
   ·exact h
  have HRR := Lib.hid hr; clear hr h
  have HPC := Lib.hid hp; clear hp
  go_enter Tryz.func4, Tryz.ntmps4
  go_wp2_with fail
  generalize (W.alloc (Obj.cells #[.slice X.p X.B.boys.length X.cap, .int .i64 X.B.weeks, .slice X.q X.B.trials.length X.capt, .slice X.r X.pieces.length X.capp, .int .i64 X.most] 28)) = V0 at *
  with_reducible refine HC.out.mono ?_
  rintro e V1 ⟨rfl, hk1⟩
  rw [HOK.out, show (if true = true then (0 : Int) else 70) = 0 from rfl]
  have hk01 := kept_trans hk0 hk1
  replace a0 := kcell hk1 a0
  replace a1 := kcell hk1 a1
  replace a2 := kcell hk1 a2
  replace a3 := kcell hk1 a3
  replace a4 := kcell hk1 a4
  go_wp2_with fail
  with_reducible refine (HV.out V1 hk01).mono ?_
  rintro e V2 ⟨rfl, hk2⟩
  rw [HVO.out, show (if true = true then (0 : Int) else 20) = 0 from rfl]
  have hk02 := kept_trans hk01 hk2
  replace a0 := kcell hk2 a0
  replace a1 := kcell hk2 a1
  replace a2 := kcell hk2 a2
  replace a3 := kcell hk2 a3
  replace a4 := kcell hk2 a4
  go_wp2_with (go_at_call 15; first | (with_reducible refine (l1.out _).mono ?_; rintro e w' ⟨rfl, rfl⟩) | (with_reducible refine (l2.out _).mono ?_; rintro e w' ⟨rfl, rfl⟩) | (with_reducible refine (l3.out _).mono ?_; rintro e w' ⟨rfl, rfl⟩) | (with_reducible refine (l4.out _).mono ?_; rintro e w' ⟨rfl, rfl⟩))
  go_loopw [3, 4] (fun t i V => ∃ j : Nat, j ≤ X.pieces.length ∧ t = .bool true ∧ i = .int .i64 j ∧ Kept V2 V) (fun _ i _ => X.pieces.length - (intOf i).toNat)
  case atStart => exact ⟨0, by omega, rfl, rfl, kept_refl _⟩
  case round =>
   obtain ⟨j, hj, rfl, rfl, hkV⟩ := hrel
   have hk0V := kept_trans hk02 hkV
   have e1 := kcell hkV a1
   have e3 := kcell hkV a3
   by_cases hlt : j < X.pieces.length
   ·have hltI : (j : Int) < X.pieces.length := by omega
    obtain ⟨x, hx⟩ : ∃ x, X.pieces[j]? = some x := ⟨_, List.getElem?_eq_getElem hlt⟩
    obtain ⟨⟨p0, p1⟩, hpi⟩ := (HPC.out.kept hk0V).2 j x hx
    obtain ⟨hwx, hxl, hpp⟩ := HPP.out j x hx
    have hbz := (HPC.out.kept hk0V).1
    have HPI := Lib.hid hpi; clear hpi hx
    have HP2 := Lib.hid hpp; clear hpp
    rw [HRR.out] at e3
    have m1 := Lib.hid (fun V => lies_eq x.week 0 (X.B.weeks - 1) V (g := true) (by simp [inB]; omega))
    have m2 := Lib.hid (fun V => lies_eq (x.parts.length) 1 3 V (g := true) (by simp [inB]; omega))
    have kx : Kept wr (wr.alloc (Obj.cells #[.int .i64 x.week, .slice x.p x.parts.length x.cap] 51)) := kept_alloc (kept_refl _) _
    have ZZ : ∀ Z, Z = (wr.alloc (Obj.cells #[.int .i64 x.week, .slice x.p x.parts.length x.cap] 51)) → Z.cell? ⟨wr.heap.size, 0, none⟩ = some (.int .i64 x.week) ∧ Z.cell? ⟨wr.heap.size, 1, none⟩ = some (.slice x.p x.parts.length x.cap) := by rintro _ rfl; refine ⟨?_, ?_⟩ <;> go_simp
    obtain ⟨x0, x1⟩ := ZZ _ rfl; clear ZZ
    have e1' := kcell kx e1
    clear hwx
    go_wp2_with (go_at_call 15; first | (with_reducible refine (m1.out _).mono ?_; rintro e w' ⟨rfl, rfl⟩) | (with_reducible refine (m2.out _).mono ?_; rintro e w' ⟨rfl, rfl⟩))
    obtain ⟨bp, op, hxp, hpa⟩ : ∃ b o, x.p = some ⟨b, o, none⟩ ∧ PartsAt wr b o x.parts := by
     rcases HPI.out.2 with e | h
     ·rw [e] at hxl; simp at hxl
     ·exact h
    have HPA := Lib.hid (hpa.kept kx); clear hpa
    have HXP := Lib.hid hxp; clear hxp
    generalize (wr.alloc (Obj.cells #[.int .i64 x.week, .slice x.p x.parts.length x.cap] 51)) = V3 at *
    generalize wr.heap.size = hb at *
    go_loopw [3, 6] (fun t i V => ∃ k : Nat, k ≤ x.parts.length ∧ t = .bool true ∧ i = .int .i64 k ∧ Kept V3 V) (fun _ i _ => x.parts.length - (intOf i).toNat)
    case atStart => exact ⟨0, by omega, rfl, rfl, kept_refl _⟩
    case round =>
     obtain ⟨k, hk, rfl, rfl, hkV3⟩ := hrel
     have z1 := kcell hkV3 x1
     by_cases hkl : k < x.parts.length
     ·have hklI : (k : Int) < x.parts.length := by omega
      obtain ⟨y, hy⟩ : ∃ y, x.parts[k]? = some y := ⟨_, List.getElem?_eq_getElem hkl⟩
      obtain ⟨q0, q1, q2⟩ := (HPA.out.kept hkV3).2 k y hy
      obtain ⟨n1, n2, n3, n4, n5⟩ := HP2.out k y hy
      have hbz3 := (HPA.out.kept hkV3).1
      rw [HXP.out] at z1
      have f1 := Lib.hid (fun V => fair_true y.lo y.hi 0 40 40 V n1 n2 n3 (by omega) n1 (by omega))
      have f2 := Lib.hid (fun V => lies_eq y.many 1 3 V (g := true) (by simp [inB]; omega))
      have q2K := q2
      clear n1 n2 n3 n4 n5 hy
      go_wp2_with fail
      with_reducible refine (f1.out _).mono ?_
      rintro e V4 ⟨rfl, hk4⟩
      replace z1 := kcell hk4 z1
      replace q2 := kcell hk4 q2
      have hz4 := Nat.lt_of_lt_of_le hbz3 hk4.size
      have hkV4 := kept_trans hkV3 hk4
      go_wp2_with (go_at_call 15; with_reducible refine (f2.out _).mono ?_; rintro e w' ⟨rfl, rfl⟩)
      go_roundw
      case rel => exact ⟨k + 1, by omega, rfl, by go_num, hkV4⟩
      case measure => simp [intOf]; omega
     ·have hklI : ¬ (k : Int) < x.parts.length := by omega
      obtain rfl : k = x.parts.length := by omega
      have hend := kept_trans hkV (kept_trans kx hkV3)
      go_wp2_with fail
      go_roundw
      case rel => exact ⟨j + 1, by omega, rfl, by go_num, hend⟩
      case measure => simp [intOf]; omega
   ·have hltI : ¬ (j : Int) < X.pieces.length := by omega
    obtain rfl : j = X.pieces.length := by omega
    go_wp2_with fail
    go_ret
    exact ⟨by simp, hk0V⟩
end Go.Proofs.YtcllfjjhijkakaaGreatDoor
namespace Go.Proofs.YtcllfjjhijkakaaGreatDoor
open Go.RowKit Go.Sort Go.Rg
set_option maxRecDepth 100000
set_option maxHeartbeats 1000000 in
theorem where_is (v : Value) (l : List Nat) (n : Nat) (w : World) (h : ListAt w v l) (hl : l.length ≤ 4) :
  Calls Tryz.prog 39 #[v, .int .i64 (n : Int)] w fun e w' => e = .returned (.int .i64 (wI n l 0)) ∧ Kept w w' := by
 obtain ⟨p, cap, rfl⟩ := listAt_len h
 go_enter Tryz.func39, Tryz.ntmps39
 go_wp2_with fail
 go_loopw [5] (fun i W => ∃ k : Nat, k ≤ l.length ∧ i = .int .i64 k ∧ wI n l 0 = wI n (l.drop k) k ∧ Kept w W) (fun i W => l.length - (intOf i).toNat)
 case atStart => exact ⟨0, by omega, rfl, rfl, kept_refl _⟩
 case round =>
  obtain ⟨k, hk, rfl, hno, hkW⟩ := hrel
  by_cases hlt : k < l.length
  ·have hltI : (k : Int) < l.length := by omega
   have hget : l[k]? = some l[k] := List.getElem?_eq_getElem hlt
   rw [List.drop_eq_getElem_cons hlt] at hno
   generalize l[k] = x at *
   rcases h.kept hkW with ⟨_, rfl⟩ | ⟨b, cap', e, hb, hc⟩
   ·simp at hlt
   cases e
   replace hc := hc k x hget
   rw [wI_cons] at hno
   by_cases hxn : x = n
   ·rw [if_pos hxn] at hno
    have HNO := Lib.hid hno; clear hno
    have hx1 : ((x : Int) == (n : Int)) = true := by simp; omega
    clear hxn hget
    go_wp2_with fail
    go_ret
    exact ⟨by rw [HNO.out]; rfl, hkW⟩
   ·rw [if_neg hxn] at hno
    have HNO := Lib.hid hno; clear hno
    have hx1 : ((x : Int) == (n : Int)) = false := by simp; omega
    clear hxn hget
    go_wp2_with fail
    go_roundw
    case rel => exact ⟨k + 1, by omega, by go_num, HNO.out, hkW⟩
    case measure => simp [intOf]; omega
  ·have hltI : ¬ (k : Int) < l.length := by omega
   rw [List.drop_of_length_le (by omega)] at hno
   have HNO := Lib.hid hno; clear hno
   go_wp2_with fail
   go_ret
   exact ⟨by rw [HNO.out]; rfl, hkW⟩
def Rest (w : World) : Prop := ∀ i, i < 4 → w.cell? ⟨2, i, none⟩ = some (.int .i64 0)
theorem Rest.kept {A B : World} (h : Rest A) (k : Kept A B) : Rest B := fun i hi => kcell k (h i hi)
theorem seated_is (w : World) (hL : Laid w) (hN : Nothing w) (hR : Rest w) : Calls Tryz.prog 5 #[] w fun e w' => e = .returned (.bool true) ∧ Kept w w' := by
 obtain ⟨l0, l1⟩ := hL
 have I : Go.Ai.Inv 3 (fun b => ⟨b, 0, 0⟩) seTop.heap w := by
  refine Go.Ai.start_inv (G := 3) (by decide) (by decide) (by decide) fun b x hx => ?_
  simp only [seTop, gC, List.mem_cons, List.not_mem_nil, or_false, Prod.mk.injEq] at hx
  rcases hx with ⟨rfl, rfl⟩ | ⟨rfl, rfl⟩ | ⟨rfl, rfl⟩
  ·refine .inr ⟨_, rfl, by decide, fun i v hv => ?_, Go.Ai.lt_of_cell (hN 0 (by omega))⟩
   match i, hv with
   | 0, hv => cases hv; exact hN 0 (by omega)
   | 1, hv => cases hv; exact hN 1 (by omega)
   | 2, hv => cases hv; exact hN 2 (by omega)
   | 3, hv => cases hv; exact hN 3 (by omega)
   | 4, hv => cases hv; exact hN 4 (by omega)
  ·obtain ⟨m0, m1, m2, m3, m4, m5, m6, m7, m8, m9⟩ := l1
   refine .inr ⟨_, rfl, by decide, fun i v hv => ?_, l0⟩
   match i, hv with
   | 0, hv => cases hv; exact m0
   | 1, hv => cases hv; exact m1
   | 2, hv => cases hv; exact m2
   | 3, hv => cases hv; exact m3
   | 4, hv => cases hv; exact m4
   | 5, hv => cases hv; exact m5
   | 6, hv => cases hv; exact m6
   | 7, hv => cases hv; exact m7
   | 8, hv => cases hv; exact m8
   | 9, hv => cases hv; exact m9
  ·refine .inr ⟨_, rfl, by decide, fun i v hv => ?_, Go.Ai.lt_of_cell (hR 0 (by omega))⟩
   match i, hv with
   | 0, hv => cases hv; exact hR 0 (by omega)
   | 1, hv => cases hv; exact hR 1 (by omega)
   | 2, hv => cases hv; exact hR 2 (by omega)
   | 3, hv => cases hv; exact hR 3 (by omega)
 refine (Go.Ai.calls_of_ent seTop_h rfl I rfl).mono fun e w' ⟨j2, he, A⟩ => ⟨?_, ⟨A.os, A.tape, A.output, A.size, A.heap⟩⟩
 rw [he]; rfl
theorem filt_one {α : Type} (n p : Nat) (f : Nat → List α) (P : α → Bool) (h : ∀ i, i ≠ p → (f i).filter P = []) (hp : p < n) : ((List.range n).flatMap f).filter P = (f p).filter P := by
 have zero : ∀ m, m ≤ p → ((List.range m).flatMap f).filter P = [] := by
  intro m hm
  induction m with
  | zero => simp
  | succ m ih => rw [List.range_succ, List.flatMap_append, List.filter_append, ih (by omega)]; simp [h m (by omega)]
 induction n with
 | zero => omega
 | succ n ih =>
  rw [List.range_succ, List.flatMap_append, List.filter_append]
  by_cases e : p = n
  ·subst e; rw [zero p (Nat.le_refl _)]; simp
  ·rw [ih (by omega)]; simp [h n (fun e' => e e'.symm)]
theorem triB_filter (X : BBook) (p k p' k' n : Nat) : (triB X p' k' n).filter (pisAt p k) = if p' = p ∧ k' = k then triB X p k n else [] := by
 split
 ·rename_i h
  obtain ⟨rfl, rfl⟩ := h
  exact List.filter_eq_self.2 fun t ht => by
   simp only [triB, List.mem_map] at ht
   obtain ⟨b, _, rfl⟩ := ht
   simp [pisAt]
 ·rename_i h
  refine List.filter_eq_nil_iff.2 fun t ht => ?_
  simp only [triB, List.mem_map] at ht
  obtain ⟨b, _, rfl⟩ := ht
  simp only [pisAt, Bool.and_eq_true, decide_eq_true_eq]
  exact h
theorem boysAt_eq {X : BBook} {p k : Nat} {x : Piece} (hx : X.pieces[p]? = some x) (hk : k < x.parts.length) : boysAt (triO X X.pieces.length) p k = (List.range X.B.boys.length).filter (surT X p k) := by
 unfold boysAt triO
 rw [filt_one X.pieces.length p _ _ ?_ (List.getElem?_eq_some_iff.1 hx).1]
 ·rw [partsOf_eq hx]
  unfold triK
  rw [List.flatMap_map, filt_one x.parts.length k _ _ ?_ hk]
  ·rw [triB_filter, if_pos ⟨rfl, rfl⟩]
   simp [triB, Function.comp_def]
  ·intro i hi
   rw [triB_filter, if_neg (fun h => hi h.2)]
 ·intro i hi
  unfold triK
  rw [List.filter_flatMap]
  refine List.flatMap_eq_nil_iff.2 fun q hq => ?_
  rw [triB_filter, if_neg]
  rintro ⟨h1, _⟩
  unfold partsOf at hq
  cases hp : X.pieces[i]? with
  | none => rw [hp] at hq; cases hq
  | some y =>
   rw [hp] at hq
   simp only [List.mem_map] at hq
   obtain ⟨_, _, rfl⟩ := hq
   exact hi h1
theorem filter_incr {P : Nat → Bool} {n : Nat} : incr ((List.range n).filter P) := pairwise_incr (List.Pairwise.filter _ List.pairwise_lt_range)
end Go.Proofs.YtcllfjjhijkakaaGreatDoor
namespace Go.Proofs.YtcllfjjhijkakaaGreatDoor
open Go.ChangeShapes Go.WideShapes Go.ChangeAt Go.WideMaps Go.WideElems Go.RowKit Go.Deep Go.Rg
set_option maxRecDepth 100000
theorem vlaidOut : laidOutB Tryz.prog = true := by kernel_rfl
theorem bkown : ownKnob Tryz.prog.godebug = none := by kernel_rfl
theorem bkcI : Tryz.prog.cellsOf 3 = 1 := by kernel_rfl
theorem bkg_nothing : Tryz.prog.globalNamed "decani/voice.nothing" = some 0 := by kernel_rfl
theorem bkt_nothing : (Tryz.prog.globals[0]?).map (·.type) = some 115 := by kernel_rfl
theorem bkc_nothing : Tryz.prog.cellsOf 115 = 5 := by kernel_rfl
theorem bkg_bounds : Tryz.prog.globalNamed "decani/voice.bounds" = some 1 := by kernel_rfl
theorem bkt_bounds : (Tryz.prog.globals[1]?).map (·.type) = some 149 := by kernel_rfl
theorem bks_bounds : Tryz.prog.cellsOf 148 = 2 := by kernel_rfl
theorem bkg_rest : Tryz.prog.globalNamed "decani/bench.rest" = some 2 := by kernel_rfl
theorem bkt_rest : (Tryz.prog.globals[2]?).map (·.type) = some 162 := by kernel_rfl
theorem bkc_rest : Tryz.prog.cellsOf 162 = 4 := by kernel_rfl
def bklaid : List (String × DataW Unit) := [("decani/voice.nothing", Rows.laid_decani_voice_nothing), ("decani/voice.bounds", Rows.laid_decani_voice_bounds), ("decani/bench.rest", Rows.laid_decani_bench_rest)]
theorem bkdoor_met (os : Os) (args : Array Value) : laidMetH Tryz.prog bklaid ((World.doorLaid Tryz.prog 400 os).forCall (fun _ _ => 0) ⟨#[], args, []⟩).memory :=
 laidMetH_of_parts3 (fuel := 8) (laidMet_of_run' 8 (by kernel_rfl) (by kernel_rfl)) (by kernel_rfl) (by kernel_rfl)
theorem pairs_of_trod {H : Type} {enc : TypeId × Value → H} {P : Program} {w : World} {base : Nat} {sp : Nat → Bool} {held : Bool} {fuel : Nat} {t e u : TypeId} {n : Nat} {k : IntKind} {f0 f1 : Field} {cs : List Value} {l : List (Int × Int)} {q : List MemPlace}
  (ht : P.underlying t = some (.array n e)) (he : P.underlying e = some (.struct #[f0, f1])) (hu : P.underlying u = some (.int k)) (h0 : f0.type = u) (h1 : f1.type = u) (o0 : f0.offset = 0) (o1 : f1.offset = 1) (ce : P.cellsOf e = 2) (cu : P.cellsOf u = 1)
  (h : DataW.trod enc P w base sp held fuel t cs = some (.agg (l.map fun p => .agg [.lit (.int k p.1), .lit (.int k p.2)]), q)) : ∀ (i : Nat) (p : Int × Int), l[i]? = some p → cs[2 * i]? = some (.int k p.1) ∧ cs[2 * i + 1]? = some (.int k p.2) := by
 intro i p hp
 obtain ⟨xs, m, _, hx, hl, hn, hel⟩ := DataW.trod_array ht h
 simp only [Prod.mk.injEq, DataW.agg.injEq] at hx
 have hi : i < l.length := by
  rcases Nat.lt_or_ge i l.length with h' | h'
  ·exact h'
  ·rw [List.getElem?_eq_none h'] at hp; cases hp
 have hxl : xs.length = l.length := by
  have := congrArg List.length hx.1
  simpa using this.symm
 obtain ⟨y, hy⟩ : ∃ y, xs[i]? = some y := ⟨xs[i], by simp [show i < xs.length by omega]⟩
 have hy1 : y.1 = .agg [.lit (.int k p.1), .lit (.int k p.2)] := by
  have := congrArg (fun z => z[i]?) hx.1
  simp only [List.getElem?_map, hp, hy, Option.map_some, Option.some.injEq] at this
  exact this.symm
 have hE := hel i (by omega)
 rw [hy, ce] at hE
 obtain ⟨y0, y1, m', hyy, _, t0, t1⟩ := trod_struct2 he hE
 rw [h0, o0, cu] at t0
 rw [h1, o1, cu] at t1
 obtain ⟨z0, c0, e0, _⟩ := DataW.trod_int hu t0
 obtain ⟨z1, c1, e1, _⟩ := DataW.trod_int hu t1
 rw [hyy, e0, e1] at hy1
 simp only [DataW.agg.injEq, List.cons.injEq, DataW.lit.injEq, Lit.int.injEq, true_and, and_true] at hy1
 obtain ⟨rfl, rfl⟩ := hy1
 refine ⟨?_, ?_⟩
 ·have := congrArg (fun z => z[0]?) c0
  simp [List.getElem?_take, List.getElem?_drop] at this
  rw [Nat.mul_comm]
  exact this
 ·have := congrArg (fun z => z[0]?) c1
  simp [List.getElem?_take, List.getElem?_drop] at this
  rw [Nat.mul_comm]
  exact this
def bkl_nothing : List Int := [(-1), (-1), (-1), (-1), (-1)]
def bkp_bounds : List (Int × Int) := [(40, 2), (40, 2), (2, 1), (6, 2), (9, 3)]
def bkl_bounds : List Int := [40, 2, 40, 2, 2, 1, 6, 2, 9, 3]
def bkl_rest : List Int := [0, 0, 0, 0]
theorem bkof_laid {W : World} (h : laidMetH Tryz.prog bklaid W) : (∀ i, i < 5 → W.cell? ⟨0, i, none⟩ = some (.int .i64 (bkl_nothing.getD i 0))) ∧ (∀ i, i < 10 → W.cell? ⟨1, i, none⟩ = some (.int .i64 (bkl_bounds.getD i 0))) ∧ (∀ i, i < 4 → W.cell? ⟨2, i, none⟩ = some (.int .i64 (bkl_rest.getD i 0))) := by
 rw [MakeChecks.laidMetH_plain _ _ _ (by kernel_rfl)] at h
 obtain ⟨ps, ⟨g0, t0, cs0, f0, p0, q0, hg0, ht0, hv0, hd0, ⟨⟨g1, t1, cs1, f1, p1, q1, hg1, ht1, hv1, hd1, ⟨⟨g2, t2, cs2, f2, p2, q2, hg2, ht2, hv2, hd2, _⟩, _⟩⟩, _⟩⟩, _⟩ := h
 obtain rfl := Option.some.inj (bkg_nothing.symm.trans hg0)
 obtain rfl := Option.some.inj (bkt_nothing.symm.trans ht0)
 obtain rfl := Option.some.inj (bkg_bounds.symm.trans hg1)
 obtain rfl := Option.some.inj (bkt_bounds.symm.trans ht1)
 obtain rfl := Option.some.inj (bkg_rest.symm.trans hg2)
 obtain rfl := Option.some.inj (bkt_rest.symm.trans ht2)
 refine ⟨?_, ?_, ?_⟩
 ·have hc := Lib.cells_of_tab (zs := bkl_nothing) (k := .i64) Tryz.underlying115 Tryz.underlying3 bkcI bkc_nothing hd0
  have cell : ∀ i v, cs0.toList[i]? = some v → W.cell? ⟨0, i, none⟩ = some v := fun i v hv' => by
   have := World.var?_cell hg0 hv0 i
   rw [this, ← Array.getElem?_toList]
   exact hv'
  intro i hi
  match i, hi with
  | 0, _ => exact cell 0 _ (by simp [hc, bkl_nothing])
  | 1, _ => exact cell 1 _ (by simp [hc, bkl_nothing])
  | 2, _ => exact cell 2 _ (by simp [hc, bkl_nothing])
  | 3, _ => exact cell 3 _ (by simp [hc, bkl_nothing])
  | 4, _ => exact cell 4 _ (by simp [hc, bkl_nothing])
 ·have hp := pairs_of_trod (l := bkp_bounds) Tryz.underlying149 Tryz.underlying148 Tryz.underlying3 rfl rfl rfl rfl bks_bounds bkcI hd1
  have cell : ∀ i v, cs1.toList[i]? = some v → W.cell? ⟨1, i, none⟩ = some v := fun i v hv' => by
   have := World.var?_cell hg1 hv1 i
   rw [this, ← Array.getElem?_toList]
   exact hv'
  intro i hi
  match i, hi with
  | 0, _ => exact cell 0 _ (hp 0 _ rfl).1
  | 1, _ => exact cell 1 _ (hp 0 _ rfl).2
  | 2, _ => exact cell 2 _ (hp 1 _ rfl).1
  | 3, _ => exact cell 3 _ (hp 1 _ rfl).2
  | 4, _ => exact cell 4 _ (hp 2 _ rfl).1
  | 5, _ => exact cell 5 _ (hp 2 _ rfl).2
  | 6, _ => exact cell 6 _ (hp 3 _ rfl).1
  | 7, _ => exact cell 7 _ (hp 3 _ rfl).2
  | 8, _ => exact cell 8 _ (hp 4 _ rfl).1
  | 9, _ => exact cell 9 _ (hp 4 _ rfl).2
 ·have hc := Lib.cells_of_tab (zs := bkl_rest) (k := .i64) Tryz.underlying162 Tryz.underlying3 bkcI bkc_rest hd2
  have cell : ∀ i v, cs2.toList[i]? = some v → W.cell? ⟨2, i, none⟩ = some v := fun i v hv' => by
   have := World.var?_cell hg2 hv2 i
   rw [this, ← Array.getElem?_toList]
   exact hv'
  intro i hi
  match i, hi with
  | 0, _ => exact cell 0 _ (by simp [hc, bkl_rest])
  | 1, _ => exact cell 1 _ (by simp [hc, bkl_rest])
  | 2, _ => exact cell 2 _ (by simp [hc, bkl_rest])
  | 3, _ => exact cell 3 _ (by simp [hc, bkl_rest])
theorem vcI : Tryz.prog.cellsOf 3 = 1 := by kernel_rfl
theorem vcS : Tryz.prog.cellsOf 54 = 2 := by kernel_rfl
theorem vcB : Tryz.prog.cellsOf 121 = 11 := by kernel_rfl
theorem vcT : Tryz.prog.cellsOf 111 = 4 := by kernel_rfl
theorem vcL : Tryz.prog.cellsOf 22 = 1 := by kernel_rfl
theorem vcM : Tryz.prog.cellsOf 23 = 1 := by kernel_rfl
theorem vcK : Tryz.prog.cellsOf 25 = 3 := by kernel_rfl
theorem bcP : Tryz.prog.cellsOf 56 = 3 := by kernel_rfl
theorem bcQ : Tryz.prog.cellsOf 49 = 1 := by kernel_rfl
theorem bcE : Tryz.prog.cellsOf 51 = 2 := by kernel_rfl
theorem bcL : Tryz.prog.cellsOf 26 = 1 := by kernel_rfl
theorem bcK : Tryz.prog.cellsOf 28 = 5 := by kernel_rfl
section
variable {H : Type} {enc : TypeId × Value → H} {w : World} {base : Nat} {sp : Nat → Bool} {held : Bool} {fuel : Nat} {cs : List Value} {x : DataW H × List MemPlace}
theorem one_int {c : Value} (h : DataW.trod enc Tryz.prog w base sp held fuel 3 [c] = some x) : ∃ n, c = .int .i64 n := by
 obtain ⟨z, e, _⟩ := DataW.trod_int Tryz.underlying3 h
 simp at e
 exact ⟨z, e⟩
theorem span_ints {c d : Value} (h : DataW.trod enc Tryz.prog w base sp held fuel 54 [c, d] = some x) : ∃ a b, c = .int .i64 a ∧ d = .int .i64 b := by
 obtain ⟨xs, n, _, hx, hl, hn, hf⟩ := DataW.trod_struct Tryz.underlying54 h
 match xs, hn with
 | [y0, y1], _ =>
  have t0 : DataW.trod enc Tryz.prog w base sp held n 3 (([c, d].drop 0).take (Tryz.prog.cellsOf 3)) = some y0 := hf 0 _ rfl
  have t1 : DataW.trod enc Tryz.prog w base sp held n 3 (([c, d].drop 1).take (Tryz.prog.cellsOf 3)) = some y1 := hf 1 _ rfl
  rw [vcI] at t0 t1
  obtain ⟨a, rfl⟩ := one_int t0
  obtain ⟨b, rfl⟩ := one_int t1
  exact ⟨a, b, rfl, rfl⟩
def boyCells (x : Boy) : List Value := [.int .i64 x.l0, .int .i64 x.l1, .int .i64 x.h0, .int .i64 x.h1, .int .i64 x.g0, .int .i64 x.g1, .int .i64 x.t0, .int .i64 x.t1, .int .i64 x.ls, .int .i64 x.b0, .int .i64 x.b1]
theorem boy_ints (h : DataW.trod enc Tryz.prog w base sp held fuel 121 cs = some x) : ∃ b : Boy, cs = boyCells b := by
 obtain ⟨xs, n, _, hx, hl, hn, hf⟩ := DataW.trod_struct Tryz.underlying121 h
 rw [vcB] at hl
 match cs, hl, xs, hn with
 | [c0, c1, c2, c3, c4, c5, c6, c7, c8, c9, c10], _, [y0, y1, y2, y3, y4, y5], _ =>
  have t0 : DataW.trod enc Tryz.prog w base sp held n 54 (([c0, c1, c2, c3, c4, c5, c6, c7, c8, c9, c10].drop 0).take (Tryz.prog.cellsOf 54)) = some y0 := hf 0 _ rfl
  have t1 : DataW.trod enc Tryz.prog w base sp held n 54 (([c0, c1, c2, c3, c4, c5, c6, c7, c8, c9, c10].drop 2).take (Tryz.prog.cellsOf 54)) = some y1 := hf 1 _ rfl
  have t2 : DataW.trod enc Tryz.prog w base sp held n 54 (([c0, c1, c2, c3, c4, c5, c6, c7, c8, c9, c10].drop 4).take (Tryz.prog.cellsOf 54)) = some y2 := hf 2 _ rfl
  have t3 : DataW.trod enc Tryz.prog w base sp held n 54 (([c0, c1, c2, c3, c4, c5, c6, c7, c8, c9, c10].drop 6).take (Tryz.prog.cellsOf 54)) = some y3 := hf 3 _ rfl
  have t4 : DataW.trod enc Tryz.prog w base sp held n 3 (([c0, c1, c2, c3, c4, c5, c6, c7, c8, c9, c10].drop 8).take (Tryz.prog.cellsOf 3)) = some y4 := hf 4 _ rfl
  have t5 : DataW.trod enc Tryz.prog w base sp held n 54 (([c0, c1, c2, c3, c4, c5, c6, c7, c8, c9, c10].drop 9).take (Tryz.prog.cellsOf 54)) = some y5 := hf 5 _ rfl
  rw [vcS] at t0 t1 t2 t3 t5
  rw [vcI] at t4
  obtain ⟨a0, a1, rfl, rfl⟩ := span_ints t0
  obtain ⟨a2, a3, rfl, rfl⟩ := span_ints t1
  obtain ⟨a4, a5, rfl, rfl⟩ := span_ints t2
  obtain ⟨a6, a7, rfl, rfl⟩ := span_ints t3
  obtain ⟨a8, rfl⟩ := one_int t4
  obtain ⟨a9, a10, rfl, rfl⟩ := span_ints t5
  exact ⟨⟨a0, a1, a2, a3, a4, a5, a6, a7, a8, a9, a10⟩, rfl⟩
def trialCells (t : Trial) : List Value := [.int .i64 t.boy, .int .i64 t.week, .int .i64 t.note, .int .i64 t.sang]
theorem trial_ints (h : DataW.trod enc Tryz.prog w base sp held fuel 111 cs = some x) : ∃ t : Trial, cs = trialCells t := by
 obtain ⟨xs, n, _, hx, hl, hn, hf⟩ := DataW.trod_struct Tryz.underlying111 h
 rw [vcT] at hl
 match cs, hl, xs, hn with
 | [c0, c1, c2, c3], _, [y0, y1, y2, y3], _ =>
  have t0 : DataW.trod enc Tryz.prog w base sp held n 3 (([c0, c1, c2, c3].drop 0).take (Tryz.prog.cellsOf 3)) = some y0 := hf 0 _ rfl
  have t1 : DataW.trod enc Tryz.prog w base sp held n 3 (([c0, c1, c2, c3].drop 1).take (Tryz.prog.cellsOf 3)) = some y1 := hf 1 _ rfl
  have t2 : DataW.trod enc Tryz.prog w base sp held n 3 (([c0, c1, c2, c3].drop 2).take (Tryz.prog.cellsOf 3)) = some y2 := hf 2 _ rfl
  have t3 : DataW.trod enc Tryz.prog w base sp held n 3 (([c0, c1, c2, c3].drop 3).take (Tryz.prog.cellsOf 3)) = some y3 := hf 3 _ rfl
  rw [vcI] at t0 t1 t2 t3
  obtain ⟨a0, rfl⟩ := one_int t0
  obtain ⟨a1, rfl⟩ := one_int t1
  obtain ⟨a2, rfl⟩ := one_int t2
  obtain ⟨a3, rfl⟩ := one_int t3
  exact ⟨⟨a0, a1, a2, a3⟩, rfl⟩
theorem rows_of2 {α : Type} [Inhabited α] {t e : TypeId} {k : Nat} (f : α → List Value) (Q : α → Prop) (hk : 0 < k) (hfl : ∀ y, (f y).length = k) (ht : Tryz.prog.underlying t = some (.slice e)) (hc : Tryz.prog.cellsOf e = k)
  (hel : ∀ (n : Nat) (cs : List Value) (x : DataW H × List MemPlace), DataW.trod enc Tryz.prog w base (fun _ => true) held n e cs = some x → ∃ y, cs = f y ∧ Q y)
  {c : Value} (h : DataW.trod enc Tryz.prog w base (fun _ => true) held fuel t [c] = some x) :
  ∃ (p : Option Addr) (cap : Nat) (l : List α), c = .slice p l.length cap ∧ (l = [] ∨ ∃ es ss, x.1 = .slice es ss ∧ es.length = l.length) ∧ (l = [] ∨ ∃ b o, p = some ⟨b, o, none⟩ ∧ b < w.heap.size ∧ ∀ i y, l[i]? = some y → Q y ∧ ∀ j, j < k → w.cell? ⟨b, o + i * k + j, none⟩ = (f y)[j]?) ∧ l.length ≤ cap := by
 rcases open_slice ht h with ⟨h0, _⟩ | ⟨a, len, cap, m, n, D, Pl, hcs, hb, hl, hm, hmm, hx, hi⟩
 ·simp at h0
  exact ⟨none, 0, [], h0, .inl rfl, .inl rfl, Nat.le_refl _⟩
 ·simp at hcs hmm
  rw [hc] at hi
  obtain ⟨g, hg⟩ := choose_lt (n := len) (p := fun i y => w.cells? base (a.add (i * k)) k = some (f y) ∧ Q y) (fun i hil => by
   obtain ⟨cs', h1, h2⟩ := hi i (by omega)
   obtain ⟨y, rfl, hq⟩ := hel _ _ _ h2
   exact ⟨y, h1, hq⟩)
  refine ⟨some a, cap, (List.range len).map g, by simpa using hcs, .inr ⟨_, _, congrArg Prod.fst hx, by simp⟩, ?_, by simpa using hl⟩
  by_cases h0 : len = 0
  ·exact .inl (by simp [h0])
  right
  have hcell : ∀ i, i < len → ∀ j, j < k → w.cell? ((a.add (i * k)).add j) = (f (g i))[j]? := fun i hil j hj => (World.cells?_some (hg i hil).1).2.2 j hj
  have hz := hcell 0 (by omega) 0 hk
  rw [Nat.zero_mul] at hz
  have he : ((a.add 0).add 0) = a := by simp [Addr.add]
  rw [he, List.getElem?_eq_getElem (by rw [hfl]; exact hk)] at hz
  have hsp := World.cell?_spot hz
  obtain ⟨b, o, s⟩ := a
  simp only at hsp
  subst hsp
  refine ⟨b, o, rfl, Go.Ai.lt_of_cell hz, fun i y hy => ?_⟩
  simp only [List.getElem?_map, Option.map_eq_some_iff] at hy
  obtain ⟨i', hi', rfl⟩ := hy
  obtain ⟨hil, rfl⟩ : i < len ∧ i' = i := by
   have := List.getElem?_eq_some_iff.1 hi'
   obtain ⟨h1, h2⟩ := this
   simp at h1 h2
   exact ⟨h1, h2.symm⟩
  refine ⟨(hg _ hil).2, fun j hj => ?_⟩
  have := hcell _ hil j hj
  rw [add_plain, add_plain] at this
  exact this
def partCells (x : Part) : List Value := [.int .i64 x.lo, .int .i64 x.hi, .int .i64 x.many]
theorem part_ints (h : DataW.trod enc Tryz.prog w base sp held fuel 56 cs = some x) : ∃ b : Part, cs = partCells b ∧ True := by
 obtain ⟨xs, n, _, hx, hl, hn, hf⟩ := DataW.trod_struct Tryz.underlying56 h
 rw [bcP] at hl
 match cs, hl, xs, hn with
 | [c0, c1, c2], _, [y0, y1], _ =>
  have t0 : DataW.trod enc Tryz.prog w base sp held n 54 (([c0, c1, c2].drop 0).take (Tryz.prog.cellsOf 54)) = some y0 := hf 0 _ rfl
  have t1 : DataW.trod enc Tryz.prog w base sp held n 3 (([c0, c1, c2].drop 2).take (Tryz.prog.cellsOf 3)) = some y1 := hf 1 _ rfl
  rw [vcS] at t0
  rw [vcI] at t1
  obtain ⟨a0, a1, rfl, rfl⟩ := span_ints t0
  obtain ⟨a2, rfl⟩ := one_int t1
  exact ⟨⟨a0, a1, a2⟩, rfl, trivial⟩
def pieceCells (x : Piece) : List Value := [.int .i64 x.week, .slice x.p x.parts.length x.cap]
theorem piece_reads (h : DataW.trod enc Tryz.prog w base (fun _ => true) held fuel 51 cs = some x) : ∃ b : Piece, cs = pieceCells b ∧ PieceIs w b := by
 obtain ⟨xs, n, _, hx, hl, hn, hf⟩ := DataW.trod_struct Tryz.underlying51 h
 rw [bcE] at hl
 match cs, hl, xs, hn with
 | [c0, c1], _, [y0, y1], _ =>
  have t0 : DataW.trod enc Tryz.prog w base (fun _ => true) held n 3 (([c0, c1].drop 0).take (Tryz.prog.cellsOf 3)) = some y0 := hf 0 _ rfl
  have t1 : DataW.trod enc Tryz.prog w base (fun _ => true) held n 49 (([c0, c1].drop 1).take (Tryz.prog.cellsOf 49)) = some y1 := hf 1 _ rfl
  rw [vcI] at t0
  rw [bcQ] at t1
  obtain ⟨a0, rfl⟩ := one_int t0
  obtain ⟨p, cap, l, rfl, _, hp, _⟩ := rows_of2 (k := 3) partCells (fun _ => True) (by omega) (fun _ => rfl) Tryz.underlying49 bcP (fun n cs x h => part_ints h) t1
  refine ⟨⟨a0, l, p, cap⟩, rfl, Nat.zero_le _, hp.imp id ?_⟩
  rintro ⟨b, o, rfl, hz, hc⟩
  exact ⟨b, o, rfl, hz, fun i y hy => ⟨(hc i y hy).2 0 (by omega), (hc i y hy).2 1 (by omega), (hc i y hy).2 2 (by omega)⟩⟩
end
theorem kept_but {W W' : World} (hb : Below W.heap.size W W') (may : MemPlace → Prop) : W.keptBut W' may := by
 refine ⟨hb.os, hb.output, fun i hi => ?_⟩
 rw [hb.block i hi]
 cases W.heap[i]? with
 | none => rfl
 | some o => cases o <;> first | exact ⟨rfl, rfl, rfl, fun _ _ => rfl⟩ | exact .inr ⟨rfl, rfl⟩ | rfl
theorem vbB : Tryz.prog.bytesOf 121 = 88 := by kernel_rfl
theorem vbT : Tryz.prog.bytesOf 111 = 32 := by kernel_rfl
theorem few_boys {H : Type} {y : DataW H} {k : Nat} (hw : ∀ n ∈ y.weights Tryz.prog 22, n ≤ reachBytes) (h : ∃ es ss, y = .slice es ss ∧ es.length = k) : k ≤ 140737488355328 := by
 obtain ⟨es, ss, rfl, rfl⟩ := h
 have := hw ((es.length + ss.length) * Tryz.prog.bytesOf 121) (by simp [DataW.weights, Tryz.underlying22])
 rw [vbB] at this
 have := reachBytes_lt
 omega
theorem few_trials {H : Type} {y : DataW H} {k : Nat} (hw : ∀ n ∈ y.weights Tryz.prog 23, n ≤ reachBytes) (h : ∃ es ss, y = .slice es ss ∧ es.length = k) : k ≤ 140737488355328 := by
 obtain ⟨es, ss, rfl, rfl⟩ := h
 have := hw ((es.length + ss.length) * Tryz.prog.bytesOf 111) (by simp [DataW.weights, Tryz.underlying23])
 rw [vbT] at this
 have := reachBytes_lt
 omega
theorem bbE : Tryz.prog.bytesOf 51 = 32 := by kernel_rfl
theorem few_pieces {H : Type} {y : DataW H} {k : Nat} (hw : ∀ n ∈ y.weights Tryz.prog 26, n ≤ reachBytes) (h : ∃ es ss, y = .slice es ss ∧ es.length = k) : k ≤ 140737488355328 := by
 obtain ⟨es, ss, rfl, rfl⟩ := h
 have := hw ((es.length + ss.length) * Tryz.prog.bytesOf 51) (by simp [DataW.weights, Tryz.underlying26])
 rw [bbE] at this
 have := reachBytes_lt
 omega
theorem bbook_weights {H : Type} {y0 y1 y2 z1 z2 : DataW H} {ts : List TypeId} {ds : List (DataW H)} (h : (DataW.weightsEach Tryz.prog (28 :: ts) (.agg [.agg [y0, y1, y2], z1, z2] :: ds)).all (· ≤ reachBytes) = true) :
  (∀ n ∈ y0.weights Tryz.prog 22, n ≤ reachBytes) ∧ (∀ n ∈ y2.weights Tryz.prog 23, n ≤ reachBytes) ∧ ∀ n ∈ z1.weights Tryz.prog 26, n ≤ reachBytes := by
 have hall := fun n hn => of_decide_eq_true (List.all_eq_true.1 h n hn)
 have hin : ∀ n, n ∈ (DataW.agg [.agg [y0, y1, y2], z1, z2]).weights Tryz.prog 28 → n ≤ reachBytes := fun n hn => hall n (DataW.weights_mem_each (j := 0) rfl rfl n hn)
 have hv : ∀ n, n ∈ (DataW.agg [y0, y1, y2]).weights Tryz.prog 25 → n ≤ reachBytes := fun n hn => hin n (by
  simp only [DataW.weights, Tryz.underlying28]
  exact DataW.weights_mem_each (j := 0) rfl rfl n hn)
 refine ⟨fun n hn => hv n ?_, fun n hn => hv n ?_, fun n hn => hin n ?_⟩
 ·simp only [DataW.weights, Tryz.underlying25]
  exact DataW.weights_mem_each (j := 0) rfl rfl n hn
 ·simp only [DataW.weights, Tryz.underlying25]
  exact DataW.weights_mem_each (j := 2) rfl rfl n hn
 ·simp only [DataW.weights, Tryz.underlying28]
  exact DataW.weights_mem_each (j := 1) rfl rfl n hn
theorem len5 {α : Type} {l : List α} (h : l.length = 5) : ∃ a b c d e, l = [a, b, c, d, e] := by
 match l, h with
 | [a, b, c, d, e], _ => exact ⟨a, b, c, d, e, rfl⟩
theorem book_reads {H : Type} {enc : TypeId × Value → H} {W : World} {v : Value} {d : DataW H} {q : List MemPlace} {ts : List TypeId} {ds : List (DataW H)} {r : Reach} {base' : Nat} (hL : laidMetH Tryz.prog bklaid W)
  (hval : Value.okWide Tryz.prog W r base' 28 v) (hw : (DataW.weightsEach Tryz.prog (28 :: ts) (d :: ds)).all (· ≤ reachBytes) = true)
  (h : DataW.Trod enc Tryz.prog W 0 (fun _ => true) true 28 v d q) : ∃ X : BBook, v = X.val ∧ BBookAt W X ∧ Nothing W ∧ Rest W := by
 obtain ⟨l1, l2, l3⟩ := bkof_laid hL
 have hN : Nothing W := fun i hi => (l1 i hi).trans (by match i, hi with | 0, _ => rfl | 1, _ => rfl | 2, _ => rfl | 3, _ => rfl | 4, _ => rfl)
 have hR : Rest W := fun i hi => (l3 i hi).trans (by match i, hi with | 0, _ => rfl | 1, _ => rfl | 2, _ => rfl | 3, _ => rfl)
 have hLd : Laid W := ⟨Go.Ai.lt_of_cell (l2 0 (by omega)), l2 0 (by omega), l2 1 (by omega), l2 2 (by omega), l2 3 (by omega), l2 4 (by omega), l2 5 (by omega), l2 6 (by omega), l2 7 (by omega), l2 8 (by omega), l2 9 (by omega)⟩
 obtain ⟨c0, rfl, hc0⟩ := okWide_struct Tryz.underlying28 hval
 obtain ⟨fu0, hf0⟩ := h
 obtain ⟨y0, y1, y2, n, hy, hl0, t0, t1, t2⟩ := trod_struct3 Tryz.underlying28 hf0
 rw [bcK] at hc0
 obtain ⟨lc⟩ := c0
 obtain ⟨s0, s1, s2, s3, s4, rfl⟩ := len5 (by simpa using hc0)
 clear hc0 hl0 hf0
 have u0 : DataW.trod enc Tryz.prog W 0 (fun _ => true) true n 25 (([s0, s1, s2, s3, s4].drop 0).take (Tryz.prog.cellsOf 25)) = some y0 := t0
 have u1 : DataW.trod enc Tryz.prog W 0 (fun _ => true) true n 26 (([s0, s1, s2, s3, s4].drop 3).take (Tryz.prog.cellsOf 26)) = some y1 := t1
 have u2 : DataW.trod enc Tryz.prog W 0 (fun _ => true) true n 3 (([s0, s1, s2, s3, s4].drop 4).take (Tryz.prog.cellsOf 3)) = some y2 := t2
 rw [vcK] at u0
 rw [bcL] at u1
 rw [vcI] at u2
 have u0' : DataW.trod enc Tryz.prog W 0 (fun _ => true) true n 25 [s0, s1, s2] = some y0 := u0
 obtain ⟨z0, z1, z2, n', hz, _, k0, k1, k2⟩ := trod_struct3 Tryz.underlying25 u0'
 have w0 : DataW.trod enc Tryz.prog W 0 (fun _ => true) true n' 22 (([s0, s1, s2].drop 0).take (Tryz.prog.cellsOf 22)) = some z0 := k0
 have w1 : DataW.trod enc Tryz.prog W 0 (fun _ => true) true n' 3 (([s0, s1, s2].drop 1).take (Tryz.prog.cellsOf 3)) = some z1 := k1
 have w2 : DataW.trod enc Tryz.prog W 0 (fun _ => true) true n' 23 (([s0, s1, s2].drop 2).take (Tryz.prog.cellsOf 23)) = some z2 := k2
 rw [vcL] at w0
 rw [vcI] at w1
 rw [vcM] at w2
 have hy1 := congrArg Prod.fst hy
 have hz1 := congrArg Prod.fst hz
 simp only at hy1 hz1
 rw [hz1] at hy1
 subst hy1
 obtain ⟨hw1, hw2, hw3⟩ := bbook_weights hw
 obtain ⟨wk, rfl⟩ := one_int w1
 obtain ⟨mo, rfl⟩ := one_int u2
 obtain ⟨pb, capb, lb, rfl, nb, hb, _⟩ := rows_of2 (k := 11) boyCells (fun _ => True) (by omega) (fun _ => rfl) Tryz.underlying22 vcB (fun n cs x h => (boy_ints h).imp fun _ h => ⟨h, trivial⟩) w0
 obtain ⟨pt, capt, lt, rfl, nt, ht, hroom⟩ := rows_of2 (k := 4) trialCells (fun _ => True) (by omega) (fun _ => rfl) Tryz.underlying23 vcT (fun n cs x h => (trial_ints h).imp fun _ h => ⟨h, trivial⟩) w2
 obtain ⟨pp, capp, lp, rfl, np, hp, _⟩ := rows_of2 (k := 2) pieceCells (PieceIs W) (by omega) (fun _ => rfl) Tryz.underlying26 bcE (fun n cs x h => piece_reads h) u1
 refine ⟨⟨⟨lb, wk, lt⟩, pb, pt, capb, capt, lp, pp, capp, mo⟩, rfl, ⟨⟨hLd, nb.elim (fun e => by rw [e]; simp) (few_boys hw1), ⟨nt.elim (fun e => by rw [e]; simp) (few_trials hw2), hroom⟩, ?_, ?_⟩, np.elim (fun e => by rw [e]; simp) (few_pieces hw3), ?_⟩, hN, hR⟩
 ·rcases hb with e | ⟨b, o, rfl, hz, hc⟩
  ·exact .inl e
  ·exact .inr ⟨b, o, rfl, hz, fun i y hy => ⟨(hc i y hy).2 0 (by omega), (hc i y hy).2 1 (by omega), (hc i y hy).2 2 (by omega), (hc i y hy).2 3 (by omega), (hc i y hy).2 4 (by omega), (hc i y hy).2 5 (by omega), (hc i y hy).2 6 (by omega), (hc i y hy).2 7 (by omega), (hc i y hy).2 8 (by omega), (hc i y hy).2 9 (by omega), (hc i y hy).2 10 (by omega)⟩⟩
 ·rcases ht with e | ⟨b, o, rfl, hz, hc⟩
  ·exact .inl e
  ·exact .inr ⟨b, o, rfl, hz, fun i y hy => ⟨(hc i y hy).2 0 (by omega), (hc i y hy).2 1 (by omega), (hc i y hy).2 2 (by omega), (hc i y hy).2 3 (by omega)⟩⟩
 ·rcases hp with e | ⟨b, o, rfl, hz, hc⟩
  ·exact .inl e
  ·exact .inr ⟨b, o, rfl, hz, fun i y hy => ⟨⟨(hc i y hy).2 0 (by omega), (hc i y hy).2 1 (by omega)⟩, (hc i y hy).1⟩⟩
end Go.Proofs.YtcllfjjhijkakaaGreatDoor
namespace Go.Proofs.YtcllfjjhijkakaaGreatDoor
open Go.Ai
set_option maxRecDepth 1000000
noncomputable def rpH : List (Nat × Blk) := [(0, .dead), (1, .dead), (2, .dead), (3, .cells false 0 [.chan (some 4), .chan (some 5)]), (4, .res 1 0), (5, .res 1 0)]
noncomputable def rp1 : Ent := ⟨77, [.slice (some ⟨3, 0, none⟩) 1 1, iP 1], 6, rpH, [.cells true 0 [.chan (some 4), .chan (some 5)]], .slice (some ⟨6, 0, none⟩) 1 1⟩
theorem rp1_h : rp1.holds EE := ent0 _ (by kernel_rfl) (by kernel_rfl)
noncomputable def rp2 : Ent := ⟨77, [.slice (some ⟨3, 0, none⟩) 1 1, iP 2], 6, rpH, [.cells true 0 [.chan (some 4), .chan (some 5), .chan (some 4), .chan (some 5)]], .slice (some ⟨6, 0, none⟩) 2 2⟩
theorem rp2_h : rp2.holds EE := ent0 _ (by kernel_rfl) (by kernel_rfl)
noncomputable def rp3 : Ent := ⟨77, [.slice (some ⟨3, 0, none⟩) 1 1, iP 3], 6, rpH, [.cells true 0 [.chan (some 4), .chan (some 5), .chan (some 4), .chan (some 5), .chan (some 4), .chan (some 5)]], .slice (some ⟨6, 0, none⟩) 3 3⟩
theorem rp3_h : rp3.holds EE := ent0 _ (by kernel_rfl) (by kernel_rfl)
end Go.Proofs.YtcllfjjhijkakaaGreatDoor
namespace Go.Proofs.YtcllfjjhijkakaaGreatDoor
open Go.RowKit Go.Sort Go.Rg
set_option maxRecDepth 100000
def CopiesAt (w : World) (g o : Nat) (p k : Int) (m : Nat) : Prop := g < w.heap.size ∧ ∀ i, i < m → w.cell? ⟨g, o + (i * 2), none⟩ = some (.int .i64 p) ∧ w.cell? ⟨g, o + (i * 2 + 1), none⟩ = some (.int .i64 k)
theorem repeat_ent (m : Nat) (E1 : Go.Ai.Ent) (hE : E1.holds EE) (h1 : E1.f = 77) (h2 : E1.args = [.slice (some ⟨3, 0, none⟩) 1 1, .int .i64 (m : Int)]) (h3 : E1.next = 6) (h4 : E1.blks = rpH)
  (h5 : ∃ cs, E1.outs = [.cells true 0 cs] ∧ ∀ i, i < m → cs[i * 2]? = some (.chan (some 4)) ∧ cs[i * 2 + 1]? = some (.chan (some 5))) (h6 : E1.v = .slice (some ⟨6, 0, none⟩) m m) (hm : m < Go.Ai.OPEN) (p k : Int) (g : Nat) (w : World) (c0 : w.cell? ⟨g, 0, none⟩ = some (.int .i64 p)) (c1 : w.cell? ⟨g, 1, none⟩ = some (.int .i64 k)) :
  Calls Tryz.prog 77 #[.slice (some ⟨g, 0, none⟩) 1 1, .int .i64 (m : Int)] w fun e w' => ∃ g' o, e = .returned (.slice (some ⟨g', o, none⟩) m m) ∧ Kept w w' ∧ w.heap.size ≤ g' ∧ CopiesAt w' g' o p k m := by
 have I : Go.Ai.Inv 3 (fun b => match b with | 3 => ⟨g, 0, 0⟩ | 4 => ⟨0, 0, Go.Ai.enc p⟩ | 5 => ⟨0, 0, Go.Ai.enc k⟩ | b => ⟨b, 0, 0⟩) E1.heap w := by
  unfold Go.Ai.Ent.heap
  rw [h3, h4]
  refine Go.Ai.inv_list (by decide) (by unfold rpH; simp) (fun g hg => ?_) (fun b x hx => ?_) (fun b b' x x' hx hx' hl hl' hne => ?_)
  ·match g, hg with
   | 0, _ => exact ⟨by simp [rpH], rfl, rfl⟩
   | 1, _ => exact ⟨by simp [rpH], rfl, rfl⟩
   | 2, _ => exact ⟨by simp [rpH], rfl, rfl⟩
  ·simp only [rpH, List.mem_cons, List.not_mem_nil, or_false, Prod.mk.injEq] at hx
   rcases hx with ⟨rfl, rfl⟩ | ⟨rfl, rfl⟩ | ⟨rfl, rfl⟩ | ⟨rfl, rfl⟩ | ⟨rfl, rfl⟩ | ⟨rfl, rfl⟩
   ·exact ⟨fun h => h.elim, trivial, trivial⟩
   ·exact ⟨fun h => h.elim, trivial, trivial⟩
   ·exact ⟨fun h => h.elim, trivial, trivial⟩
   ·refine ⟨fun _ => Go.Ai.lt_of_cell c0, ⟨fun i v hv => ⟨?_, fun h => by cases h⟩, fun s hs => by cases hs⟩, fun v hv => ?_⟩
    ·match i, hv with
     | 0, hv => simp at hv; subst hv; simpa [Go.Ai.dec_enc] using c0
     | 1, hv => simp at hv; subst hv; simpa [Go.Ai.dec_enc] using c1
     | n + 2, hv => simp at hv
    ·simp only [List.mem_cons, List.not_mem_nil, or_false] at hv
     rcases hv with rfl | rfl
     ·exact Go.Ai.sc_chan (by simp [rpH])
     ·exact Go.Ai.sc_chan (by simp [rpH])
   ·exact ⟨fun h => h.elim, ⟨by decide, by decide, Go.Ai.turnI_one _⟩, trivial⟩
   ·exact ⟨fun h => h.elim, ⟨by decide, by decide, Go.Ai.turnI_one _⟩, trivial⟩
  ·simp only [rpH, List.mem_cons, List.not_mem_nil, or_false, Prod.mk.injEq] at hx hx'
   have e3 : b = 3 := by
    rcases hx with ⟨rfl, rfl⟩ | ⟨rfl, rfl⟩ | ⟨rfl, rfl⟩ | ⟨rfl, rfl⟩ | ⟨rfl, rfl⟩ | ⟨rfl, rfl⟩ <;> first | rfl | exact hl.elim
   have e3' : b' = 3 := by
    rcases hx' with ⟨rfl, rfl⟩ | ⟨rfl, rfl⟩ | ⟨rfl, rfl⟩ | ⟨rfl, rfl⟩ | ⟨rfl, rfl⟩ | ⟨rfl, rfl⟩ <;> first | rfl | exact hl'.elim
   exact absurd (e3.trans e3'.symm) hne
 have hc := Go.Ai.calls_of_ent' hE I
 rw [h1, h2] at hc
 simp only [List.map_cons, List.map_nil, Go.Ai.conc_slice, Go.Ai.conc_int] at hc
 refine hc.mono ?_
 rintro e w' ⟨j2, rfl, A⟩
 obtain ⟨cs, ho, hcs⟩ := h5
 have hn := A.new 0 (.cells true 0 cs) (by rw [ho]; rfl)
 rw [h3] at hn
 obtain ⟨n1, n2, n3, _⟩ := hn
 have o4 : j2 4 = ⟨0, 0, Go.Ai.enc p⟩ := A.old 4 (by unfold Go.Ai.Ent.ids; rw [h4]; simp [rpH])
 have o5 : j2 5 = ⟨0, 0, Go.Ai.enc k⟩ := A.old 5 (by unfold Go.Ai.Ent.ids; rw [h4]; simp [rpH])
 rw [h6]
 refine ⟨(j2 6).blk, (j2 6).off, ?_, ⟨A.os, A.tape, A.output, A.size, A.heap⟩, n1, n2, fun i hi => ?_⟩
 ·simp [Go.Ai.ca, Go.Ai.ccap, hm]
 ·obtain ⟨q0, q1⟩ := hcs i hi
  have r0 := (n3 _ _ q0).1
  have r1 := (n3 _ _ q1).1
  rw [Go.Ai.conc_chan, o4, Go.Ai.dec_enc] at r0
  rw [Go.Ai.conc_chan, o5, Go.Ai.dec_enc] at r1
  exact ⟨r0, r1⟩
theorem repeat_any (m : Nat) (hm : 1 ≤ m ∧ m ≤ 3) (p k : Int) (g : Nat) (w : World) (c0 : w.cell? ⟨g, 0, none⟩ = some (.int .i64 p)) (c1 : w.cell? ⟨g, 1, none⟩ = some (.int .i64 k)) :
  Calls Tryz.prog 77 #[.slice (some ⟨g, 0, none⟩) 1 1, .int .i64 (m : Int)] w fun e w' => ∃ g' o, e = .returned (.slice (some ⟨g', o, none⟩) m m) ∧ Kept w w' ∧ w.heap.size ≤ g' ∧ CopiesAt w' g' o p k m := by
 rcases (show m = 1 ∨ m = 2 ∨ m = 3 by omega) with rfl | rfl | rfl
 ·exact repeat_ent 1 rp1 rp1_h rfl rfl rfl rfl ⟨_, rfl, fun i hi => by match i, hi with | 0, _ => exact ⟨rfl, rfl⟩⟩ rfl (by decide) p k g w c0 c1
 ·exact repeat_ent 2 rp2 rp2_h rfl rfl rfl rfl ⟨_, rfl, fun i hi => by match i, hi with | 0, _ => exact ⟨rfl, rfl⟩ | 1, _ => exact ⟨rfl, rfl⟩⟩ rfl (by decide) p k g w c0 c1
 ·exact repeat_ent 3 rp3 rp3_h rfl rfl rfl rfl ⟨_, rfl, fun i hi => by match i, hi with | 0, _ => exact ⟨rfl, rfl⟩ | 1, _ => exact ⟨rfl, rfl⟩ | 2, _ => exact ⟨rfl, rfl⟩⟩ rfl (by decide) p k g w c0 c1
def StC (c : Nat) (vs : Nat → Value) (R : Value → World → Prop) (V : World) (l : List Oper) (a0 : Act) (listed : Array Bool) (a : Act) (w : World) : Prop :=
 ∃ v, AtSt l.toArray (fun j => if j < c then vs j else v) a0 listed a ∧ Kept V w ∧ (on listed c = true → R v w)
section
variable {l : List Oper} {a0 a : Act} {c : Nat} {vs : Nat → Value} {R : Value → World → Prop} {V w w' : World} {listed : Array Bool} {v : Value} {i : Nat} {o : Oper}
theorem StC.start : StC c vs R V l a0 (Array.replicate l.length false) a0 V.drew := by
 have no : ∀ j, on (Array.replicate l.length false) j = false := fun j => by
  unfold on
  simp only [Array.getD_eq_getD_getElem?, Array.getElem?_replicate]
  split <;> simp
 refine ⟨undef, ⟨rfl, rfl, fun j o d hj => ?_, fun t _ => rfl⟩, kept_drew (kept_refl _), fun h => by rw [no] at h; cases h⟩
 have := no j
 unfold on at this
 rw [this] at hj; cases hj
theorem StC.pure (hd : distFrom l = true) (ha : AtSt l.toArray (fun j => if j < c then vs j else v) a0 listed a) (hk : Kept V w) (hR : on listed c = true → R v w) (ho : l[i]? = some o) (h1 : listed.getD i true = false) (ic : i ≠ c) :
  StC c vs R V l a0 (listed.setIfInBounds i true) (a.put o.dst (if i < c then vs i else v)) w :=
 ⟨v, ha.put (by simpa using ho) h1 (dist_arr hd), hk, by rw [on_set (Ne.symm ic)]; exact hR⟩
theorem StC.called (hd : distFrom l = true) (ha : AtSt l.toArray (fun j => if j < c then vs j else v) a0 listed a) (hl : listed.size = l.length) (ho : l[c]? = some o) (h1 : listed.getD c true = false) (hlater : ∀ j, c < j → on listed j = false) {v' : Value} (hk : Kept V w') (hr : R v' w') :
  StC c vs R V l a0 (listed.setIfInBounds c true) (a.put o.dst v') w' := by
 have hs : ∀ j, listed.getD j false = true → (fun j => if j < c then vs j else v) j = (fun j => if j < c then vs j else v') j := fun j hj => by
  by_cases hjc : j < c
  ·simp [hjc]
  ·by_cases e : j = c
   ·subst e
    have h4 := on_no h1
    unfold on at h4
    rw [h4] at hj; cases hj
   ·have h4 := hlater j (by omega)
    unfold on at h4
    rw [h4] at hj; cases hj
 have hz : c < listed.size := by rw [hl]; exact (List.getElem?_eq_some_iff.1 ho).1
 have := (ha.swap hs).put (i := c) (by simpa using ho) h1 (dist_arr hd)
 simp only [Nat.lt_irrefl, if_false] at this
 exact ⟨v', this, hk, fun _ => hr⟩
end
theorem wpIn_append_lies {F : Fence} {nF : Nat} {P : Program} (w : World) {o : Oper} {a : Act} {K : Act → World → Prop} {Q : Exit → Act → World → Prop} (s x : Operand) (t : TypeId)
  (ho : o.op = .call { callee := .builtin .append, args := #[s, x], argTypes := #[t, t] })
  (base : Nat) (e : TypeId) (i : TypeInfo) (z : Value) (size bytes : Nat) (ht : P.underlying t = some (.slice e)) (hi : P.info? e = some i) (hz : i.zero = some z)
  (hsize : i.size = size) (hby : i.bytes = bytes) (hzs : z.cells.size = size) (hsz : 0 < size)
  (v : Value) (n : Nat) (xs : List Value) (hs : a.eval s = v) (hown : w.ownsRow base e size v n xs)
  (ad : Addr) (m c : Nat) (news : List Value) (hx : a.eval x = .slice (some ad) m c) (hl : news.length = m * size) (hnews : ∀ j u, news[j]? = some u → w.cell? (ad.add j) = some u) (h1 : ∀ u ∈ news, u.oneCell' = true)
  (hm : 0 < m) (h63 : n + m ≤ maxLen) (hbytes : (n + m) * bytes ≤ 140737488355328) (hbase : base ≤ w.heap.size)
  (h : ∀ g cap w', w'.ownsRow base e size (.slice (some ⟨g, 0, none⟩) (n + m) cap) (n + m) (xs ++ news) → w.grownBy w' v.ownBlock → (v.ownBlock = some g ∨ g = w.heap.size) → g < w'.heap.size → K (a.put o.dst (.slice (some ⟨g, 0, none⟩) (n + m) cap)) w') : o.wpIn F nF P a w K Q := by
 obtain ⟨g, cap, w', hr, h2, h3, h4, h5⟩ := run_append_lies (P := P) w t o.type base e i z size bytes ht hi hz hsize hby hzs hsz v n xs hown ad m c news hl hnews h1 hm h63 hbytes hbase w.heap.size rfl
 unfold Oper.wpIn
 refine ⟨by simp [Oper.about, ho, resolve, Target.leads, Sem.run_pure], ?_⟩
 rw [Oper.semAt_plain F _ _ (by rw [ho]; intro c hc'; cases hc')]
 simp [execOp, ho, resolve, invoke, builtin, hs, hx, hr, Result.andThen]
 exact h g cap w' h2 h3 h4 h5
def StA (b c s : Nat) (pre : Nat → Value) (V WB : World) (R : Value → World → Prop) (X : Addr) (l : List Oper) (a0 : Act) (listed : Array Bool) (a : Act) (w : World) : Prop :=
 ∃ r, AtSt l.toArray (fun j => if j = c then r else pre j) a0 listed a ∧ (on listed c = false → w = if on listed b then WB else V.drew) ∧
  (on listed c = true → ∃ wc, R r wc ∧ w = if on listed s then wc.setCell X r else wc)
section
variable {l : List Oper} {a0 a : Act} {b c s : Nat} {pre : Nat → Value} {V WB w : World} {R : Value → World → Prop} {X : Addr} {listed : Array Bool} {i : Nat} {o : Oper} {r : Value}
theorem StA.start : StA b c s pre V WB R X l a0 (Array.replicate l.length false) a0 V.drew := by
 have no : ∀ j, on (Array.replicate l.length false) j = false := fun j => by
  unfold on
  simp only [Array.getD_eq_getD_getElem?, Array.getElem?_replicate]
  split <;> simp
 refine ⟨undef, ⟨rfl, rfl, fun j o d hj => ?_, fun t _ => rfl⟩, (fun _ => by rw [no]; rfl), fun h => by rw [no] at h; cases h⟩
 have := no j
 unfold on at this
 rw [this] at hj; cases hj
theorem StA.pure (hd : distFrom l = true) (ha : AtSt l.toArray (fun j => if j = c then r else pre j) a0 listed a) (hf : on listed c = false → w = if on listed b then WB else V.drew) (ht : on listed c = true → ∃ wc, R r wc ∧ w = if on listed s then wc.setCell X r else wc)
  (ho : l[i]? = some o) (h1 : listed.getD i true = false) (ib : i ≠ b) (ic : i ≠ c) (is : i ≠ s) : StA b c s pre V WB R X l a0 (listed.setIfInBounds i true) (a.put o.dst (pre i)) w := by
 have := ha.put (i := i) (by simpa using ho) h1 (dist_arr hd)
 simp only [if_neg ic] at this
 refine ⟨r, this, ?_, ?_⟩
 ·rw [on_set (Ne.symm ic), on_set (Ne.symm ib)]; exact hf
 ·rw [on_set (Ne.symm ic), on_set (Ne.symm is)]; exact ht
theorem StA.appended (hd : distFrom l = true) (ha : AtSt l.toArray (fun j => if j = c then r else pre j) a0 listed a) (hf : on listed c = false → w = if on listed b then WB else V.drew) (hl : listed.size = l.length)
  (ho : l[c]? = some o) (h1 : listed.getD c true = false) (cs : c ≠ s) (hb : on listed b = true) (hs : on listed s = false) : w = WB ∧ ∀ r' wc, R r' wc → StA b c s pre V WB R X l a0 (listed.setIfInBounds c true) (a.put o.dst r') wc := by
 have hz : c < listed.size := by rw [hl]; exact (List.getElem?_eq_some_iff.1 ho).1
 have hcn := on_no h1
 have hw := hf hcn
 rw [hb] at hw
 refine ⟨hw, fun r' wc hr => ⟨r', ?_, ?_, ?_⟩⟩
 ·have hsw : ∀ j, listed.getD j false = true → (fun j => if j = c then r else pre j) j = (fun j => if j = c then r' else pre j) j := fun j hj => by
   by_cases e : j = c
   ·subst e; unfold on at hcn; rw [hcn] at hj; cases hj
   ·simp [e]
  have := (ha.swap hsw).put (i := c) (by simpa using ho) h1 (dist_arr hd)
  simpa using this
 ·rw [on_self hz]; intro h; cases h
 ·intro _; exact ⟨wc, hr, by rw [on_set (Ne.symm cs), hs]; rfl⟩
theorem StA.stored (hd : distFrom l = true) (ha : AtSt l.toArray (fun j => if j = c then r else pre j) a0 listed a) (ht : on listed c = true → ∃ wc, R r wc ∧ w = if on listed s then wc.setCell X r else wc) (hl : listed.size = l.length)
  (ho : l[s]? = some o) (h1 : listed.getD s true = false) (hn : o.dst = none) (cs : c ≠ s) (hc : on listed c = true) : R r w ∧ StA b c s pre V WB R X l a0 (listed.setIfInBounds s true) a (w.setCell X r) := by
 have hz : s < listed.size := by rw [hl]; exact (List.getElem?_eq_some_iff.1 ho).1
 obtain ⟨wc, hr, hw⟩ := ht hc
 rw [on_no h1] at hw
 have hw : w = wc := hw
 subst hw
 have := ha.put (i := s) (by simpa using ho) h1 (dist_arr hd)
 rw [hn] at this
 refine ⟨hr, r, this, ?_, ?_⟩
 ·rw [on_set cs, hc]; intro h; cases h
 ·intro _; exact ⟨w, hr, by rw [on_self hz]; rfl⟩
end
def trialC (t : Trial) : List Value := [.int .i64 t.boy, .int .i64 t.week, .int .i64 t.note, .int .i64 t.sang]
theorem trials_get : ∀ (l : List Trial) (i k : Nat) (x : Trial), l[i]? = some x → k < 4 → (l.flatMap trialC)[i * 4 + k]? = (trialC x)[k]?
 | y :: l, 0, k, x, h, hk => by
  simp only [List.getElem?_cons_zero, Option.some.injEq] at h
  subst h
  rw [List.flatMap_cons, List.getElem?_append_left (by show 0 * 4 + k < 4; omega)]
  simp
 | y :: l, i + 1, k, x, h, hk => by
  simp only [List.getElem?_cons_succ] at h
  rw [List.flatMap_cons, List.getElem?_append_right (by show 4 ≤ (i + 1) * 4 + k; omega)]
  have : (i + 1) * 4 + k - (trialC y).length = i * 4 + k := by show (i + 1) * 4 + k - 4 = _; omega
  rw [this]
  exact trials_get l i k x h hk
 | [], _, _, _, h, _ => by simp at h
theorem trialsAt_own {w : World} {base g cap : Nat} {l : List Trial} (h : w.ownsRow base 111 4 (.slice (some ⟨g, 0, none⟩) l.length cap) l.length (l.flatMap trialC)) : TrialsAt w g 0 l := by
 refine ⟨(h.lt g rfl).2, fun i x hx => ?_⟩
 have hi : i < l.length := (List.getElem?_eq_some_iff.1 hx).1
 have hc : ∀ k v, k < 4 → (trialC x)[k]? = some v → w.cell? ⟨g, 0 + i * 4 + k, none⟩ = some v := fun k v hk hv => by
  have h1 := h.cellAt (i * 4 + k) (by omega)
  rw [trials_get _ _ _ _ hx hk, hv] at h1
  simpa using h1
 exact ⟨hc 0 _ (by omega) rfl, hc 1 _ (by omega) rfl, hc 2 _ (by omega) rfl, hc 3 _ (by omega) rfl⟩
theorem getD_some {t : Array Value} {i : Nat} (h : i < t.size) : t.toList[i]? = some (t.getD i undef) := by simp [Array.getD_eq_getD_getElem?, h]
structure Gathers (V0 V : World) (xb : Nat) (p : Option Addr) (n cap : Nat) (weeks : Int) (v : Value) (ts : List Trial) : Prop where
 kept : Below xb V0 V
 c0 : V.cell? ⟨xb, 0, none⟩ = some (.slice p n cap)
 c1 : V.cell? ⟨xb, 1, none⟩ = some (.int .i64 weeks)
 c2 : V.cell? ⟨xb, 2, none⟩ = some v
 fr : V.frozen? ⟨xb, 2, none⟩ = false
 row : V.ownsRow (xb + 1) 111 4 v ts.length (ts.flatMap trialC)
def Grew (wr : World) (xb : Nat) (v : Value) (ts : List Trial) (t : Trial) (r : Value) (wc : World) : Prop :=
 ∃ g cap, r = .slice (some ⟨g, 0, none⟩) (ts.length + 1) cap ∧ wc.ownsRow (xb + 1) 111 4 r (ts.length + 1) (ts.flatMap trialC ++ trialC t) ∧ wr.grownBy wc v.ownBlock
theorem Gathers.go {V0 V W : World} {xb n cap : Nat} {p : Option Addr} {weeks : Int} {v : Value} {ts : List Trial} (h : Gathers V0 V xb p n cap weeks v ts) (hk : Kept V W) : Gathers V0 W xb p n cap weeks v ts where
 kept := h.kept.trans (hk.mono (by have := Go.Ai.lt_of_cell h.c0; omega))
 c0 := kcell hk h.c0
 c1 := kcell hk h.c1
 c2 := kcell hk h.c2
 fr := (World.frozen?_of_block (a := ⟨xb, 2, none⟩) (hk.block xb (Go.Ai.lt_of_cell h.c0))).trans h.fr
 row := by
  obtain ⟨h1, h2⟩ := h.row
  refine ⟨h1, h2.imp id ?_⟩
  rintro ⟨g, cap', cur, e1, e2, e3, e4⟩
  refine ⟨g, cap', cur, e1, e2, (hk.block g ?_).trans e3, e4⟩
  rcases Nat.lt_or_ge g V.heap.size with hlt | hge
  ·exact hlt
  ·rw [Array.getElem?_eq_none hge] at e3; cases e3
theorem Gathers.own {V0 V : World} {xb n cap : Nat} {p : Option Addr} {weeks : Int} {v : Value} {ts : List Trial} (h : Gathers V0 V xb p n cap weeks v ts) {k : Nat} (hk : k ≤ xb) : v.ownBlock ≠ some k := fun e => by
 have := (h.row.lt k e).1
 omega
theorem Gathers.trials {V0 V : World} {xb n cap : Nat} {p : Option Addr} {weeks : Int} {v : Value} {ts : List Trial} (h : Gathers V0 V xb p n cap weeks v ts) : ∃ q capt, v = .slice q ts.length capt ∧ (ts = [] ∨ ∃ b o, q = some ⟨b, o, none⟩ ∧ TrialsAt V b o ts) ∧ ts.length ≤ capt := by
 have hrow := h.row
 obtain ⟨h1, h2⟩ := h.row
 rcases h2 with ⟨e, h0⟩ | ⟨g, cap', cur, e, _, _, hnc, _⟩
 ·have : ts = [] := List.length_eq_zero_iff.1 h0
  exact ⟨none, 0, by rw [e, h0], .inl this, by omega⟩
 ·rw [e] at hrow
  exact ⟨some ⟨g, 0, none⟩, cap', e, .inr ⟨g, 0, rfl, trialsAt_own hrow⟩, hnc⟩
def StG (I : (Nat → Value) → (Nat → Bool) → World → Prop) (l : List Oper) (a0 : Act) (listed : Array Bool) (a : Act) (w : World) : Prop :=
 ∃ vs, AtSt l.toArray vs a0 listed a ∧ I vs (on listed) w
theorem on_rep (n j : Nat) : on (Array.replicate n false) j = false := by
 unfold on
 simp only [Array.getD_eq_getD_getElem?, Array.getElem?_replicate]
 split <;> simp
theorem StG.start {I : (Nat → Value) → (Nat → Bool) → World → Prop} {l : List Oper} {a0 : Act} {w : World} (h : I (fun _ => undef) (fun _ => false) w) : StG I l a0 (Array.replicate l.length false) a0 w := by
 refine ⟨fun _ => undef, ⟨rfl, rfl, fun j o d hj => ?_, fun t _ => rfl⟩, ?_⟩
 ·have := on_rep l.length j
  unfold on at this
  rw [this] at hj; cases hj
 ·rw [show on (Array.replicate l.length false) = fun _ => false from funext (on_rep l.length)]; exact h
theorem StG.step {I : (Nat → Value) → (Nat → Bool) → World → Prop} {l : List Oper} {a0 a : Act} {vs : Nat → Value} {listed : Array Bool} {i : Nat} {o : Oper} (hd : distFrom l = true) (ha : AtSt l.toArray vs a0 listed a) (hl : listed.size = l.length) (ho : l[i]? = some o) (h1 : listed.getD i true = false) {v : Value} {w' : World}
  (hI : I (fun j => if j = i then v else vs j) (fun j => if j = i then true else on listed j) w') : StG I l a0 (listed.setIfInBounds i true) (a.put o.dst v) w' := by
 have hz : i < listed.size := by rw [hl]; exact (List.getElem?_eq_some_iff.1 ho).1
 have hn := on_no h1
 have hsw : ∀ j, listed.getD j false = true → vs j = (fun j => if j = i then v else vs j) j := fun j hj => by
  by_cases e : j = i
  ·subst e; unfold on at hn; rw [hn] at hj; cases hj
  ·simp [e]
 have hp := (ha.swap hsw).put (i := i) (by simpa using ho) h1 (dist_arr hd)
 simp only [if_true] at hp
 refine ⟨_, hp, ?_⟩
 rw [show on (listed.setIfInBounds i true) = fun j => if j = i then true else on listed j from funext fun j => by
  by_cases e : j = i
  ·subst e; rw [on_self hz]; simp
  ·rw [on_set e]; simp [e]]
 exact hI
structure Apps (V : World) (e : TypeId) (size n : Nat) (xs news : List Value) (X : Addr) (vs : Nat → Value) (on : Nat → Bool) (w : World) : Prop where
 o30 : on 3 = true → on 0 = true
 o63 : on 6 = true → on 3 = true
 o65 : on 6 = true → on 5 = true
 o86 : on 8 = true → on 6 = true
 kept : on 8 = false → Kept V w
 r0 : on 0 = true → on 3 = false → ∃ g, vs 0 = .slice (some ⟨g, 0, none⟩) 0 0 ∧ w.ownsRow V.heap.size e size (vs 0) 0 []
 r3 : on 3 = true → on 6 = false → w.ownsRow V.heap.size e size (vs 3) n xs
 r5 : on 5 = true → on 6 = false → ∃ g, vs 5 = .slice (some ⟨g, 0, none⟩) 1 1 ∧ g < w.heap.size ∧ V.heap.size ≤ g ∧ (∀ (k : Nat) (u : Value), news[k]? = some u → w.cell? ((⟨g, 0, none⟩ : Addr).add k) = some u) ∧ (on 0 = true → on 3 = false → (vs 0).ownBlock ≠ some g) ∧ (on 3 = true → (vs 3).ownBlock ≠ some g)
 r6 : on 6 = true → ∃ wc, Kept V wc ∧ (∃ g cap, vs 6 = .slice (some ⟨g, 0, none⟩) (n + 1) cap) ∧ wc.ownsRow V.heap.size e size (vs 6) (n + 1) (xs ++ news) ∧ w = if on 8 then wc.setCell X (vs 6) else wc
section
variable {V w w' : World} {e : TypeId} {size n : Nat} {xs news : List Value} {X : Addr} {vs : Nat → Value} {on : Nat → Bool} {v : Value}
theorem Apps.start : Apps V e size n xs news X (fun _ => undef) (fun _ => false) V.drew :=
 ⟨nofun, nofun, nofun, nofun, fun _ => kept_drew (kept_refl V), nofun, nofun, nofun, nofun⟩
theorem Apps.pure (h : Apps V e size n xs news X vs on w) (i : Nat) (h0 : 0 ≠ i) (h3 : 3 ≠ i) (h5 : 5 ≠ i) (h6 : 6 ≠ i) (h8 : 8 ≠ i) : Apps V e size n xs news X (fun j => if j = i then v else vs j) (fun j => if j = i then true else on j) w := by
 obtain ⟨a1, a2, a3, a4, a5, a6, a7, a8, a9⟩ := h
 constructor <;> simp only [if_neg h0, if_neg h3, if_neg h5, if_neg h6, if_neg h8] <;> assumption
theorem Apps.no6 (h : Apps V e size n xs news X vs on w) (h3 : on 3 = false) : on 6 = false := by
 cases b : on 6 with
 | false => rfl
 | true => rw [h.o63 b] at h3; cases h3
theorem tf {p : Prop} {b : Bool} (h1 : b = true) (h2 : b = false) : p := by rw [h1] at h2; cases h2
theorem Apps.stored (h : Apps V e size n xs news X vs on w) (h8 : on 8 = false) (h6 : on 6 = true) :
  Apps V e size n xs news X (fun j => if j = 8 then v else vs j) (fun j => if j = 8 then true else on j) (w.setCell X (vs 6)) := by
 refine ⟨h.o30, h.o63, h.o65, fun _ => h6, fun b => (nomatch b), fun _ b3 => tf (h.o63 h6) b3, fun _ b6 => tf h6 b6, fun _ b6 => tf h6 b6, fun _ => ?_⟩
 obtain ⟨wc, c1, c2, c3, c4⟩ := h.r6 h6
 rw [h8] at c4
 refine ⟨wc, c1, c2, c3, ?_⟩
 rw [c4]; rfl
end
structure Push (V : World) (base : Nat) (e : TypeId) (n : Nat) (row : Value) (xs : List Value) (F : Value → World → Prop) (bl : Nat) (vs : Nat → Value) (on : Nat → Bool) (w : World) : Prop where
 o43 : on 4 = true → on 3 = true
 o54 : on 5 = true → on 4 = true
 o65 : on 6 = true → on 5 = true
 kept : on 5 = false → Kept V w
 r3 : on 3 = true → on 5 = false → F (vs 3) w
 r4 : on 4 = true → on 5 = false → ∃ g, vs 4 = .slice (some ⟨g, 0, none⟩) 1 1 ∧ g < w.heap.size ∧ V.heap.size ≤ g ∧ w.cell? ⟨g, 0, none⟩ = some (vs 3)
 r5 : on 5 = true → ∃ wc, V.grownBy wc row.ownBlock ∧ F (vs 3) wc ∧ wc.ownsRow base e 1 (vs 5) (n + 1) (xs ++ [vs 3]) ∧ (∃ g cap, vs 5 = .slice (some ⟨g, 0, none⟩) (n + 1) cap ∧ (row.ownBlock = some g ∨ V.heap.size ≤ g) ∧ (vs 3).ownBlock ≠ some g ∧ g < wc.heap.size) ∧ w = if on 6 then wc.setCell ⟨bl, 0, none⟩ (vs 5) else wc
section
variable {V w w' : World} {base : Nat} {e : TypeId} {n : Nat} {row : Value} {xs : List Value} {F : Value → World → Prop} {bl : Nat} {vs : Nat → Value} {on : Nat → Bool} {v : Value}
theorem Push.start : Push V base e n row xs F bl (fun _ => undef) (fun _ => false) V.drew :=
 ⟨nofun, nofun, nofun, fun _ => kept_drew (kept_refl V), nofun, nofun, nofun⟩
theorem Push.no4 (h : Push V base e n row xs F bl vs on w) (h3 : on 3 = false) : on 4 = false := by
 cases b : on 4 with
 | false => rfl
 | true => rw [h.o43 b] at h3; cases h3
theorem Push.no5 (h : Push V base e n row xs F bl vs on w) (h4 : on 4 = false) : on 5 = false := by
 cases b : on 5 with
 | false => rfl
 | true => rw [h.o54 b] at h4; cases h4
theorem Push.no6 (h : Push V base e n row xs F bl vs on w) (h5 : on 5 = false) : on 6 = false := by
 cases b : on 6 with
 | false => rfl
 | true => rw [h.o65 b] at h5; cases h5
theorem Push.pure (h : Push V base e n row xs F bl vs on w) (i : Nat) (h3 : 3 ≠ i) (h4 : 4 ≠ i) (h5 : 5 ≠ i) (h6 : 6 ≠ i) : Push V base e n row xs F bl (fun j => if j = i then v else vs j) (fun j => if j = i then true else on j) w := by
 obtain ⟨a1, a2, a3, a4, a5, a6, a7⟩ := h
 constructor <;> simp only [if_neg h3, if_neg h4, if_neg h5, if_neg h6] <;> assumption
theorem Push.called (h : Push V base e n row xs F bl vs on w) (h3 : on 3 = false) (hk : Kept w w') (hF : F v w') :
  Push V base e n row xs F bl (fun j => if j = 3 then v else vs j) (fun j => if j = 3 then true else on j) w' := by
 have h4 := h.no4 h3
 have h5 := h.no5 h4
 have h6 := h.no6 h5
 exact ⟨fun _ => rfl, fun b => tf b h5, fun b => tf b h6, fun _ => kept_trans (h.kept h5) hk, fun _ _ => hF, fun b => tf b h4, fun b => tf b h5⟩
theorem Push.stored (h : Push V base e n row xs F bl vs on w) (h6 : on 6 = false) (h5 : on 5 = true) :
  Push V base e n row xs F bl (fun j => if j = 6 then v else vs j) (fun j => if j = 6 then true else on j) (w.setCell ⟨bl, 0, none⟩ (vs 5)) := by
 refine ⟨h.o43, h.o54, fun _ => h5, fun b => tf h5 b, fun _ b => tf h5 b, fun _ b => tf h5 b, fun _ => ?_⟩
 obtain ⟨wc, c1, c2, c3, c4, c5⟩ := h.r5 h5
 rw [h6] at c5
 exact ⟨wc, c1, c2, c3, c4, by rw [c5]; rfl⟩
end
end Go.Proofs.YtcllfjjhijkakaaGreatDoor
