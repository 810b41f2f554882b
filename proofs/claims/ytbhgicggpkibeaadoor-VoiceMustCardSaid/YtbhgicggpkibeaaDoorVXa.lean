import Derived.Test.YtbhgicggpkibeaaDoorVWa
import Derived.Test.YtbhgicggpkibeaaDoorVRG
import Derived.Test.YtbhgicggpkibeaaDoorAiL
import Derived.RangeFuncNested
import Derived.RangeFuncBound
import Derived.RangeFuncCalls
import Derived.RangeFuncLeaves
import Derived.Shelf.Abstract
import Derived.Shelf.RegionOpen
import Derived.OwnWalkIn
import Derived.TacticsInMore
import Derived.LoopNIn
import Derived.LoopIn
set_option linter.all false
set_option linter.all false
namespace Go.Proofs.YtbhgicggpkibeaaDoor
open Go.RowKit Go.Sort Go.Rg
set_option maxRecDepth 100000
attribute [local go_sem] Oper.semAt_some

theorem wpIn_scope_calm {F : Fence} {n : Nat} {P : Program} {c : Code} {Q : Exit → Act → World → Prop} {a : Act} {w : World} (hg : ∀ l a w, ¬ Q (.goto l) a w) (h : c.wpIn F n P Q a w) : (Code.scope c).wpIn F n P Q a w :=
  Go.Ai.wpIn_scope (wpIn_mono h fun e a w q => ⟨fun l hl => hg l a w (hl ▸ q), q⟩)
theorem kcell {A B : World} (hk : Kept A B) {b o : Nat} {v : Value} (h : A.cell? ⟨b, o, none⟩ = some v) : B.cell? ⟨b, o, none⟩ = some v := ((bcell hk).1 b o (Go.Ai.lt_of_cell h)).trans h
theorem tcell {A B : World} {U : Nat → Prop} (hk : Turns U A B) {b o : Nat} {v : Value} (hu : ¬ U b) (h : A.cell? ⟨b, o, none⟩ = some v) : B.cell? ⟨b, o, none⟩ = some v := (hk.cell (Go.Ai.lt_of_cell h) hu).trans h
theorem kturns {A B : World} (hk : Kept A B) (U : Nat → Prop) : Turns U A B := Turns.below hk

/-- what the iterator of truths works with -/
structure Spot where
  l : Nat
  bt : Nat
  byy : Nat
  bs : Nat
  bc : Nat
  bh : Nat
  k0 : Value
  k1 : Value
  k2 : Value
  k3 : Value
  boy : Int
  lo : Nat → Int
  hi : Nat → Int
  S : Nat → Prop
def Spot.enc (s : Spot) (x : List Int) : Value := .agg (#[s.k0, s.k1, s.k2, s.k3, .int .i64 s.boy] ++ (x.map (Value.int .i64)).toArray)

structure OwnT (s : Spot) (W : World) (pre : List Int) : Prop where
  t0 : W.cell? ⟨s.bt, 0, none⟩ = some s.k0
  t1 : W.cell? ⟨s.bt, 1, none⟩ = some s.k1
  t2 : W.cell? ⟨s.bt, 2, none⟩ = some s.k2
  t3 : W.cell? ⟨s.bt, 3, none⟩ = some s.k3
  t4 : W.cell? ⟨s.bt, 4, none⟩ = some (.int .i64 s.boy)
  num : ∀ i, i < 5 → ∃ v, W.cell? ⟨s.bt, 5 + i, none⟩ = some (.int .i64 v)
  pre : ∀ i v, pre[i]? = some v → W.cell? ⟨s.bt, 5 + i, none⟩ = some (.int .i64 v)
  free : ∀ i, W.frozen? ⟨s.bt, i, none⟩ = false
structure OwnR (s : Spot) (Fx : World → Prop) (W : World) : Prop where
  y : W.cell? ⟨s.byy, 0, none⟩ = some (.func (.yield s.l) #[] #[])
  sp : ∀ i, i < 5 → W.cell? ⟨s.bs, i * 2, none⟩ = some (.int .i64 (s.lo i)) ∧ W.cell? ⟨s.bs, i * 2 + 1, none⟩ = some (.int .i64 (s.hi i))
  c2 : W.cell? ⟨s.bc, 2, none⟩ = some s.k2
  h : W.cell? ⟨s.bh, 0, none⟩ = some (.func (.func 145) #[] #[.pointer (some ⟨s.bt, 0, none⟩), .pointer (some ⟨s.byy, 0, none⟩), .pointer (some ⟨s.bs, 0, none⟩), .pointer (some ⟨s.bc, 0, none⟩), .pointer (some ⟨s.bh, 0, none⟩)])
  fx : Fx W
/-- the spot's blocks are apart, and Fx speaks of them alone -/
structure Spot.Ok (s : Spot) (Fx : World → Prop) : Prop where
  y1 : s.S s.byy
  s1 : s.S s.bs
  c1 : s.S s.bc
  h1 : s.S s.bh
  t1 : ¬ s.S s.bt
  fx : ∀ A B U, Fx A → Turns U A B → (∀ b, s.S b → ¬ U b) → Fx B

theorem OwnT.turns {s : Spot} {A B : World} {pre : List Int} {U : Nat → Prop} (h : OwnT s A pre) (k : Turns U A B) (hu : ¬ U s.bt) : OwnT s B pre where
  t0 := tcell k hu h.t0
  t1 := tcell k hu h.t1
  t2 := tcell k hu h.t2
  t3 := tcell k hu h.t3
  t4 := tcell k hu h.t4
  num := fun i hi => (h.num i hi).imp fun v hv => tcell k hu hv
  pre := fun i v hi => tcell k hu (h.pre i v hi)
  free := fun i => (k.frozen (Go.Ai.lt_of_cell h.t0) hu).trans (h.free i)
theorem OwnR.turns {s : Spot} {Fx : World → Prop} {A B : World} {U : Nat → Prop} (h : OwnR s Fx A) (ok : s.Ok Fx) (k : Turns U A B) (hu : ∀ b, s.S b → ¬ U b) : OwnR s Fx B where
  y := tcell k (hu _ ok.y1) h.y
  sp := fun i hi => ⟨tcell k (hu _ ok.s1) (h.sp i hi).1, tcell k (hu _ ok.s1) (h.sp i hi).2⟩
  c2 := tcell k (hu _ ok.c1) h.c2
  h := tcell k (hu _ ok.h1) h.h
  fx := ok.fx _ _ _ h.fx k hu
theorem OwnT.less {s : Spot} {W : World} {pre : List Int} {x : List Int} (h : OwnT s W (pre ++ x)) : OwnT s W pre :=
  { h with pre := fun i v hv => h.pre i v (by
      have := (List.getElem?_eq_some_iff.1 hv).1
      rw [List.getElem?_append_left this]; exact hv) }

/-- where the iterator stands -/
structure Good (s : Spot) (V : World) (T T' : Nat → Prop) (A : World) : Prop where
  ext : Ext V.heap.size T T'
  small : ∀ b, T' b → b < A.heap.size
  base : Turns T V A
  offS : ∀ b, s.S b → ¬ T' b
  offt : ¬ T' s.bt
  zs : ∀ b, s.S b → b < A.heap.size
  zt : s.bt < A.heap.size
  lot : V.heap.size ≤ s.bt
theorem Good.step {s : Spot} {V A B : World} {T T' T'' : Nat → Prop} (g : Good s V T T' A) (e : Ext A.heap.size T' T'') (z : ∀ b, T'' b → b < B.heap.size) (k : Turns (fun b => T'' b ∨ b = s.bt) A B) : Good s V T T'' B where
  ext := g.ext.trans e g.base.size
  small := z
  base := g.base.trans (T' := fun b => T'' b ∨ b = s.bt) ⟨fun b hb => .inl (e.up _ (g.ext.up _ hb)), fun b hb => by
    rcases hb with hb | rfl
    · rcases e.out b hb with h | h
      · exact g.ext.out b h
      · exact .inr (Nat.le_trans g.base.size h)
    · exact .inr g.lot⟩ k
  offS := fun b hb ht => by
    rcases e.out b ht with h | h
    · exact g.offS b hb h
    · have := g.zs b hb; omega
  offt := fun ht => by
    rcases e.out _ ht with h | h
    · exact g.offt h
    · have := g.zt; omega
  zs := fun b hb => Nat.lt_of_lt_of_le (g.zs b hb) k.size
  zt := Nat.lt_of_lt_of_le g.zt k.size
  lot := g.lot
theorem Good.kept {s : Spot} {V A B : World} {T T' : Nat → Prop} (g : Good s V T T' A) (k : Kept A B) : Good s V T T' B :=
  g.step (Ext.refl _ _) (fun b hb => Nat.lt_of_lt_of_le (g.small b hb) (bcell k).2.2) (kturns k _)
theorem Good.quiet {s : Spot} {V A B : World} {T T' : Nat → Prop} (g : Good s V T T' A) (k : Turns (fun b => b = s.bt) A B) : Quiet V.heap.size T' A B :=
  ⟨k.os, k.tape, k.output, k.size, fun b hb h => k.block b hb (by rintro rfl; rcases h with h | h; have := g.lot; omega; exact g.offt h)⟩

/-- what a call of the chooser leaves -/
def ChooseP (s : Spot) (Fx : World → Prop) (pre : List Int) (len k N : Nat) (J Jx : Nat → (Nat → Prop) → World → Prop) (T' : Nat → Prop) (A : World) (e : Ending) (B : World) : Prop :=
  ∃ T'', Ext A.heap.size T' T'' ∧ (∀ b, T'' b → b < B.heap.size) ∧ Turns (fun b => T'' b ∨ b = s.bt) A B ∧
    ((e = .returned (.bool true) ∧ J (k + len) T'' B ∧ OwnT s B pre) ∨ (e = .returned (.bool false) ∧ ∃ j, j ≤ N ∧ Jx j T'' B))

theorem choose_end (s : Spot) (Fx : World → Prop) (ok : s.Ok Fx) (xs : List (List Int)) (n0 n1 n2 n3 n4 : Int) (r : Bool) (V A : World) (k : Nat) (J Jx : Nat → (Nat → Prop) → World → Prop) (T T' : Nat → Prop)
   (hR : OwnR s Fx A) (hO : OwnT s A [n0, n1, n2, n3, n4]) (g : Good s V T T' A)
   (hkeep : Calls Tryd.prog 146 #[s.enc [n0, n1, n2, n3, n4]] A fun e B => e = .returned (.bool r) ∧ Kept A B)
   (hseg : ∃ rest, xs.drop k = (if r then [[n0, n1, n2, n3, n4]] else []) ++ rest)
   (hJ : ∀ k T' A B, J k T' A → Quiet V.heap.size T' A B → J k T' B)
   (hY : ∀ k x T' A, xs[k]? = some x → Good s V T T' A → J k T' A → RoundTold Tryd.prog s.l (s.enc x) k J Jx T' A)
   (h0 : J k T' A) :
   CallsIn Fence.wide 0 Tryd.prog 145 #[.int .i64 5, .pointer (some ⟨s.bt, 0, none⟩), .pointer (some ⟨s.byy, 0, none⟩), .pointer (some ⟨s.bs, 0, none⟩), .pointer (some ⟨s.bc, 0, none⟩), .pointer (some ⟨s.bh, 0, none⟩)] A (ChooseP s Fx [n0, n1, n2, n3, n4] (if r then 1 else 0) k xs.length J Jx T' A) := by
  have ⟨t0, t1, t2, t3, t4, num, pre, free⟩ := hO
  have y := hR.y
  have p0 := pre 0 n0 rfl
  have p1 := pre 1 n1 rfl
  have p2 := pre 2 n2 rfl
  have p3 := pre 3 n3 rfl
  have p4 := pre 4 n4 rfl
  simp only [Nat.add_zero, Nat.reduceAdd] at p0 p1 p2 p3 p4
  clear pre num free
  simp only [Spot.enc, List.map_cons, List.map_nil, List.append_toArray, List.cons_append, List.nil_append] at hkeep
  cases r with
  | false =>
    have H0 := Lib.hid h0; clear h0
    have HJ := Lib.hid hJ; clear hJ
    clear hY hseg
    simp only [Bool.false_eq_true, if_false]
    refine callsIn_of_wp Tryd.func145 rfl trivial ?_ rfl
    simp only [Tryd.ntmps145, List.size_toArray, List.length_cons, List.length_nil, Nat.reduceAdd, Nat.reduceSub, Array.replicate_succ, Array.replicate_zero, List.push_toArray, List.append_toArray, List.nil_append, List.cons_append]
    gi_wp2
    refine wpIn_scope_calm (fun _ _ _ h => h.elim) ?_
    gi_wp2_with (refine ⟨trivial, rfl, ?_⟩; refine (callsIn_wide.2 hkeep).mono ?_; rintro e w' ⟨rfl, hk⟩)
    refine ⟨fun _ h => (by cases h), ?_⟩
    gi_wp2
    go_ret
    exact ⟨T', Ext.refl _ _, fun b hb => Nat.lt_of_lt_of_le (g.small b hb) (bcell hk).2.2, kturns hk _, .inl ⟨rfl, HJ.out _ _ _ _ H0.out (g.quiet (kturns hk _)), hO.turns (kturns hk (fun _ => False)) (fun h => h)⟩⟩
  | true =>
    have hx : xs[k]? = some [n0, n1, n2, n3, n4] := by
      obtain ⟨rest, hr⟩ := hseg
      have := congrArg (fun z => z[0]?) hr
      simpa using this
    have hy := fun B (hk : Kept A B) => hY k _ T' B hx (g.kept hk) (hJ _ _ _ _ h0 (g.quiet (kturns hk _)))
    simp only [Spot.enc, List.map_cons, List.map_nil, List.append_toArray, List.cons_append, List.nil_append] at hy
    have HO := Lib.hid hO; clear hO
    have hJn : xs.length = xs.length := rfl
    have hlt : k + 1 ≤ xs.length := (List.getElem?_eq_some_iff.1 hx).1
    clear hseg hY hJ h0 hx
    simp only [if_true]
    refine callsIn_of_wp Tryd.func145 rfl trivial ?_ rfl
    simp only [Tryd.ntmps145, List.size_toArray, List.length_cons, List.length_nil, Nat.reduceAdd, Nat.reduceSub, Array.replicate_succ, Array.replicate_zero, List.push_toArray, List.append_toArray, List.nil_append, List.cons_append]
    gi_wp2
    refine wpIn_scope_calm (fun _ _ _ h => h.elim) ?_
    gi_wp2_with (refine ⟨trivial, rfl, ?_⟩; refine (callsIn_wide.2 hkeep).mono ?_; rintro e w' ⟨rfl, hk⟩; clear hkeep; replace t0 := kcell hk t0; replace t1 := kcell hk t1; replace t2 := kcell hk t2; replace t3 := kcell hk t3; replace t4 := kcell hk t4; replace p0 := kcell hk p0; replace p1 := kcell hk p1; replace p2 := kcell hk p2; replace p3 := kcell hk p3; replace p4 := kcell hk p4; replace y := kcell hk y; obtain ⟨fn, tmps, assign, body, hyy, hRR⟩ := hy _ hk; clear hy)
    refine ⟨rfl, hRR.mono ?_⟩
    rintro e W' ⟨T'', hE, hz, hT, (⟨rfl, hJ'⟩ | ⟨rfl, hJx'⟩)⟩
    · clear hRR
      gi_wp2
      go_ret
      exact ⟨T'', hE.less (bcell hk).2.2, hz, (kturns hk _).trans (Ext.refl _ _) (hT.mono fun _ _ h => .inl h), .inl ⟨rfl, hJ', (HO.out.turns (kturns hk (fun _ => False)) (fun h => h)).turns hT (fun h => by rcases hE.out _ h with h | h; exact g.offt h; have := g.zt; have := (bcell hk).2.2; omega)⟩⟩
    · clear hRR
      gi_wp2
      go_ret
      exact ⟨T'', hE.less (bcell hk).2.2, hz, (kturns hk _).trans (Ext.refl _ _) (hT.mono fun _ _ h => .inl h), .inr ⟨rfl, _, hlt, hJx'⟩⟩
end Go.Proofs.YtbhgicggpkibeaaDoor
set_option linter.all false
namespace Go.Proofs.YtbhgicggpkibeaaDoor
open Go.RowKit Go.Sort Go.Rg
set_option maxRecDepth 100000
attribute [local go_sem] Oper.semAt_some

theorem cell_set_ne {W : World} {b o o' : Nat} {v : Value} (h : o ≠ o') : (W.setCell ⟨b, o, none⟩ v).cell? ⟨b, o', none⟩ = W.cell? ⟨b, o', none⟩ := by
  simp only [World.cell?, World.setCell, Array.getElem?_modify, if_pos]
  cases hc : W.heap[b]? with
  | none => simp
  | some x =>
    cases x with
    | cells c e f => simp [Array.getElem?_setIfInBounds_ne h]
    | _ => simp
theorem cell_set_eq {W : World} {b o : Nat} {v u : Value} (h : W.cell? ⟨b, o, none⟩ = some u) : (W.setCell ⟨b, o, none⟩ v).cell? ⟨b, o, none⟩ = some v := World.cell?_setCell_same' _ _ _ (by rw [h]; rfl)
theorem OwnT.set {s : Spot} {W : World} {pre : List Int} (h : OwnT s W pre) (hw : pre.length < 5) (v : Int) : OwnT s (W.setCell ⟨s.bt, 5 + pre.length, none⟩ (.int .i64 v)) (pre ++ [v]) := by
  obtain ⟨u, hu⟩ := h.num _ hw
  refine ⟨(cell_set_ne (by omega)).trans h.t0, (cell_set_ne (by omega)).trans h.t1, (cell_set_ne (by omega)).trans h.t2, (cell_set_ne (by omega)).trans h.t3, (cell_set_ne (by omega)).trans h.t4, fun i hi => ?_, fun i x hx => ?_, fun i => ?_⟩
  · by_cases e : i = pre.length
    · subst e; exact ⟨v, cell_set_eq hu⟩
    · obtain ⟨x, hx⟩ := h.num i hi
      exact ⟨x, (cell_set_ne (by omega)).trans hx⟩
  · by_cases e : i = pre.length
    · subst e
      have : x = v := by simpa using hx.symm
      subst this
      exact cell_set_eq hu
    · have hl : i < (pre ++ [v]).length := (List.getElem?_eq_some_iff.1 hx).1
      have hi : i < pre.length := by simp at hl; omega
      rw [List.getElem?_append_left hi] at hx
      exact (cell_set_ne (by omega)).trans (h.pre i x hx)
  · rw [World.frozen?_setCell]; exact h.free i

theorem seg_at {α : Type} {xs rest : List α} {k m : Nat} {segL : List (List α)} (h : xs.drop k = segL.flatten ++ rest) (hm : m < segL.length) :
    (∃ r, xs.drop (k + (segL.take m).flatten.length) = segL[m] ++ r) ∧ (segL.take (m + 1)).flatten.length = (segL.take m).flatten.length + segL[m].length := by
  have e : segL = segL.take m ++ segL[m] :: segL.drop (m + 1) := by rw [List.getElem_cons_drop, List.take_append_drop]
  constructor
  · refine ⟨(segL.drop (m + 1)).flatten ++ rest, ?_⟩
    rw [← List.drop_drop, h]
    conv => lhs; rw [e]
    simp only [List.flatten_append, List.flatten_cons, List.append_assoc]
    rw [List.drop_left' (by simp [List.take_append, List.take_take])]
  · rw [List.take_succ_eq_append_getElem hm, List.flatten_append, List.length_append, List.flatten_singleton]

set_option maxHeartbeats 4000000 in
theorem choose_step (s : Spot) (Fx : World → Prop) (ok : s.Ok Fx) (xs : List (List Int)) (pre : List Int) (cnt : Nat) (V A : World) (k : Nat) (J Jx : Nat → (Nat → Prop) → World → Prop) (T T' : Nat → Prop)
   (hw : pre.length < 5) (q : Option Addr) (capt : Nat) (lt : List Trial) (hk2 : s.k2 = .slice q lt.length capt) (hlt : lt.length ≤ 6)
   (hFT : ∀ W, Fx W → lt = [] ∨ ∃ bT oT, q = some ⟨bT, oT, none⟩ ∧ TrialsAt W bT oT lt)
   (hc : s.hi pre.length - s.lo pre.length + 1 = cnt) (hc4 : cnt ≤ 4) (hlo : 0 ≤ s.lo pre.length ∧ s.lo pre.length ≤ 100)
   (segf : Int → List (List Int)) (fbB : Int → Bool)
   (hfb : ∀ v n0 n4 : Int, (pre.length = 0 → n0 = v) → (pre.length = 4 → n4 = v) → (lt.any fun t => forbidsB s.boy n0 n4 t.boy t.week t.note t.sang pre.length) = fbB v)
   (hsf : ∀ v, fbB v = true → segf v = [])
   (IH : ∀ v k T' A, s.lo pre.length ≤ v → v ≤ s.hi pre.length → fbB v = false → OwnR s Fx A → OwnT s A (pre ++ [v]) → Good s V T T' A → J k T' A → (∃ rest, xs.drop k = segf v ++ rest) →
      CallsIn Fence.wide 0 Tryd.prog 145 #[.int .i64 ((pre.length : Int) + 1), .pointer (some ⟨s.bt, 0, none⟩), .pointer (some ⟨s.byy, 0, none⟩), .pointer (some ⟨s.bs, 0, none⟩), .pointer (some ⟨s.bc, 0, none⟩), .pointer (some ⟨s.bh, 0, none⟩)] A (ChooseP s Fx (pre ++ [v]) (segf v).length k xs.length J Jx T' A))
   (segL : List (List (List Int))) (hsegL : segL = (List.range cnt).map fun m : Nat => segf (s.lo pre.length + (m : Int)))
   (hR : OwnR s Fx A) (hO : OwnT s A pre) (g : Good s V T T' A)
   (hseg : ∃ rest, xs.drop k = segL.flatten ++ rest)
   (hJ : ∀ k T' A B, J k T' A → Quiet V.heap.size T' A B → J k T' B)
   (h0 : J k T' A) :
   CallsIn Fence.wide 0 Tryd.prog 145 #[.int .i64 (pre.length : Int), .pointer (some ⟨s.bt, 0, none⟩), .pointer (some ⟨s.byy, 0, none⟩), .pointer (some ⟨s.bs, 0, none⟩), .pointer (some ⟨s.bc, 0, none⟩), .pointer (some ⟨s.bh, 0, none⟩)] A (ChooseP s Fx pre segL.flatten.length k xs.length J Jx T' A) := by
  have H0 := Lib.hid h0; clear h0
  have HJ := Lib.hid hJ; clear hJ
  have HIH := Lib.hid IH; clear IH
  have HFB := Lib.hid hfb; clear hfb
  have HSF := Lib.hid hsf; clear hsf
  have HSL := Lib.hid hsegL; clear hsegL
  have HSEG := Lib.hid hseg; clear hseg
  have HFT := Lib.hid hFT; clear hFT
  have HO := Lib.hid hO; clear hO
  have HR := Lib.hid hR; clear hR
  have HG := Lib.hid g; clear g
  have HP : Hid (pre.length = pre.length) := Lib.hid rfl
  generalize hwe : pre.length = which at *
  have hne : decide ((which : Int) = 5) = false := by simp; omega
  have hne2 : ¬ ((which : Int) = 5) := by omega
  have hne3 : ((which : Int) == 5) = false := by simpa using hne2
  obtain ⟨s1, s2⟩ := HR.out.sp which hw
  generalize hrr : ChooseP s Fx pre segL.flatten.length k xs.length J Jx T' A = RR
  refine callsIn_of_wp Tryd.func145 rfl trivial ?_ rfl
  simp only [Tryd.ntmps145, List.size_toArray, List.length_cons, List.length_nil, Nat.reduceAdd, Nat.reduceSub, Array.replicate_succ, Array.replicate_zero, List.push_toArray, List.append_toArray, List.nil_append, List.cons_append]
  gi_wp2
  refine wpIn_scope_calm (fun _ _ _ h => h.elim) ?_
  gi_wp2_with fail
  refine wpIn_label ?_
  have b0 : (A.alloc (Obj.cells #[Value.int IntKind.i64 (s.lo which), Value.int IntKind.i64 (s.hi which)] 35)).cell? ⟨A.heap.size, 0, none⟩ = some (.int .i64 (s.lo which)) := by go_simp
  have b1 : (A.alloc (Obj.cells #[Value.int IntKind.i64 (s.lo which), Value.int IntKind.i64 (s.hi which)] 35)).cell? ⟨A.heap.size, 1, none⟩ = some (.int .i64 (s.hi which)) := by go_simp
  have hkA : Kept A (A.alloc (Obj.cells #[Value.int IntKind.i64 (s.lo which), Value.int IntKind.i64 (s.hi which)] 35)) := kept_alloc (kept_refl _) _
  have hzA : A.heap.size < (A.alloc (Obj.cells #[Value.int IntKind.i64 (s.lo which), Value.int IntKind.i64 (s.hi which)] 35)).heap.size := by simp
  generalize A.alloc (Obj.cells #[Value.int IntKind.i64 (s.lo which), Value.int IntKind.i64 (s.hi which)] 35) = W0 at *
  gi_wp2_with fail
  gi_loopw [31] (fun i W => ∃ (m : Nat) (T1 : Nat → Prop), m ≤ cnt ∧ i = .int .i64 m ∧ Ext (A.heap.size + 1) T' T1 ∧ (∀ b, T1 b → b < W.heap.size) ∧ Turns (fun b => T1 b ∨ b = s.bt) A W ∧ J (k + (segL.take m).flatten.length) T1 W ∧ OwnT s W pre ∧
      W.cell? ⟨A.heap.size, 0, none⟩ = some (.int .i64 (s.lo which)) ∧ W.cell? ⟨A.heap.size, 1, none⟩ = some (.int .i64 (s.hi which)) ∧ A.heap.size < W.heap.size) (fun i W => cnt - (intOf i).toNat)
  case atStart =>
    refine ⟨0, T', by omega, rfl, Ext.refl _ _, fun b hb => Nat.lt_of_lt_of_le (HG.out.small b hb) (bcell hkA).2.2, kturns hkA _, ?_, HO.out.turns (kturns hkA (fun _ => False)) (fun h => h), b0, b1, hzA⟩
    exact HJ.out _ _ _ _ H0.out (HG.out.quiet (kturns hkA _))
  case round =>
    obtain ⟨m, T1, hm, rfl, hE1, hz1, hT1, hJ1, hO1, d0, d1, hzw⟩ := hrel
    obtain ⟨Wo, hWo⟩ : ∃ W, W = wr := ⟨_, rfl⟩
    subst hWo
    have HG1 := Lib.hid (HG.out.step (hE1.less (by omega)) hz1 hT1)
    clear b0 b1
    have HJ1 := Lib.hid hJ1; clear hJ1
    have HO1 := Lib.hid hO1; clear hO1
    have HT1 := Lib.hid hT1; clear hT1
    by_cases hlt2 : m < cnt
    · have hml : m < segL.length := by rw [HSL.out]; simpa using hlt2
      have hsm : (∃ r, xs.drop (k + (segL.take m).flatten.length) = segf (s.lo which + m) ++ r) ∧ (segL.take (m + 1)).flatten.length = (segL.take m).flatten.length + (segf (s.lo which + m)).length := by
        obtain ⟨rest, hr⟩ := HSEG.out
        have := seg_at hr hml
        have e : segL[m] = segf (s.lo which + m) := by simp [HSL.out]
        rwa [e] at this
      have HSM := Lib.hid hsm; clear hsm
      have HIDEND : Hid (∀ (B : World) , Turns (fun b => b = s.bt) Wo B → fbB (s.lo which + m) = true → OwnT s B pre → B.cell? ⟨A.heap.size, 0, none⟩ = some (.int .i64 (s.lo which)) → B.cell? ⟨A.heap.size, 1, none⟩ = some (.int .i64 (s.hi which)) →
          ∃ (m' : Nat) (T1 : Nat → Prop), m' ≤ cnt ∧ Value.int .i64 ((m : Int) + 1) = .int .i64 m' ∧ Ext (A.heap.size + 1) T' T1 ∧ (∀ b, T1 b → b < B.heap.size) ∧ Turns (fun b => T1 b ∨ b = s.bt) A B ∧ J (k + (segL.take m').flatten.length) T1 B ∧ OwnT s B pre ∧
                B.cell? ⟨A.heap.size, 0, none⟩ = some (.int .i64 (s.lo which)) ∧ B.cell? ⟨A.heap.size, 1, none⟩ = some (.int .i64 (s.hi which)) ∧ A.heap.size < B.heap.size) := Lib.hid (by
        intro B hB hf ho h0 h1
        refine ⟨m + 1, T1, by omega, by simp, hE1, fun b hb => Nat.lt_of_lt_of_le (hz1 b hb) hB.size, HT1.out.trans (Ext.refl _ _) (hB.mono fun _ _ h => .inr h), ?_, ho, h0, h1, by have := hB.size; omega⟩
        have := HJ.out _ _ _ _ HJ1.out (HG1.out.quiet hB)
        rw [HSM.out.2, HSF.out _ hf]
        simpa using this)
      have hltI : (m : Int) < cnt := by omega
      obtain ⟨vo, hvo⟩ := HO1.out.num which hw
      have hfr := HO1.out.free (5 + which)
      have hcb : s.bc ≠ s.bt := fun h => ok.t1 (h ▸ ok.c1)
      have hgS : ∀ b, s.S b → ¬ (T1 b ∨ b = s.bt) := fun b hb h => by
        rcases h with h | rfl
        · rcases hE1.out b h with h | h
          · exact HG.out.offS b hb h
          · have := HG.out.zs b hb; omega
        · exact ok.t1 hb
      have HRw := Lib.hid (HR.out.turns ok HT1.out hgS)
      have c2r : Wo.cell? ⟨s.bc, 2, none⟩ = some (.slice q lt.length capt) := hk2 ▸ HRw.out.c2
      have ht12 : Turns (fun b => b = s.bt) Wo (Wo.setCell ⟨s.bt, 5 + which, none⟩ (.int .i64 (s.lo which + m))) := Turns.setCell (T := fun b => b = s.bt) (Turns.refl _ _) rfl _ _
      have HT12 := Lib.hid ht12; clear ht12
      have HO2 : Hid (OwnT s (Wo.setCell ⟨s.bt, 5 + which, none⟩ (.int .i64 (s.lo which + m))) (pre ++ [s.lo which + m])) := Lib.hid (by rw [← hwe]; exact HO1.out.set (by omega) _)
      gi_wp2_with fail
      generalize Wo.setCell ⟨s.bt, 5 + which, none⟩ (.int .i64 (s.lo which + m)) = W1 at *
      have HR2 := Lib.hid (HRw.out.turns ok HT12.out (fun b hb h => ok.t1 (h ▸ hb)))
      have e0 := tcell HT12.out (fun h => by have := HG.out.zt; omega) d0
      have e1 := tcell HT12.out (fun h => by have := HG.out.zt; omega) d1
      obtain ⟨n0, q0⟩ := HO2.out.num 0 (by omega)
      obtain ⟨n1, q1⟩ := HO2.out.num 1 (by omega)
      obtain ⟨n2, q2⟩ := HO2.out.num 2 (by omega)
      obtain ⟨n3, q3⟩ := HO2.out.num 3 (by omega)
      obtain ⟨n4, q4⟩ := HO2.out.num 4 (by omega)
      have HQ : Hid ((lt.any fun t => forbidsB s.boy n0 n4 t.boy t.week t.note t.sang which) = fbB (s.lo which + m)) := Lib.hid (HFB.out _ _ _ (fun h => by
        have := HO2.out.pre 0 (s.lo which + m) (by rw [h] at hwe; simp [List.eq_nil_of_length_eq_zero hwe])
        rw [q0] at this; cases this; rfl) (fun h => by
        have := HO2.out.pre 4 (s.lo which + m) (by rw [List.getElem?_append_right (by omega)]; simp [hwe, h])
        rw [q4] at this; cases this; rfl))
      simp only [Nat.add_zero, Nat.reduceAdd] at q0 q1 q2 q3 q4
      clear d0 d1 hvo hfr c2r vo
      gi_loopw [45] (fun i W => ∃ j : Nat, j ≤ lt.length ∧ i = .int .i64 j ∧ (∀ j' t, j' < j → lt[j']? = some t → forbidsB s.boy n0 n4 t.boy t.week t.note t.sang which = false) ∧ Kept W1 W) (fun i W => lt.length - (intOf i).toNat)
      case atStart => exact ⟨0, by omega, rfl, fun j' t h => by omega, kept_refl _⟩
      case round =>
        obtain ⟨j, hj, rfl, hno, hk3⟩ := hrel
        rename_i wq
        have HNO := Lib.hid hno; clear hno
        by_cases hlt3 : j < lt.length
        · have hltI3 : (j : Int) < lt.length := by omega
          have hget : lt[j]? = some lt[j] := List.getElem?_eq_getElem hlt3
          have hmem : lt[j] ∈ lt := List.getElem_mem hlt3
          generalize lt[j] = t at *
          have HR3 := Lib.hid (HR2.out.turns ok (kturns hk3 (fun _ => False)) (fun _ _ h => h))
          have HO3 := Lib.hid (HO2.out.turns (kturns hk3 (fun _ => False)) (fun h => h))
          rcases HFT.out _ HR3.out.fx with h00 | ⟨bT, oT, rfl, hTT⟩
          · rw [h00] at hmem; cases hmem
          obtain ⟨c0, c1, c2, c3⟩ := hTT.2 j t hget
          have HG3 := Lib.hid hget; clear hget hTT
          have f0 := kcell hk3 q0
          have f1 := kcell hk3 q1
          have f2 := kcell hk3 q2
          have f3 := kcell hk3 q3
          have f4 := kcell hk3 q4
          obtain ⟨g0, g1, g2, g3, g4, _, _, _⟩ := HO3.out
          have hbtz := Go.Ai.lt_of_cell g0
          gi_wp2_with fail
          refine ⟨trivial, rfl, (callsIn_wide.2 (forbids_any _ _ _ _ _ _ _ _ _ _ _ _ _ _ _ _)).mono ?_⟩
          rintro e w' ⟨rfl, hk4⟩
          have hk5 := kept_trans hk3 (kept_trans (kept_alloc (kept_refl _) _) hk4)
          clear f0 f1 f2 f3 f4 g0 g1 g2 g3 g4 c0 c1 c2 c3 hk4
          rcases hv : forbidsB s.boy n0 n4 t.boy t.week t.note t.sang which with _ | _
          · have HNEW : Hid (∀ j' t, j' < j + 1 → lt[j']? = some t → forbidsB s.boy n0 n4 t.boy t.week t.note t.sang which = false) := Lib.hid (by
              intro j' y hj hg
              by_cases e : j' = j
              · subst e; rw [HG3.out] at hg; cases hg; exact hv
              · exact HNO.out j' y (by omega) hg)
            clear hv
            gi_wp2_with fail
            go_roundw
            case rel => exact ⟨j + 1, by omega, by go_num, HNEW.out, hk5⟩
            case measure => simp [intOf]; omega
          · have HF : Hid (fbB (s.lo which + m) = true) := Lib.hid (by
              rw [← HQ.out, List.any_eq_true]
              exact ⟨t, hmem, hv⟩)
            clear hv
            have HEND := Lib.hid (HIDEND.out w' (HT12.out.trans (Ext.refl _ _) (kturns hk5 _)) HF.out (HO2.out.less.turns (kturns hk5 (fun _ => False)) (fun h => h)) (kcell hk5 e0) (kcell hk5 e1))
            gi_wp2_with fail
            go_roundw
            case rel => exact HEND.out
            case measure => simp [intOf]; omega
        · have hltI3 : ¬ (j : Int) < lt.length := by omega
          have HF : Hid (fbB (s.lo which + m) = false) := Lib.hid (by
              rw [← HQ.out, List.any_eq_false]
              intro t ht
              obtain ⟨j', hj', rfl⟩ := List.getElem_of_mem ht
              simp [HNO.out j' _ (by omega) (List.getElem?_eq_getElem hj')])
          have HR3 := Lib.hid (HR2.out.turns ok (kturns hk3 (fun _ => False)) (fun _ _ h => h))
          have HO3 := Lib.hid (HO2.out.turns (kturns hk3 (fun _ => False)) (fun h => h))
          have hh := HR3.out.h
          have HTo : Hid (Turns (fun b => b = s.bt) Wo wr) := Lib.hid (HT12.out.trans (Ext.refl _ _) (kturns hk3 _))
          have HJ3 := Lib.hid (HJ.out _ _ _ _ HJ1.out (HG1.out.quiet HTo.out))
          have HG3 := Lib.hid (HG1.out.step (Ext.refl _ _) (fun b hb => Nat.lt_of_lt_of_le (hz1 b hb) HTo.out.size) (HTo.out.mono fun _ _ h => .inr h))
          have HTUP : Hid (∀ (T2 : Nat → Prop) (B : World), (∀ b, T1 b → T2 b) → Turns (fun b => T2 b ∨ b = s.bt) wr B → Turns (fun b => T2 b ∨ b = s.bt) A B) := Lib.hid (fun T2 B hu hB =>
            ((HT1.out.mono (T' := fun b => T2 b ∨ b = s.bt) fun b _ h => h.imp (hu b) id).trans (Ext.refl _ _) (HTo.out.mono fun _ _ h => .inr h)).trans (Ext.refl _ _) hB)
          have k0 := kcell hk3 e0
          have k1 := kcell hk3 e1
          gi_wp2_with fail
          refine ⟨trivial, rfl, (HIH.out (s.lo which + m) _ _ _ (by omega) (by omega) HF.out HR3.out HO3.out HG3.out HJ3.out HSM.out.1).mono ?_⟩
          rintro e w' ⟨T2, hE2, hz2, hT2, (⟨rfl, hJ2, hO4⟩ | ⟨rfl, j2, hj2, hJx⟩)⟩
          · have HEND : Hid (∃ (m' : Nat) (T1 : Nat → Prop), m' ≤ cnt ∧ Value.int .i64 ((m : Int) + 1) = .int .i64 m' ∧ Ext (A.heap.size + 1) T' T1 ∧ (∀ b, T1 b → b < w'.heap.size) ∧ Turns (fun b => T1 b ∨ b = s.bt) A w' ∧ J (k + (segL.take m').flatten.length) T1 w' ∧ OwnT s w' pre ∧
                w'.cell? ⟨A.heap.size, 0, none⟩ = some (.int .i64 (s.lo which)) ∧ w'.cell? ⟨A.heap.size, 1, none⟩ = some (.int .i64 (s.hi which)) ∧ A.heap.size < w'.heap.size) := Lib.hid (by
              have hno : ¬ (T2 A.heap.size ∨ A.heap.size = s.bt) := by
                have := HG.out.zt
                have := HTo.out.size
                rintro (h | h)
                · rcases hE2.out _ h with h | h
                  · rcases hE1.out _ h with h | h
                    · have := HG.out.small _ h; omega
                    · omega
                  · omega
                · omega
              have hzz := HTo.out.size
              refine ⟨m + 1, T2, by omega, by simp, hE1.trans hE2 (by omega), hz2, ?_, ?_, hO4.less, tcell hT2 hno k0, tcell hT2 hno k1, by have := hT2.size; omega⟩
              · exact HTUP.out T2 _ hE2.up hT2
              · rw [HSM.out.2]; rw [Nat.add_assoc] at hJ2; exact hJ2)
            gi_wp2_with fail
            go_roundw
            case rel => exact HEND.out
            case measure => simp [intOf]; omega
          · clear k0 k1
            gi_wp2_with fail
            subst hrr
            exact ⟨T2, (hE1.less (by omega)).trans hE2 (by have := HTo.out.size; omega), hz2, HTUP.out T2 _ hE2.up hT2, .inr ⟨by first | rfl | simp, j2, hj2, hJx⟩⟩
    · have hltI : ¬ (m : Int) < cnt := by omega
      gi_wp2_with fail
      subst hrr
      have hme : m = cnt := by omega
      refine ⟨T1, hE1.less (by omega), hz1, HT1.out, .inl ⟨rfl, ?_, HO1.out⟩⟩
      have := HJ1.out
      rw [List.take_of_length_le (by rw [HSL.out]; simp [hme])] at this
      exact this
end Go.Proofs.YtbhgicggpkibeaaDoor
set_option linter.all false
namespace Go.Proofs.YtbhgicggpkibeaaDoor
open Go.RowKit Go.Sort Go.Rg
set_option maxRecDepth 100000

/-- is a number of this kind forbidden by some trial? -/
def fbAt (boy : Int) (lt : List Trial) (which : Nat) (v : Int) : Bool := lt.any fun t => forbidsB boy v v t.boy t.week t.note t.sang which
theorem fbAt_eq (boy : Int) (lt : List Trial) (which : Nat) (v n0 n4 : Int) (h0 : which = 0 → n0 = v) (h4 : which = 4 → n4 = v) : (lt.any fun t => forbidsB boy n0 n4 t.boy t.week t.note t.sang which) = fbAt boy lt which v := by
  unfold fbAt
  congr 1
  funext t
  unfold forbidsB
  by_cases e0 : which = 0
  · subst e0; rw [h0 rfl]; simp
  · by_cases e4 : which = 4
    · subst e4; rw [h4 rfl]; simp
    · have a : ¬ (which : Int) = 0 := by omega
      have b : ¬ (which : Int) = 4 := by omega
      simp [a, b, e0, e4]
/-- all numbers behind these that no trial forbids and that keep all trials -/
def gen (lo hi : Nat → Int) (boy : Int) (lt : List Trial) (kp : List Int → Bool) : Nat → List Int → List (List Int)
  | 0, pre => if kp pre then [pre] else []
  | d + 1, pre => (((List.range (hi pre.length - lo pre.length + 1).toNat).map fun m : Nat => if fbAt boy lt pre.length (lo pre.length + (m : Int)) then [] else gen lo hi boy lt kp d (pre ++ [lo pre.length + (m : Int)]))).flatten

def Rng (lo hi : Nat → Int) (pre : List Int) : Prop := ∀ i v, pre[i]? = some v → lo i ≤ v ∧ v ≤ hi i
theorem Rng.snoc {lo hi : Nat → Int} {pre : List Int} {v : Int} (h : Rng lo hi pre) (h1 : lo pre.length ≤ v) (h2 : v ≤ hi pre.length) : Rng lo hi (pre ++ [v]) := fun i x hx => by
  by_cases e : i = pre.length
  · subst e
    have : x = v := by simpa using hx.symm
    subst this
    exact ⟨h1, h2⟩
  · have hl : i < (pre ++ [v]).length := (List.getElem?_eq_some_iff.1 hx).1
    have hi : i < pre.length := by simp at hl; omega
    rw [List.getElem?_append_left hi] at hx
    exact h i x hx

theorem choose_any (s : Spot) (Fx : World → Prop) (ok : s.Ok Fx) (xs : List (List Int)) (V : World) (J Jx : Nat → (Nat → Prop) → World → Prop) (T : Nat → Prop)
   (q : Option Addr) (capt : Nat) (lt : List Trial) (hk2 : s.k2 = .slice q lt.length capt) (hlt : lt.length ≤ 6)
   (hFT : ∀ W, Fx W → lt = [] ∨ ∃ bT oT, q = some ⟨bT, oT, none⟩ ∧ TrialsAt W bT oT lt)
   (hsp : ∀ i, i < 5 → 0 ≤ s.lo i ∧ s.lo i ≤ 100 ∧ s.lo i ≤ s.hi i ∧ s.hi i ≤ s.lo i + 3) (kp : List Int → Bool)
   (hkeep : ∀ x A, x.length = 5 → Rng s.lo s.hi x → Fx A → Calls Tryd.prog 146 #[s.enc x] A fun e B => e = .returned (.bool (kp x)) ∧ Kept A B)
   (hJ : ∀ k T' A B, J k T' A → Quiet V.heap.size T' A B → J k T' B)
   (hY : ∀ k x T' A, xs[k]? = some x → Good s V T T' A → J k T' A → RoundTold Tryd.prog s.l (s.enc x) k J Jx T' A) :
   ∀ (d : Nat) (pre : List Int) (k : Nat) (T' : Nat → Prop) (A : World), pre.length + d = 5 → Rng s.lo s.hi pre → OwnR s Fx A → OwnT s A pre → Good s V T T' A → J k T' A → (∃ rest, xs.drop k = gen s.lo s.hi s.boy lt kp d pre ++ rest) →
   CallsIn Fence.wide 0 Tryd.prog 145 #[.int .i64 (pre.length : Int), .pointer (some ⟨s.bt, 0, none⟩), .pointer (some ⟨s.byy, 0, none⟩), .pointer (some ⟨s.bs, 0, none⟩), .pointer (some ⟨s.bc, 0, none⟩), .pointer (some ⟨s.bh, 0, none⟩)] A
     (ChooseP s Fx pre (gen s.lo s.hi s.boy lt kp d pre).length k xs.length J Jx T' A)
  | 0, pre, k, T', A, hl, hr, hR, hO, g, h0, hs => by
    match pre, hl with
    | [n0, n1, n2, n3, n4], _ =>
      have := choose_end s Fx ok xs n0 n1 n2 n3 n4 (kp [n0, n1, n2, n3, n4]) V A k J Jx T T' hR hO g (hkeep _ _ rfl hr hR.fx) (by simpa [gen] using hs) hJ hY h0
      have e : (gen s.lo s.hi s.boy lt kp 0 [n0, n1, n2, n3, n4]).length = if kp [n0, n1, n2, n3, n4] then 1 else 0 := by
        unfold gen; split <;> rfl
      rw [e]
      exact this
  | d + 1, pre, k, T', A, hl, hr, hR, hO, g, h0, hs => by
    have hb := hsp pre.length (by omega)
    refine choose_step s Fx ok xs pre (s.hi pre.length - s.lo pre.length + 1).toNat V A k J Jx T T' (by omega) q capt lt hk2 hlt hFT (by omega) (by omega) ⟨hb.1, hb.2.1⟩
      (fun v => if fbAt s.boy lt pre.length v then [] else gen s.lo s.hi s.boy lt kp d (pre ++ [v])) (fbAt s.boy lt pre.length) (fun v n0 n4 h0 h4 => fbAt_eq _ _ _ _ _ _ h0 h4) (fun v hv => by simp [hv])
      (fun v k T' A h1 h2 hf hR hO g h0 hs => ?_) _ rfl hR hO g hs hJ h0
    have := choose_any s Fx ok xs V J Jx T q capt lt hk2 hlt hFT hsp kp hkeep hJ hY d (pre ++ [v]) k T' A (by simp; omega) (hr.snoc h1 h2) hR hO g h0 (by simpa [hf] using hs)
    simp only [hf, Bool.false_eq_true, if_false]
    have e : ((pre ++ [v]).length : Int) = (pre.length : Int) + 1 := by simp
    rw [e] at this
    exact this
end Go.Proofs.YtbhgicggpkibeaaDoor
