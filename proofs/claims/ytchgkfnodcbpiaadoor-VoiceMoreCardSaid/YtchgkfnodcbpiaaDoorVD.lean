/- A part of the proof: contracts of the program's functions for every input. No conditions. -/
import Derived.Test.YtchgkfnodcbpiaaDoorVC
import Derived.Laws.EntriesVeiled
import Derived.DeepKeys4
import Derived.WideKeyMaps2
import Derived.WideKeyElems
import Derived.WideKeyEntry
import Derived.Deep.AppendLies
set_option linter.all false
set_option linter.all false
namespace Go.Proofs.YtchgkfnodcbpiaaDoor
open Go.RowKit Go.Sort Go.Rg
set_option maxRecDepth 100000
attribute [local go_sem] Oper.semAt_some

structure Choir where
  bb : Nat
  ob : Nat
  capb : Nat
  capt : Nat
  q : Option Addr
  bm : Nat
  B : Book
def Choir.k0 (c : Choir) : Value := .slice (some ⟨c.bb, c.ob, none⟩) c.B.boys.length c.capb
def Choir.m (c : Choir) : Value := .map (some c.bm)
def Choir.k2 (c : Choir) : Value := .slice c.q c.B.trials.length c.capt

/-- a map of trials tells these at a key; S: the blocks that it reads -/
def Look2 (S : Nat → Prop) (W : World) (bm : Nat) (boy wk : Nat) (l : List Trial) : Prop :=
  ∃ v, S bm ∧ bm < W.heap.size ∧ (∀ W', W'.heap[bm]? = W.heap[bm]? → (Instr.lookup 62 (.map (some bm)) (.agg #[.int .i64 boy, .int .i64 wk]) false).run Tryd.prog W' = .ok v W') ∧
    ((v = .slice none 0 0 ∧ l = []) ∨ ∃ b o cap, v = .slice (some ⟨b, o, none⟩) l.length cap ∧ S b ∧ TrialsAt W b o l)
theorem TrialsAt.turns {A B : World} {U : Nat → Prop} {b o : Nat} {l : List Trial} (h : TrialsAt A b o l) (k : Turns U A B) (hu : ¬ U b) : TrialsAt B b o l :=
  ⟨Nat.lt_of_lt_of_le h.1 k.size, fun i t hi => by
    obtain ⟨c0, c1, c2, c3⟩ := h.2 i t hi
    exact ⟨tcell k hu c0, tcell k hu c1, tcell k hu c2, tcell k hu c3⟩⟩
theorem BoysAt.turns {A B : World} {U : Nat → Prop} {b o : Nat} {l : List Boy} (h : BoysAt A b o l) (k : Turns U A B) (hu : ¬ U b) : BoysAt B b o l :=
  ⟨Nat.lt_of_lt_of_le h.1 k.size, fun i x hi => by
    obtain ⟨c0, c1, c2, c3, c4, c5, c6, c7, c8, c9, c10⟩ := h.2 i x hi
    exact ⟨tcell k hu c0, tcell k hu c1, tcell k hu c2, tcell k hu c3, tcell k hu c4, tcell k hu c5, tcell k hu c6, tcell k hu c7, tcell k hu c8, tcell k hu c9, tcell k hu c10⟩⟩
theorem Look2.turns {S : Nat → Prop} {A B : World} {U : Nat → Prop} {bm : Nat} {boy wk : Nat} {l : List Trial} (h : Look2 S A bm boy wk l) (k : Turns U A B) (hu : ∀ b, S b → ¬ U b) : Look2 S B bm boy wk l := by
  obtain ⟨v, hs, hz, hl, hv⟩ := h
  have hb := k.block bm hz (hu _ hs)
  refine ⟨v, hs, Nat.lt_of_lt_of_le hz k.size, fun W' hW' => hl W' (hW'.trans hb), ?_⟩
  rcases hv with hv | ⟨b, o, cap, e2, hs2, ht⟩
  · exact .inl hv
  · exact .inr ⟨b, o, cap, e2, hs2, ht.turns k (hu _ hs2)⟩
theorem Look2.looks {S : Nat → Prop} {W : World} {bm : Nat} {boy wk : Nat} {l : List Trial} (h : Look2 S W bm boy wk l) : LooksAt W (.map (some bm)) boy wk l := by
  obtain ⟨v, hs, hz, hl, hv⟩ := h
  refine ⟨v, fun W' hk => hl W' (hk.block bm hz), ?_⟩
  rcases hv with hv | ⟨b, o, cap, e2, hs2, ht⟩
  · exact .inl hv
  · exact .inr ⟨b, o, cap, e2, ht⟩

def Book.told (B : Book) (boy wk : Nat) : List Trial := B.trials.filter fun t => decide (t.boy = (boy : Int)) && decide (t.week = (wk : Int))
structure ChoirAt (S : Nat → Prop) (W : World) (c : Choir) : Prop where
  ok : c.B.okB = true
  sb : S c.bb
  boys : BoysAt W c.bb c.ob c.B.boys
  trials : c.B.trials = [] ∨ ∃ b o, c.q = some ⟨b, o, none⟩ ∧ S b ∧ TrialsAt W b o c.B.trials
  looks : ∀ boy wk : Nat, boy < c.B.boys.length → (wk : Int) < c.B.weeks → Look2 S W c.bm boy wk (c.B.told boy wk)
  room : c.B.trials.length ≤ c.capt
theorem ChoirAt.turns {S : Nat → Prop} {A B : World} {U : Nat → Prop} {c : Choir} (h : ChoirAt S A c) (k : Turns U A B) (hu : ∀ b, S b → ¬ U b) : ChoirAt S B c where
  ok := h.ok
  sb := h.sb
  boys := h.boys.turns k (hu _ h.sb)
  trials := h.trials.imp id fun ⟨b, o, e, hs, ht⟩ => ⟨b, o, e, hs, ht.turns k (hu _ hs)⟩
  looks := fun boy wk hb hw => (h.looks boy wk hb hw).turns k hu
  room := h.room

theorem Look2.mono {S S' : Nat → Prop} {A : World} {bm : Nat} {boy wk : Nat} {l : List Trial} (h : Look2 S A bm boy wk l) (hs : ∀ b, S b → S' b) : Look2 S' A bm boy wk l := by
  obtain ⟨v, h1, h2, h3, h4⟩ := h
  exact ⟨v, hs _ h1, h2, h3, h4.imp id fun ⟨b, o, cap, e, h5, h6⟩ => ⟨b, o, cap, e, hs _ h5, h6⟩⟩
theorem ChoirAt.mono {S S' : Nat → Prop} {A : World} {c : Choir} (h : ChoirAt S A c) (hs : ∀ b, S b → S' b) : ChoirAt S' A c where
  ok := h.ok
  sb := hs _ h.sb
  boys := h.boys
  trials := h.trials.imp id fun ⟨b, o, e, h5, h6⟩ => ⟨b, o, e, hs _ h5, h6⟩
  looks := fun boy wk hb hw => (h.looks boy wk hb hw).mono hs
  room := h.room
def Boy.lo (x : Boy) : Nat → Int
  | 0 => x.l0
  | 1 => x.h0
  | 2 => x.g0
  | 3 => x.t0
  | _ => x.b0
def Boy.hi (x : Boy) : Nat → Int
  | 0 => x.l1
  | 1 => x.h1
  | 2 => x.g1
  | 3 => x.t1
  | _ => x.b1
def kpOf (B : Book) (boy : Nat) (x : Boy) (n : List Int) : Bool :=
  (List.range B.weeks.toNat).all fun wk => !((B.told boy wk).any (TB (n.getD 0 0) (n.getD 1 0) (n.getD 2 0) (n.getD 3 0) (n.getD 4 0) x.ls))
def Book.truths (B : Book) (boy : Nat) (x : Boy) : List (List Int) := gen x.lo x.hi boy B.trials (kpOf B boy x) 5 []
theorem spanAt_ok (x : Boy) (h : x.okB = true) : (∀ i, i < 5 → 0 ≤ x.lo i ∧ x.lo i ≤ 40 ∧ x.lo i ≤ x.hi i ∧ x.hi i ≤ x.lo i + 3 ∧ x.hi i ≤ 40) ∧ 0 ≤ x.ls ∧ x.ls ≤ 2 := by
  simp only [Boy.okB, spanAt, spanB, inB, Bool.and_eq_true, decide_eq_true_eq, Bool.not_eq_true', decide_eq_false_iff_not] at h
  refine ⟨fun i hi => ?_, by omega⟩
  match i, hi with
  | 0, _ => simp only [Boy.lo, Boy.hi]; omega
  | 1, _ => simp only [Boy.lo, Boy.hi]; omega
  | 2, _ => simp only [Boy.lo, Boy.hi]; omega
  | 3, _ => simp only [Boy.lo, Boy.hi]; omega
  | 4, _ => simp only [Boy.lo, Boy.hi]; omega

theorem keeps_at (S : Nat → Prop) (c : Choir) (boy : Nat) (x : Boy) (hx : c.B.boys[boy]? = some x) (A : World) (h : ChoirAt S A c) (n0 n1 n2 n3 n4 : Int) (hr : Rng x.lo x.hi [n0, n1, n2, n3, n4]) :
    Calls Tryd.prog 68 #[.agg #[c.k0, .int .i64 c.B.weeks, c.k2, c.m, .int .i64 (boy : Int), .int .i64 n0, .int .i64 n1, .int .i64 n2, .int .i64 n3, .int .i64 n4]] A fun e B => e = .returned (.bool (kpOf c.B boy x [n0, n1, n2, n3, n4])) ∧ Kept A B := by
  have hbl : boy < c.B.boys.length := (List.getElem?_eq_some_iff.1 hx).1
  have hok := h.ok
  simp only [Book.okB, inB, Bool.and_eq_true, decide_eq_true_eq, List.all_eq_true] at hok
  obtain ⟨⟨⟨⟨⟨hb1, hb4⟩, hw1, hw6⟩, ht6⟩, hbo⟩, hto⟩ := hok
  have hxo := hbo x (List.mem_of_getElem? hx)
  obtain ⟨hsp, hls⟩ := spanAt_ok x hxo
  obtain ⟨wk, hwk⟩ := Int.eq_ofNat_of_zero_le (show 0 ≤ c.B.weeks by omega)
  have r1 := hr 1 n1 rfl
  have r2 := hr 2 n2 rfl
  have r3 := hr 3 n3 rfl
  have s1 := hsp 1 (by omega)
  have s2 := hsp 2 (by omega)
  have s3 := hsp 3 (by omega)
  have := keeps_any c.bb c.ob c.B.boys.length c.capb c.k2 c.m wk boy n0 n1 n2 n3 n4 x.ls (c.B.told boy) A hbl (by omega) (h.boys.2 boy x hx).2.2.2.2.2.2.2.2.1 h.boys.1 (by omega) (by omega) (by omega) (by omega) (by omega)
    (fun k hk => (h.looks boy k hbl (by omega)).looks) (fun k hk => Nat.le_trans (List.length_filter_le _ _) ht6) (fun k hk t ht => by
      have := (List.mem_filter.1 ht).2
      simp only [Bool.and_eq_true, decide_eq_true_eq] at this
      omega)
  rw [hwk]
  refine this.mono ?_
  rintro e B ⟨r, hr, rfl, hk⟩
  refine ⟨?_, hk⟩
  have : r = kpOf c.B boy x [n0, n1, n2, n3, n4] := by
    rw [Bool.eq_iff_iff]
    unfold KeepsP at hr
    rw [hr, kpOf, List.all_eq_true, hwk]
    simp
  rw [this]
end Go.Proofs.YtchgkfnodcbpiaaDoor
set_option linter.all false
namespace Go.Proofs.YtchgkfnodcbpiaaDoor
open Go.RowKit Go.Sort Go.Rg
set_option maxRecDepth 100000
attribute [local go_sem] Oper.semAt_some

def encT (c : Choir) (boy : Nat) (n : List Int) : Value := .agg (#[c.k0, .int .i64 c.B.weeks, c.k2, c.m, .int .i64 (boy : Int)] ++ (n.map (Value.int .i64)).toArray)
/-- the boxes of an iterator of truths -/
structure TruthsAt (S : Nat → Prop) (c : Choir) (boy bc by' : Nat) (W : World) : Prop where
  at' : ChoirAt S W c
  c0 : W.cell? ⟨bc, 0, none⟩ = some c.k0
  c1 : W.cell? ⟨bc, 1, none⟩ = some (.int .i64 c.B.weeks)
  c2 : W.cell? ⟨bc, 2, none⟩ = some c.k2
  c3 : W.cell? ⟨bc, 3, none⟩ = some c.m
  b0 : W.cell? ⟨by', 0, none⟩ = some (.int .i64 (boy : Int))

set_option maxHeartbeats 4000000 in
theorem truths1_gives (S : Nat → Prop) (c : Choir) (boy : Nat) (x : Boy) (hx : c.B.boys[boy]? = some x) (bc by' : Nat) :
    Gives Tryd.prog 65 #[.pointer (some ⟨bc, 0, none⟩), .pointer (some ⟨by', 0, none⟩)] (encT c boy) (c.B.truths boy x) (fun b => S b ∨ b = bc ∨ b = by') (TruthsAt S c boy bc by') := by
  intro l T J Jx V hT hS hD hJ hJx hY h0
  obtain ⟨hat, c0, c1, c2, c3, b0⟩ := hD
  have hbl : boy < c.B.boys.length := (List.getElem?_eq_some_iff.1 hx).1
  obtain ⟨x0, x1, x2, x3, x4, x5, x6, x7, x8, x9, x10⟩ := hat.boys.2 boy x hx
  have hok := hat.ok
  simp only [Book.okB, inB, Bool.and_eq_true, decide_eq_true_eq, List.all_eq_true] at hok
  obtain ⟨⟨⟨⟨⟨hb1, hb4⟩, hw1, hw6⟩, ht6⟩, hbo⟩, hto⟩ := hok
  have hzb := hat.boys.1
  have hzc := Go.Ai.lt_of_cell c0
  have hzy := Go.Ai.lt_of_cell b0
  have hxo := hbo x (List.mem_of_getElem? hx)
  have HX := Lib.hid hxo; clear hxo hbo hto
  have HJ := Lib.hid hJ; clear hJ
  have HJX := Lib.hid hJx; clear hJx
  have HY := Lib.hid hY; clear hY
  have H0 := Lib.hid h0; clear h0
  have HT := Lib.hid hT; clear hT
  have HS := Lib.hid hS; clear hS
  have HA := Lib.hid hat; clear hat
  have HXX := Lib.hid hx; clear hx
  unfold Choir.k0 at c0
  unfold Choir.k2 at c2
  unfold Choir.m at c3
  refine (callsIn_wide (n := 0)).1 (callsIn_of_wp Tryd.func65 rfl trivial ?_ rfl)
  simp only [Tryd.ntmps65, List.size_toArray, List.length_cons, List.length_nil, Nat.reduceAdd, Nat.reduceSub, Array.replicate_succ, Array.replicate_zero, List.push_toArray, List.append_toArray, List.nil_append, List.cons_append]
  gi_wp2_with fail
  have y0 : ((V.alloc (Obj.cells #[Value.func (Fn.yield l) #[] #[]] 78)).alloc (Obj.cells #[.slice (some ⟨c.bb, c.ob, none⟩) c.B.boys.length c.capb, .int .i64 c.B.weeks, .slice c.q c.B.trials.length c.capt, .map (some c.bm), .int .i64 (boy : Int), .int .i64 0, .int .i64 0, .int .i64 0, .int .i64 0, .int .i64 0] 76)).cell? ⟨V.heap.size, 0, none⟩ = some (Value.func (Fn.yield l) #[] #[]) := by go_simp
  have hkV : Kept V ((V.alloc (Obj.cells #[Value.func (Fn.yield l) #[] #[]] 78)).alloc (Obj.cells #[.slice (some ⟨c.bb, c.ob, none⟩) c.B.boys.length c.capb, .int .i64 c.B.weeks, .slice c.q c.B.trials.length c.capt, .map (some c.bm), .int .i64 (boy : Int), .int .i64 0, .int .i64 0, .int .i64 0, .int .i64 0, .int .i64 0] 76)) := kept_alloc (kept_alloc (kept_refl _) _) _
  have hzV : ((V.alloc (Obj.cells #[Value.func (Fn.yield l) #[] #[]] 78)).alloc (Obj.cells #[.slice (some ⟨c.bb, c.ob, none⟩) c.B.boys.length c.capb, .int .i64 c.B.weeks, .slice c.q c.B.trials.length c.capt, .map (some c.bm), .int .i64 (boy : Int), .int .i64 0, .int .i64 0, .int .i64 0, .int .i64 0, .int .i64 0] 76)).heap.size = V.heap.size + 2 := by simp
  have hOT : ∀ s : Spot, s.bt = V.heap.size + 1 → s.k0 = c.k0 → s.k1 = .int .i64 c.B.weeks → s.k2 = c.k2 → s.k3 = c.m → s.boy = boy → OwnT s ((V.alloc (Obj.cells #[Value.func (Fn.yield l) #[] #[]] 78)).alloc (Obj.cells #[.slice (some ⟨c.bb, c.ob, none⟩) c.B.boys.length c.capb, .int .i64 c.B.weeks, .slice c.q c.B.trials.length c.capt, .map (some c.bm), .int .i64 (boy : Int), .int .i64 0, .int .i64 0, .int .i64 0, .int .i64 0, .int .i64 0] 76)) [] := by
    intro s e0 e1 e2 e3 e4 e5
    refine ⟨?_, ?_, ?_, ?_, ?_, fun i hi => ?_, fun i v hv => by simp at hv, fun i => ?_⟩
    · rw [e0, e1]; go_simp; rfl
    · rw [e0, e2]; go_simp
    · rw [e0, e3]; go_simp; rfl
    · rw [e0, e4]; go_simp; rfl
    · rw [e0, e5]; go_simp
    · refine ⟨0, ?_⟩
      rw [e0]
      match i, hi with
      | 0, _ => go_simp
      | 1, _ => go_simp
      | 2, _ => go_simp
      | 3, _ => go_simp
      | 4, _ => go_simp
    · rw [e0]; go_simp
  generalize (V.alloc (Obj.cells #[Value.func (Fn.yield l) #[] #[]] 78)).alloc (Obj.cells #[.slice (some ⟨c.bb, c.ob, none⟩) c.B.boys.length c.capb, .int .i64 c.B.weeks, .slice c.q c.B.trials.length c.capt, .map (some c.bm), .int .i64 (boy : Int), .int .i64 0, .int .i64 0, .int .i64 0, .int .i64 0, .int .i64 0] 76) = W1 at *
  have HOT := Lib.hid hOT; clear hOT
  refine ⟨trivial, rfl, (callsIn_wide.2 (known_any _ _ _ _ _ _ _ _ _ _ _ _)).mono ?_⟩
  rintro e w' ⟨rfl, hk1⟩
  gi_wp2_with fail
  have hsp : ∀ i, i < 5 → ((w'.alloc (Obj.cells #[Value.int IntKind.i64 x.l0, Value.int IntKind.i64 x.l1, Value.int IntKind.i64 x.h0, Value.int IntKind.i64 x.h1, Value.int IntKind.i64 x.g0, Value.int IntKind.i64 x.g1, Value.int IntKind.i64 x.t0, Value.int IntKind.i64 x.t1, Value.int IntKind.i64 x.b0, Value.int IntKind.i64 x.b1] 105)).alloc (Obj.cells #[Value.func (Fn.func 67) #[] #[Value.pointer (some ⟨V.heap.size + 1, 0, none⟩), Value.pointer (some ⟨V.heap.size, 0, none⟩), Value.pointer (some ⟨w'.heap.size, 0, none⟩), Value.pointer (some ⟨bc, 0, none⟩), Value.pointer (some ⟨w'.heap.size + 1, 0, none⟩)]] 71)).cell? ⟨w'.heap.size, i * 2, none⟩ = some (.int .i64 (x.lo i)) ∧ ((w'.alloc (Obj.cells #[Value.int IntKind.i64 x.l0, Value.int IntKind.i64 x.l1, Value.int IntKind.i64 x.h0, Value.int IntKind.i64 x.h1, Value.int IntKind.i64 x.g0, Value.int IntKind.i64 x.g1, Value.int IntKind.i64 x.t0, Value.int IntKind.i64 x.t1, Value.int IntKind.i64 x.b0, Value.int IntKind.i64 x.b1] 105)).alloc (Obj.cells #[Value.func (Fn.func 67) #[] #[Value.pointer (some ⟨V.heap.size + 1, 0, none⟩), Value.pointer (some ⟨V.heap.size, 0, none⟩), Value.pointer (some ⟨w'.heap.size, 0, none⟩), Value.pointer (some ⟨bc, 0, none⟩), Value.pointer (some ⟨w'.heap.size + 1, 0, none⟩)]] 71)).cell? ⟨w'.heap.size, i * 2 + 1, none⟩ = some (.int .i64 (x.hi i)) := by
    intro i hi
    match i, hi with
    | 0, _ => exact ⟨by go_simp; rfl, by go_simp; rfl⟩
    | 1, _ => exact ⟨by go_simp; rfl, by go_simp; rfl⟩
    | 2, _ => exact ⟨by go_simp; rfl, by go_simp; rfl⟩
    | 3, _ => exact ⟨by go_simp; rfl, by go_simp; rfl⟩
    | 4, _ => exact ⟨by go_simp; rfl, by go_simp; rfl⟩
  have hfn : ((w'.alloc (Obj.cells #[Value.int IntKind.i64 x.l0, Value.int IntKind.i64 x.l1, Value.int IntKind.i64 x.h0, Value.int IntKind.i64 x.h1, Value.int IntKind.i64 x.g0, Value.int IntKind.i64 x.g1, Value.int IntKind.i64 x.t0, Value.int IntKind.i64 x.t1, Value.int IntKind.i64 x.b0, Value.int IntKind.i64 x.b1] 105)).alloc (Obj.cells #[Value.func (Fn.func 67) #[] #[Value.pointer (some ⟨V.heap.size + 1, 0, none⟩), Value.pointer (some ⟨V.heap.size, 0, none⟩), Value.pointer (some ⟨w'.heap.size, 0, none⟩), Value.pointer (some ⟨bc, 0, none⟩), Value.pointer (some ⟨w'.heap.size + 1, 0, none⟩)]] 71)).cell? ⟨w'.heap.size + 1, 0, none⟩ = some (Value.func (Fn.func 67) #[] #[Value.pointer (some ⟨V.heap.size + 1, 0, none⟩), Value.pointer (some ⟨V.heap.size, 0, none⟩), Value.pointer (some ⟨w'.heap.size, 0, none⟩), Value.pointer (some ⟨bc, 0, none⟩), Value.pointer (some ⟨w'.heap.size + 1, 0, none⟩)]) := by go_simp
  have hkw : Kept w' ((w'.alloc (Obj.cells #[Value.int IntKind.i64 x.l0, Value.int IntKind.i64 x.l1, Value.int IntKind.i64 x.h0, Value.int IntKind.i64 x.h1, Value.int IntKind.i64 x.g0, Value.int IntKind.i64 x.g1, Value.int IntKind.i64 x.t0, Value.int IntKind.i64 x.t1, Value.int IntKind.i64 x.b0, Value.int IntKind.i64 x.b1] 105)).alloc (Obj.cells #[Value.func (Fn.func 67) #[] #[Value.pointer (some ⟨V.heap.size + 1, 0, none⟩), Value.pointer (some ⟨V.heap.size, 0, none⟩), Value.pointer (some ⟨w'.heap.size, 0, none⟩), Value.pointer (some ⟨bc, 0, none⟩), Value.pointer (some ⟨w'.heap.size + 1, 0, none⟩)]] 71)) := kept_alloc (kept_alloc (kept_refl _) _) _
  have hzw : ((w'.alloc (Obj.cells #[Value.int IntKind.i64 x.l0, Value.int IntKind.i64 x.l1, Value.int IntKind.i64 x.h0, Value.int IntKind.i64 x.h1, Value.int IntKind.i64 x.g0, Value.int IntKind.i64 x.g1, Value.int IntKind.i64 x.t0, Value.int IntKind.i64 x.t1, Value.int IntKind.i64 x.b0, Value.int IntKind.i64 x.b1] 105)).alloc (Obj.cells #[Value.func (Fn.func 67) #[] #[Value.pointer (some ⟨V.heap.size + 1, 0, none⟩), Value.pointer (some ⟨V.heap.size, 0, none⟩), Value.pointer (some ⟨w'.heap.size, 0, none⟩), Value.pointer (some ⟨bc, 0, none⟩), Value.pointer (some ⟨w'.heap.size + 1, 0, none⟩)]] 71)).heap.size = w'.heap.size + 2 := by simp
  generalize ((w'.alloc (Obj.cells #[Value.int IntKind.i64 x.l0, Value.int IntKind.i64 x.l1, Value.int IntKind.i64 x.h0, Value.int IntKind.i64 x.h1, Value.int IntKind.i64 x.g0, Value.int IntKind.i64 x.g1, Value.int IntKind.i64 x.t0, Value.int IntKind.i64 x.t1, Value.int IntKind.i64 x.b0, Value.int IntKind.i64 x.b1] 105)).alloc (Obj.cells #[Value.func (Fn.func 67) #[] #[Value.pointer (some ⟨V.heap.size + 1, 0, none⟩), Value.pointer (some ⟨V.heap.size, 0, none⟩), Value.pointer (some ⟨w'.heap.size, 0, none⟩), Value.pointer (some ⟨bc, 0, none⟩), Value.pointer (some ⟨w'.heap.size + 1, 0, none⟩)]] 71)) = A at *
  have hkA : Kept W1 A := kept_trans hk1 hkw
  have hkVA : Kept V A := kept_trans hkV hkA
  have hz1 := (bcell hk1).2.2
  obtain ⟨s, hs⟩ : ∃ s : Spot, s = ⟨l, V.heap.size + 1, V.heap.size, w'.heap.size, bc, w'.heap.size + 1, c.k0, .int .i64 c.B.weeks, c.k2, c.m, (boy : Int), x.lo, x.hi, fun b => S b ∨ b = bc ∨ b = by' ∨ b = V.heap.size ∨ b = w'.heap.size ∨ b = w'.heap.size + 1⟩ := ⟨_, rfl⟩
  have hSV : ∀ b, S b → b < V.heap.size := fun b hb => (HS.out b (.inl hb)).1
  have ok : s.Ok (fun W => ChoirAt S W c) := by
    subst hs
    exact ⟨by simp, by simp, by simp, by simp, by
      rintro (h | h | h | h | h | h)
      · have h2 : V.heap.size + 1 < V.heap.size := hSV _ h
        omega
      · have h2 : V.heap.size + 1 = bc := h
        omega
      · have h2 : V.heap.size + 1 = by' := h
        omega
      · have h2 : V.heap.size + 1 = V.heap.size := h
        omega
      · have h2 : V.heap.size + 1 = w'.heap.size := h
        omega
      · have h2 : V.heap.size + 1 = w'.heap.size + 1 := h
        omega, fun A B U h k hu => h.turns k (fun b hb => hu b (.inl hb))⟩
  have own : OwnR s (fun W => ChoirAt S W c) A := by
    subst hs
    exact ⟨kcell hkA y0, hsp, kcell hkVA c2, hfn, HA.out.turns (kturns hkVA (fun _ => False)) (fun _ _ h => h)⟩
  have ownT : OwnT s A [] := (HOT.out s (by rw [hs]) (by rw [hs]) (by rw [hs]) (by rw [hs]) (by rw [hs]) (by rw [hs])).turns (kturns hkA (fun _ => False)) (fun h => h)
  have good : Good s V T T A := by
    subst hs
    refine ⟨Ext.refl _ _, fun b hb => Nat.lt_of_lt_of_le (HT.out b hb) (bcell hkVA).2.2, kturns hkVA _, ?_, ?_, ?_, ?_, ?_⟩
    · rintro b (h | h | h | h | h | h) ht
      · exact (HS.out b (.inl h)).2 ht
      · exact (HS.out b (.inr (.inl h))).2 ht
      · exact (HS.out b (.inr (.inr h))).2 ht
      all_goals (have := HT.out b ht; omega)
    · intro ht; have := HT.out _ ht; simp at this; omega
    · rintro b (h | h | h | h | h | h)
      · have := hSV _ h; omega
      all_goals omega
    · show V.heap.size + 1 < _; omega
    · show V.heap.size ≤ V.heap.size + 1; omega
  have hspans := (spanAt_ok x HX.out).1
  have key := choose_any s (fun W => ChoirAt S W c) ok (c.B.truths boy x) V J Jx T c.q c.capt c.B.trials (by rw [hs]; rfl) ht6
    (fun W h => h.trials.imp id fun ⟨b, o, e, _, ht⟩ => ⟨b, o, e, ht⟩) (fun i hi => by have := hspans i hi; subst hs; exact ⟨this.1, Int.le_trans this.2.1 (by omega), this.2.2.1, this.2.2.2.1⟩)
    (kpOf c.B boy x) (fun n A hn hr h => by
      match n, hn with
      | [n0, n1, n2, n3, n4], _ => subst hs; exact keeps_at S c boy x HXX.out A h n0 n1 n2 n3 n4 hr)
    HJ.out (fun k n T' A hk g hj => by
      have := HY.out k n T' A hk g.ext g.small g.base hj
      subst hs; exact this)
    5 [] 0 T A rfl (fun i v h => by simp at h) own ownT good (HJ.out _ _ _ _ H0.out (Quiet.below hkVA)) ⟨[], by rw [hs]; simp [Book.truths]⟩
  have key2 : CallsIn Fence.wide 0 Tryd.prog 67 #[.int .i64 0, .pointer (some ⟨V.heap.size + 1, 0, none⟩), .pointer (some ⟨V.heap.size, 0, none⟩), .pointer (some ⟨w'.heap.size, 0, none⟩), .pointer (some ⟨bc, 0, none⟩), .pointer (some ⟨w'.heap.size + 1, 0, none⟩)] A (ChooseP s (fun W => ChoirAt S W c) [] (c.B.truths boy x).length 0 (c.B.truths boy x).length J Jx T A) := by
    subst hs; exact key
  clear key
  refine ⟨trivial, rfl, key2.mono ?_⟩
  rintro e B ⟨T2, hE2, hz2, hT2, (⟨rfl, hJ2, _⟩ | ⟨rfl, j2, hj2, hJx⟩)⟩
  · have g2 := good.step hE2 hz2 hT2
    clear key2 hsp own ownT ok
    gi_wp2_with fail
    go_end0
    exact ⟨⟨_, rfl⟩, g2.base, T2, g2.ext, .inl (by simpa using hJ2)⟩
  · have g2 := good.step hE2 hz2 hT2
    clear key2 hsp own ownT ok
    gi_wp2_with fail
    go_end0
    exact ⟨⟨_, rfl⟩, g2.base, T2, g2.ext, .inr ⟨j2, hj2, hJx⟩⟩
end Go.Proofs.YtchgkfnodcbpiaaDoor
set_option linter.all false
namespace Go.Proofs.YtchgkfnodcbpiaaDoor
open Go.RowKit Go.Sort Go.Rg
set_option maxRecDepth 100000
attribute [local go_sem] Oper.semAt_some

def Choir.val (c : Choir) : Value := .agg #[.slice (some ⟨c.bb, c.ob, none⟩) c.B.boys.length c.capb, .int .i64 c.B.weeks, .slice c.q c.B.trials.length c.capt, .map (some c.bm)]
theorem truths_any (c : Choir) (boy : Nat) (W : World) :
    Calls Tryd.prog 60 #[c.val, .int .i64 (boy : Int)] W fun e B => e = .returned (.func (.func 65) #[] #[.pointer (some ⟨W.heap.size, 0, none⟩), .pointer (some ⟨W.heap.size + 1, 0, none⟩)]) ∧ Kept W B ∧ B.heap.size = W.heap.size + 2 ∧
      B.cell? ⟨W.heap.size, 0, none⟩ = some c.k0 ∧ B.cell? ⟨W.heap.size, 1, none⟩ = some (.int .i64 c.B.weeks) ∧ B.cell? ⟨W.heap.size, 2, none⟩ = some c.k2 ∧ B.cell? ⟨W.heap.size, 3, none⟩ = some c.m ∧ B.cell? ⟨W.heap.size + 1, 0, none⟩ = some (.int .i64 (boy : Int)) := by
  unfold Choir.val
  go_enter Tryd.func60, Tryd.ntmps60
  go_wp2
  go_ret
  refine ⟨rfl, kept_alloc (kept_alloc (kept_refl _) _) _, by simp, ?_, ?_, ?_, ?_, ?_⟩
  · go_simp; rfl
  · go_simp
  · go_simp; rfl
  · go_simp; rfl
  · go_simp

theorem gen_len {lo hi : Nat → Int} {boy : Int} {lt : List Trial} {kp : List Int → Bool} : ∀ (d : Nat) (pre x : List Int), x ∈ gen lo hi boy lt kp d pre → x.length = pre.length + d
  | 0, pre, x, h => by
    unfold gen at h
    split at h
    · simp at h; rw [h]; rfl
    · cases h
  | d + 1, pre, x, h => by
    unfold gen at h
    simp only [List.mem_flatten, List.mem_map] at h
    obtain ⟨l, ⟨m, _, rfl⟩, hx⟩ := h
    split at hx
    · cases hx
    · have := gen_len d _ x hx
      simp at this; omega
theorem truths_len {B : Book} {boy : Nat} {x : Boy} {n : List Int} (h : n ∈ B.truths boy x) : ∃ n0 n1 n2 n3 n4, n = [n0, n1, n2, n3, n4] := by
  have := gen_len 5 [] n h
  match n, this with
  | [n0, n1, n2, n3, n4], _ => exact ⟨n0, n1, n2, n3, n4, rfl⟩

/-- the truths of a boy, from the boxes that the maker lays -/
theorem truthsAt_of {S : Nat → Prop} {c : Choir} {boy : Nat} {W B : World} {n : Nat} (h : ChoirAt S W c) (hk : Kept W B) (hn : (n : Nat) = n)
    (c0 : B.cell? ⟨n, 0, none⟩ = some c.k0) (c1 : B.cell? ⟨n, 1, none⟩ = some (.int .i64 c.B.weeks)) (c2 : B.cell? ⟨n, 2, none⟩ = some c.k2) (c3 : B.cell? ⟨n, 3, none⟩ = some c.m) (b0 : B.cell? ⟨n + 1, 0, none⟩ = some (.int .i64 (boy : Int))) :
    TruthsAt S c boy n (n + 1) B := ⟨h.turns (kturns hk (fun _ => False)) (fun _ _ h => h), c0, c1, c2, c3, b0⟩
theorem TruthsAt.kept {S : Nat → Prop} {c : Choir} {boy bc by' : Nat} {A B : World} (h : TruthsAt S c boy bc by' A) (k : Kept' A B) : TruthsAt S c boy bc by' B :=
  ⟨h.at'.turns k (fun _ _ h => h), tcell k (fun h => h) h.c0, tcell k (fun h => h) h.c1, tcell k (fun h => h) h.c2, tcell k (fun h => h) h.c3, tcell k (fun h => h) h.b0⟩

theorem leave_mark {P : Program} {fn : Func} {R : Ending → World → Prop} {tmps : Array Value} {Db : Nat} {B : World} {v : Value} (hK : B.heap[Db]? = some (.deferred (some [])))
    (h : ∀ C, C = B.putObj Db (.deferred none) → Turns (fun b => b = Db) B C → (results fn tmps).run P C = .ok v C ∧ R (.returned v) C) :
    bodyPostM Fence.wide 0 P fn R .ret { tmps := tmps, defers := [{ target := .collected Db, args := #[] }] } B := by
  obtain ⟨h1, h2⟩ := h _ rfl (Turns.putObj (T := fun b => b = Db) (Turns.refl _ _) (.inl rfl) _)
  exact ⟨by simp, .inl ⟨_, _, rfl, run_takeDeferred hK, _, h1, h2⟩⟩
def numsV (n : List Int) : Value := .agg (n.map (Value.int .i64)).toArray
def firstOf (l : List (List Int)) : List Int := l.headD [-1, -1, -1, -1, -1]

set_option maxHeartbeats 4000000 in
theorem first_any (S : Nat → Prop) (c : Choir) (boy : Nat) (x : Boy) (hx : c.B.boys[boy]? = some x) (W : World) (h : ChoirAt S W c) (hS : ∀ b, S b → b < W.heap.size)
    (hg : ∀ i, i < 5 → W.cell? ⟨0, i, none⟩ = some (.int .i64 (-1))) :
    Calls Tryd.prog 55 #[c.val, .int .i64 (boy : Int)] W fun e B => e = .returned (numsV (firstOf (c.B.truths boy x))) ∧ Kept W B := by
  refine callsIn_wide.1 (callsIn_of_wp_marks (n := 0) Tryd.func55 rfl trivial ?_ rfl)
  simp only [Tryd.ntmps55, List.size_toArray, List.length_cons, List.length_nil, Nat.reduceAdd, Nat.reduceSub, Array.replicate_succ, Array.replicate_zero, List.push_toArray, List.append_toArray, List.nil_append, List.cons_append]
  unfold Choir.val
  gi_wp2_with fail
  have hk0 : Kept W ((W.alloc (Obj.cells #[.slice (some ⟨c.bb, c.ob, none⟩) c.B.boys.length c.capb, .int .i64 c.B.weeks, .slice c.q c.B.trials.length c.capt, .map (some c.bm)] 64)).alloc (Obj.cells #[.int .i64 0, .int .i64 0, .int .i64 0, .int .i64 0, .int .i64 0] 74)) := kept_alloc (kept_alloc (kept_refl _) _) _
  have hz0 : ((W.alloc (Obj.cells #[.slice (some ⟨c.bb, c.ob, none⟩) c.B.boys.length c.capb, .int .i64 c.B.weeks, .slice c.q c.B.trials.length c.capt, .map (some c.bm)] 64)).alloc (Obj.cells #[.int .i64 0, .int .i64 0, .int .i64 0, .int .i64 0, .int .i64 0] 74)).heap.size = W.heap.size + 2 := by simp
  have r0 : ∀ i, i < 5 → ((W.alloc (Obj.cells #[.slice (some ⟨c.bb, c.ob, none⟩) c.B.boys.length c.capb, .int .i64 c.B.weeks, .slice c.q c.B.trials.length c.capt, .map (some c.bm)] 64)).alloc (Obj.cells #[.int .i64 0, .int .i64 0, .int .i64 0, .int .i64 0, .int .i64 0] 74)).cell? ⟨W.heap.size + 1, i, none⟩ = some (.int .i64 0) := by
    intro i hi
    match i, hi with
    | 0, _ => go_simp
    | 1, _ => go_simp
    | 2, _ => go_simp
    | 3, _ => go_simp
    | 4, _ => go_simp
  have rf : ∀ i, ((W.alloc (Obj.cells #[.slice (some ⟨c.bb, c.ob, none⟩) c.B.boys.length c.capb, .int .i64 c.B.weeks, .slice c.q c.B.trials.length c.capt, .map (some c.bm)] 64)).alloc (Obj.cells #[.int .i64 0, .int .i64 0, .int .i64 0, .int .i64 0, .int .i64 0] 74)).frozen? ⟨W.heap.size + 1, i, none⟩ = false := by intro i; go_simp
  generalize ((W.alloc (Obj.cells #[.slice (some ⟨c.bb, c.ob, none⟩) c.B.boys.length c.capb, .int .i64 c.B.weeks, .slice c.q c.B.trials.length c.capt, .map (some c.bm)] 64)).alloc (Obj.cells #[.int .i64 0, .int .i64 0, .int .i64 0, .int .i64 0, .int .i64 0] 74)) = W1 at *
  have hcall := truths_any c boy W1
  unfold Choir.val at hcall
  refine ⟨trivial, rfl, (callsIn_wide.2 hcall).mono ?_⟩
  rintro e W2 ⟨rfl, hk2, hz2, d0, d1, d2, d3, d4⟩
  rw [hz0] at d0 d1 d2 d3 d4 hz2
  gi_wp2_with fail
  have hat := truthsAt_of (h.turns (kturns hk0 (fun _ => False)) (fun _ _ h => h)) hk2 rfl d0 d1 d2 d3 d4
  have q0 : ∀ i, i < 5 → W2.cell? ⟨W.heap.size + 1, i, none⟩ = some (.int .i64 0) := fun i hi => kcell hk2 (r0 i hi)
  have qf : ∀ i, W2.frozen? ⟨W.heap.size + 1, i, none⟩ = false := fun i => ((kturns hk2 (fun _ => False)).frozen (by omega) (fun h => h)).trans (rf i)
  refine wpIn_range (gf := 65) (lb := #[.pointer (some ⟨W.heap.size + 2, 0, none⟩), .pointer (some ⟨W.heap.size + 2 + 1, 0, none⟩)]) rfl (enters_of Tryd.func65 (by kernel_rfl) rfl)
    (truths1_gives S c boy x hx (W.heap.size + 2) (W.heap.size + 2 + 1)) rfl (fun b => b = W.heap.size + 1) (by rintro b rfl; omega) ?hS (fun B hB => hat.kept hB)
    (fun k T' A => k = 0 ∧ T' = (fun b => b = W.heap.size + 1) ∧ (∀ i, i < 5 → A.cell? ⟨W.heap.size + 1, i, none⟩ = some (.int .i64 0)) ∧ (∀ i, A.frozen? ⟨W.heap.size + 1, i, none⟩ = false))
    (fun e k T' A => e = .ret ∧ T' = (fun b => b = W.heap.size + 1) ∧ ∃ n, n = firstOf (c.B.truths boy x) ∧ ∀ i v, n[i]? = some v → A.cell? ⟨W.heap.size + 1, i, none⟩ = some (.int .i64 v))
    ?hI ?hIx ⟨rfl, rfl, q0, qf⟩ ?round ?done ?stop
  case hS =>
    rintro b (hb | rfl | rfl)
    · have := hS b hb
      exact ⟨by omega, by omega⟩
    · exact ⟨by omega, by omega⟩
    · exact ⟨by omega, by omega⟩
  case hI =>
    rintro k T' A B ⟨rfl, rfl, h1, h2⟩ hq
    have hb : W.heap.size + 1 < A.heap.size := Go.Ai.lt_of_cell (h1 0 (by omega))
    exact ⟨rfl, rfl, fun i hi => (hq.cell hb (.inr rfl)).trans (h1 i hi), fun i => (hq.frozen hb (.inr rfl)).trans (h2 i)⟩
  case hIx =>
    rintro e k T' A B ⟨rfl, rfl, n, hn, h1⟩ hq
    exact ⟨rfl, rfl, n, hn, fun i v hv => (hq.cell (Go.Ai.lt_of_cell (h1 i v hv)) (.inr rfl)).trans (h1 i v hv)⟩
  case round =>
    rintro l k n T' A hn hE hz hTA hl hlA hnl ⟨rfl, rfl, h1, h2⟩
    obtain ⟨n0, n1, n2, n3, n4, rfl⟩ := truths_len (List.mem_of_getElem? hn)
    simp only [encT, List.map_cons, List.map_nil, List.append_toArray, List.cons_append, List.nil_append, Choir.k0, Choir.k2, Choir.m]
    gi_wp2_with fail
    refine ⟨_, Ext.refl _ _, (Turns.refl _ _).alloc _, ?_⟩
    intro A2 hA2 hs2 r hr
    have z1 : W.heap.size + 1 < A.heap.size := Go.Ai.lt_of_cell (h1 0 (by omega))
    have e5 := tcell hA2 (by omega) (show (A.alloc (Obj.cells #[.slice (some ⟨c.bb, c.ob, none⟩) c.B.boys.length c.capb, .int .i64 c.B.weeks, .slice c.q c.B.trials.length c.capt, .map (some c.bm), .int .i64 (boy : Int), .int .i64 n0, .int .i64 n1, .int .i64 n2, .int .i64 n3, .int .i64 n4] 76)).cell? ⟨A.heap.size, 5, none⟩ = some (.int .i64 n0) by go_simp)
    have e6 := tcell hA2 (by omega) (show (A.alloc (Obj.cells #[.slice (some ⟨c.bb, c.ob, none⟩) c.B.boys.length c.capb, .int .i64 c.B.weeks, .slice c.q c.B.trials.length c.capt, .map (some c.bm), .int .i64 (boy : Int), .int .i64 n0, .int .i64 n1, .int .i64 n2, .int .i64 n3, .int .i64 n4] 76)).cell? ⟨A.heap.size, 6, none⟩ = some (.int .i64 n1) by go_simp)
    have e7 := tcell hA2 (by omega) (show (A.alloc (Obj.cells #[.slice (some ⟨c.bb, c.ob, none⟩) c.B.boys.length c.capb, .int .i64 c.B.weeks, .slice c.q c.B.trials.length c.capt, .map (some c.bm), .int .i64 (boy : Int), .int .i64 n0, .int .i64 n1, .int .i64 n2, .int .i64 n3, .int .i64 n4] 76)).cell? ⟨A.heap.size, 7, none⟩ = some (.int .i64 n2) by go_simp)
    have e8 := tcell hA2 (by omega) (show (A.alloc (Obj.cells #[.slice (some ⟨c.bb, c.ob, none⟩) c.B.boys.length c.capb, .int .i64 c.B.weeks, .slice c.q c.B.trials.length c.capt, .map (some c.bm), .int .i64 (boy : Int), .int .i64 n0, .int .i64 n1, .int .i64 n2, .int .i64 n3, .int .i64 n4] 76)).cell? ⟨A.heap.size, 8, none⟩ = some (.int .i64 n3) by go_simp)
    have e9 := tcell hA2 (by omega) (show (A.alloc (Obj.cells #[.slice (some ⟨c.bb, c.ob, none⟩) c.B.boys.length c.capb, .int .i64 c.B.weeks, .slice c.q c.B.trials.length c.capt, .map (some c.bm), .int .i64 (boy : Int), .int .i64 n0, .int .i64 n1, .int .i64 n2, .int .i64 n3, .int .i64 n4] 76)).cell? ⟨A.heap.size, 9, none⟩ = some (.int .i64 n4) by go_simp)
    have hk1 : Kept A (A.alloc (Obj.cells #[.slice (some ⟨c.bb, c.ob, none⟩) c.B.boys.length c.capb, .int .i64 c.B.weeks, .slice c.q c.B.trials.length c.capt, .map (some c.bm), .int .i64 (boy : Int), .int .i64 n0, .int .i64 n1, .int .i64 n2, .int .i64 n3, .int .i64 n4] 76)) := kept_alloc (kept_refl _) _
    have p0 := tcell hA2 (by omega) (kcell hk1 (h1 0 (by omega)))
    have p1 := tcell hA2 (by omega) (kcell hk1 (h1 1 (by omega)))
    have p2 := tcell hA2 (by omega) (kcell hk1 (h1 2 (by omega)))
    have p3 := tcell hA2 (by omega) (kcell hk1 (h1 3 (by omega)))
    have p4 := tcell hA2 (by omega) (kcell hk1 (h1 4 (by omega)))
    have pf : ∀ i, A2.frozen? ⟨W.heap.size + 1, i, none⟩ = false := fun i => (hA2.frozen (by simp; omega) (by omega)).trans (((kturns hk1 (fun _ => False)).frozen z1 (fun h => h)).trans (h2 i))
    have f0 := pf 0
    have f1 := pf 1
    have f2 := pf 2
    have f3 := pf 3
    have f4 := pf 4
    clear hA2 hr hk1 pf h1 h2
    gi_wp2_with fail
    have hf : firstOf (c.B.truths boy x) = [n0, n1, n2, n3, n4] := by
      unfold firstOf
      rw [List.headD_eq_head?_getD, List.head?_eq_getElem?, hn]; rfl
    refine ⟨fun b => b = W.heap.size + 1, Ext.refl _ _, ?_, ?_, rfl, rfl, ?_⟩
    · rintro b rfl
      simp; omega
    · exact ((((((Turns.refl (fun b => b = W.heap.size + 1) A2).setCell rfl _ _).setCell rfl _ _).setCell rfl _ _).setCell rfl _ _).setCell rfl _ _)
    · rw [hf]
      intro i v hv
      have z2 : W.heap.size + 1 < A2.heap.size := by omega
      match i, hv with
      | 0, hv => cases hv; go_simp
      | 1, hv => cases hv; go_simp
      | 2, hv => cases hv; go_simp
      | 3, hv => cases hv; go_simp
      | 4, hv => cases hv; go_simp
  case done =>
    rintro Db T' B hDb hnD hE hTB ⟨hl, rfl, h1, h2⟩ hK
    have hnil : c.B.truths boy x = [] := List.eq_nil_of_length_eq_zero hl
    have hkB : Below W.heap.size W B := Below.trans (kept_trans hk0 hk2) (hTB.toBelow (n := W.heap.size) (by rintro b rfl; omega) (by omega))
    have hzR := Go.Ai.lt_of_cell (h1 0 (by omega))
    have p0 := h1 0 (by omega)
    have p1 := h1 1 (by omega)
    have p2 := h1 2 (by omega)
    have p3 := h1 3 (by omega)
    have p4 := h1 4 (by omega)
    have f0 := h2 0
    have f1 := h2 1
    have f2 := h2 2
    have f3 := h2 3
    have f4 := h2 4
    have z0 := Go.Ai.lt_of_cell (hg 0 (by omega))
    have gl : ∀ i, i < 5 → B.cell? ⟨0, i, none⟩ = some (.int .i64 (-1)) := fun i hi => tcell hTB (by omega) (kcell hk2 (kcell hk0 (hg i hi)))
    have g0 := gl 0 (by omega)
    have g1 := gl 1 (by omega)
    have g2 := gl 2 (by omega)
    have g3 := gl 3 (by omega)
    have g4 := gl 4 (by omega)
    clear hg gl h1 h2 r0 rf q0 qf
    gi_wp2_with fail
    have hT5 : Turns (fun b => b = W.heap.size + 1) B (((((B.setCell ⟨W.heap.size + 1, 0, none⟩ (.int .i64 (-1))).setCell ⟨W.heap.size + 1, 1, none⟩ (.int .i64 (-1))).setCell ⟨W.heap.size + 1, 2, none⟩ (.int .i64 (-1))).setCell ⟨W.heap.size + 1, 3, none⟩ (.int .i64 (-1))).setCell ⟨W.heap.size + 1, 4, none⟩ (.int .i64 (-1))) := ((((((Turns.refl (fun b => b = W.heap.size + 1) B).setCell rfl _ _).setCell rfl _ _).setCell rfl _ _).setCell rfl _ _).setCell rfl _ _)
    have hc5 : ∀ i, i < 5 → (((((B.setCell ⟨W.heap.size + 1, 0, none⟩ (.int .i64 (-1))).setCell ⟨W.heap.size + 1, 1, none⟩ (.int .i64 (-1))).setCell ⟨W.heap.size + 1, 2, none⟩ (.int .i64 (-1))).setCell ⟨W.heap.size + 1, 3, none⟩ (.int .i64 (-1))).setCell ⟨W.heap.size + 1, 4, none⟩ (.int .i64 (-1))).cell? ⟨W.heap.size + 1, i, none⟩ = some (.int .i64 (-1)) := by
      intro i hi
      match i, hi with
      | 0, _ => go_simp
      | 1, _ => go_simp
      | 2, _ => go_simp
      | 3, _ => go_simp
      | 4, _ => go_simp
    generalize (((((B.setCell ⟨W.heap.size + 1, 0, none⟩ (.int .i64 (-1))).setCell ⟨W.heap.size + 1, 1, none⟩ (.int .i64 (-1))).setCell ⟨W.heap.size + 1, 2, none⟩ (.int .i64 (-1))).setCell ⟨W.heap.size + 1, 3, none⟩ (.int .i64 (-1))).setCell ⟨W.heap.size + 1, 4, none⟩ (.int .i64 (-1))) = B5 at *
    have hK5 := (hT5.block Db (Array.getElem?_eq_some_iff.1 hK).1 hnD).trans hK
    refine leave_mark (v := numsV [-1, -1, -1, -1, -1]) hK5 fun C hC hCT => ?_
    have q0 := tcell hCT (Ne.symm hnD) (hc5 0 (by omega))
    have q1 := tcell hCT (Ne.symm hnD) (hc5 1 (by omega))
    have q2 := tcell hCT (Ne.symm hnD) (hc5 2 (by omega))
    have q3 := tcell hCT (Ne.symm hnD) (hc5 3 (by omega))
    have q4 := tcell hCT (Ne.symm hnD) (hc5 4 (by omega))
    refine ⟨by simp [results, Tryd.results55, go_sem, numsV, q0, q1, q2, q3, q4], rfl, ?_⟩
    exact Below.trans (Below.trans hkB (hT5.toBelow (by rintro b rfl; omega) (by have := hkB.size; omega))) (hCT.toBelow (by rintro b rfl; omega) (by have := hkB.size; have := hT5.size; omega))
  case stop =>
    rintro Db e k T' B hDb hnD hE hTB hk ⟨rfl, rfl, n, hn, h1⟩ hK
    gi_wp2_with fail
    obtain ⟨n0, n1, n2, n3, n4, hne⟩ : ∃ n0 n1 n2 n3 n4, firstOf (c.B.truths boy x) = [n0, n1, n2, n3, n4] := by
      unfold firstOf
      cases ht : c.B.truths boy x with
      | nil => exact ⟨_, _, _, _, _, rfl⟩
      | cons y ys => exact truths_len (by rw [ht]; exact List.mem_cons_self)
    have hkB : Below W.heap.size W B := Below.trans (kept_trans hk0 hk2) (hTB.toBelow (n := W.heap.size) (by rintro b rfl; omega) (by omega))
    rw [hn, hne] at h1
    rw [hne]
    refine leave_mark (v := numsV [n0, n1, n2, n3, n4]) hK fun C hC hCT => ?_
    have q0 := tcell hCT (Ne.symm hnD) (h1 0 _ rfl)
    have q1 := tcell hCT (Ne.symm hnD) (h1 1 _ rfl)
    have q2 := tcell hCT (Ne.symm hnD) (h1 2 _ rfl)
    have q3 := tcell hCT (Ne.symm hnD) (h1 3 _ rfl)
    have q4 := tcell hCT (Ne.symm hnD) (h1 4 _ rfl)
    refine ⟨by simp [results, Tryd.results55, go_sem, numsV, q0, q1, q2, q3, q4], rfl, ?_⟩
    exact Below.trans hkB (hCT.toBelow (by rintro b rfl; omega) (by have := hkB.size; omega))
end Go.Proofs.YtchgkfnodcbpiaaDoor
set_option linter.all false
namespace Go.Proofs.YtchgkfnodcbpiaaDoor
open Go.RowKit Go.Sort Go.Rg
set_option maxRecDepth 100000

theorem laidOut : laidOutB Tryd.prog = true := by kernel_rfl
theorem klaw : WideMaps.KeyLaw Tryd.prog 91 := deep_law_laid laidOut (m := 2) (by omega) (by decide +kernel) (by kernel_rfl) (by kernel_rfl)
def keyV (b w : Nat) : Value := .agg #[.int .i64 (b : Int), .int .i64 (w : Int)]
theorem keys_some : ((List.range 4).all fun a => (List.range 6).all fun b => (keyOf Tryd.prog 91 (keyV a b)).isSome) = true := by kernel_rfl
theorem key_some {a b : Nat} (ha : a < 4) (hb : b < 6) : ∃ l, keyOf Tryd.prog 91 (keyV a b) = some l := by
  have := keys_some
  rw [List.all_eq_true] at this
  have := this a (List.mem_range.2 ha)
  rw [List.all_eq_true] at this
  have := this b (List.mem_range.2 hb)
  exact Option.isSome_iff_exists.1 this
end Go.Proofs.YtchgkfnodcbpiaaDoor
set_option linter.all false
namespace Go.Proofs.YtchgkfnodcbpiaaDoor
open Go.RowKit Go.Sort Go.Rg
open Go.ChangeMaps (setBlock)
set_option maxRecDepth 100000

/-- an entry of a map of trials -/
structure Slot where
  b : Nat
  w : Nat
  v : Value
  ts : List Trial
def Slot.key (s : Slot) : Value := keyV s.b s.w
def entriesFrom : Nat → List Slot → List MapEntry
  | _, [] => []
  | i, s :: l => ⟨s.key, s.v, i⟩ :: entriesFrom (i + 1) l
def entries (l : List Slot) : Array MapEntry := (entriesFrom 0 l).toArray
theorem entriesFrom_len : ∀ (i : Nat) (l : List Slot), (entriesFrom i l).length = l.length
  | _, [] => rfl
  | i, s :: l => by simp [entriesFrom, entriesFrom_len (i + 1) l]
theorem entriesFrom_get : ∀ (i j : Nat) (l : List Slot), (entriesFrom i l)[j]? = (l[j]?).map fun s => ⟨s.key, s.v, i + j⟩
  | _, _, [] => by simp [entriesFrom]
  | i, 0, s :: l => by simp [entriesFrom]
  | i, j + 1, s :: l => by
    simp only [entriesFrom, List.getElem?_cons_succ, entriesFrom_get (i + 1) j l]
    congr 1; funext s; simp; omega
theorem entriesFrom_mem {i : Nat} {l : List Slot} {e : MapEntry} (h : e ∈ entriesFrom i l) : ∃ s ∈ l, e.key = s.key := by
  obtain ⟨j, hj, rfl⟩ := List.getElem_of_mem h
  have := entriesFrom_get i j l
  rw [List.getElem?_eq_getElem hj] at this
  cases hs : l[j]? with
  | none => rw [hs] at this; cases this
  | some s =>
    rw [hs] at this
    simp only [Option.map_some, Option.some.injEq] at this
    exact ⟨s, List.mem_of_getElem? hs, by rw [this]⟩
theorem entriesFrom_snoc : ∀ (i : Nat) (l : List Slot) (s : Slot), entriesFrom i (l ++ [s]) = entriesFrom i l ++ [⟨s.key, s.v, i + l.length⟩]
  | i, [], s => by simp [entriesFrom]
  | i, t :: l, s => by simp [entriesFrom, entriesFrom_snoc (i + 1) l s]; omega
theorem keyV_inj {a b c d : Nat} (h : keyV a b = keyV c d) : a = c ∧ b = d := by
  simp only [keyV, Value.agg.injEq] at h
  have h1 := congrArg (fun x => x.toList) h
  simp at h1
  omega
def SlotOk (l : List Slot) : Prop := ∀ s ∈ l, s.b < 4 ∧ s.w < 6

theorem find_slot (w : World) (l : List Slot) (hl : SlotOk l) {b k : Nat} (hb : b < 4) (hk : k < 6) :
    ((Instr.findKey 91 (keyV b k) (entries l).toList).run Tryd.prog w = .ok none w ∧ ∀ s ∈ l, ¬ (s.b = b ∧ s.w = k)) ∨
    ∃ j s, (Instr.findKey 91 (keyV b k) (entries l).toList).run Tryd.prog w = .ok (some (j, s.v)) w ∧ l[j]? = some s ∧ s.b = b ∧ s.w = k := by
  obtain ⟨lx, hlx⟩ := key_some hb hk
  rcases klaw.find w hlx (entries l).toList (fun e he => by
    obtain ⟨s, hs, e2⟩ := entriesFrom_mem (by simpa [entries] using he)
    obtain ⟨h1, h2⟩ := hl s hs
    rw [e2]; exact key_some h1 h2) with ⟨h1, h2⟩ | ⟨j, e, h1, h2, h3⟩
  · refine .inl ⟨h1, fun s hs ⟨e1, e2⟩ => ?_⟩
    obtain ⟨j, hj, rfl⟩ := List.getElem_of_mem hs
    have := entriesFrom_get 0 j l
    rw [List.getElem?_eq_getElem hj] at this
    refine h2 _ (by simpa [entries] using List.mem_of_getElem? this) ?_
    simp [Slot.key, e1, e2]
  · have := entriesFrom_get 0 j l
    rw [show (entriesFrom 0 l)[j]? = some e by simpa [entries] using h2] at this
    cases hs : l[j]? with
    | none => rw [hs] at this; cases this
    | some s =>
      rw [hs] at this
      simp only [Option.map_some, Option.some.injEq] at this
      subst this
      obtain ⟨e1, e2⟩ := keyV_inj h3
      exact .inr ⟨j, s, h1, hs, e1, e2⟩

theorem setBlock_self {w : World} {b : Nat} {o : Obj} (h : w.heap[b]? = some o) : setBlock w b o = w := by
  unfold setBlock
  have hl := (Array.getElem?_eq_some_iff.1 h)
  obtain ⟨hl, he⟩ := hl
  have : w.heap.setIfInBounds b o = w.heap := by
    apply Array.ext
    · simp
    · intro i h1 h2
      by_cases e : b = i
      · subst e; rw [Array.getElem_setIfInBounds_self]; exact he.symm
      · exact Array.getElem_setIfInBounds_ne (by simpa using h2) e
  rw [this]
theorem und : Tryd.prog.underlying 62 = some (.map 91 23) := by kernel_rfl
theorem zero_sl (w : World) : (zeroValue 23).run Tryd.prog w = .ok (.slice none 0 0) w := by kernel_rfl

theorem lookup_slot (w w2 : World) (bm : Nat) (l : List Slot) (n : Nat) (hl : SlotOk l) {b k : Nat} (hb : b < 4) (hk : k < 6) (hm : w.heap[bm]? = some (.map (entries l) n)) (h2 : w2.heap[bm]? = w.heap[bm]?) (v : Value)
    (hv : (v = .slice none 0 0 ∧ ∀ s ∈ l, ¬ (s.b = b ∧ s.w = k)) ∨ ∃ s ∈ l, s.b = b ∧ s.w = k ∧ s.v = v) (hn : ∀ s ∈ l, ∀ t ∈ l, s.b = t.b → s.w = t.w → s.v = t.v) :
    (Instr.lookup 62 (.map (some bm)) (keyV b k) false).run Tryd.prog w2 = .ok v w2 := by
  obtain ⟨lx, hlx⟩ := key_some hb hk
  have hg := MapKept.run_getObj_map (P := Tryd.prog) (h2.trans hm)
  rcases find_slot w2 l hl hb hk with ⟨h1, h3⟩ | ⟨j, s, h1, h3, h4, h5⟩
  · rcases hv with ⟨rfl, _⟩ | ⟨s, hs, e1, e2, _⟩
    · simp [Instr.lookup, run_underlying und, hg, klaw.check w2 _ hlx, h1, zero_sl, Result.andThen]
    · exact absurd ⟨e1, e2⟩ (h3 s hs)
  · rcases hv with ⟨_, hno⟩ | ⟨s', hs', e1, e2, rfl⟩
    · exact absurd ⟨h4, h5⟩ (hno s (List.mem_of_getElem? h3))
    · have : s.v = s'.v := hn s (List.mem_of_getElem? h3) s' hs' (by omega) (by omega)
      simp [Instr.lookup, run_underlying und, hg, klaw.check w2 _ hlx, h1, Result.andThen, this]

theorem mapEntry_old (w : World) (bm : Nat) (l : List Slot) (n : Nat) {b k j : Nat} {s : Slot} (hb : b < 4) (hk : k < 6) (hm : w.heap[bm]? = some (.map (entries l) n))
    (h1 : (Instr.findKey 91 (keyV b k) (entries l).toList).run Tryd.prog w = .ok (some (j, s.v)) w) (hs : l[j]? = some s) (e1 : s.b = b) (e2 : s.w = k) :
    (Instr.mapEntry 62 (.map (some bm)) (keyV b k)).run Tryd.prog w = .ok (.tuple #[s.v, .int .i64 (j : Int)]) w := by
  obtain ⟨lx, hlx⟩ := key_some hb hk
  have hg := MapKept.run_getObj_map (P := Tryd.prog) hm
  have hj : (entries l)[j]? = some ⟨keyV b k, s.v, j⟩ := by
    have := entriesFrom_get 0 j l
    rw [hs] at this
    simp only [Option.map_some, Nat.zero_add, Slot.key, e1, e2] at this
    simpa [entries] using this
  have hmod : (entries l).modify j (fun e => { e with key := keyV b k }) = entries l := by
    apply Array.ext'
    rw [Array.toList_modify]
    apply List.ext_getElem?
    intro i
    rw [List.getElem?_modify]
    by_cases e : j = i
    · subst e
      have : (entries l).toList[j]? = some ⟨keyV b k, s.v, j⟩ := by simpa using hj
      rw [this]; simp
    · simp [e]
  have hset := MapKept.run_setObj_map (P := Tryd.prog) (.map (entries l) n) hm
  have hself := setBlock_self hm
  unfold setBlock at hself
  rw [hself] at hset
  simp [Instr.mapEntry, run_underlying und, hg, klaw.check w _ hlx, h1, Result.andThen, hj, klaw.stays w hlx, hmod, hset, goInt]

theorem mapEntry_new (w : World) (bm : Nat) (l : List Slot) {b k : Nat} (hb : b < 4) (hk : k < 6) (hm : w.heap[bm]? = some (.map (entries l) l.length))
    (h1 : (Instr.findKey 91 (keyV b k) (entries l).toList).run Tryd.prog w = .ok none w) :
    (Instr.mapEntry 62 (.map (some bm)) (keyV b k)).run Tryd.prog w = .ok (.tuple #[.slice none 0 0, .int .i64 (l.length : Int)]) (setBlock w bm (.map (entries (l ++ [⟨b, k, .slice none 0 0, []⟩])) (l.length + 1))) := by
  obtain ⟨lx, hlx⟩ := key_some hb hk
  have hg := MapKept.run_getObj_map (P := Tryd.prog) hm
  have hpush : (entries l).push ⟨keyV b k, .slice none 0 0, l.length⟩ = entries (l ++ [⟨b, k, .slice none 0 0, []⟩]) := by
    apply Array.ext'
    simp [entries, entriesFrom_snoc, Slot.key]
  have hset := MapKept.run_setObj_map (P := Tryd.prog) (.map (entries (l ++ [⟨b, k, .slice none 0 0, []⟩])) (l.length + 1)) hm
  simp [Instr.mapEntry, run_underlying und, hg, klaw.check w _ hlx, h1, Result.andThen, zero_sl, hpush, hset, goInt, setBlock]

theorem entryStore_at (w : World) (bm : Nat) (l : List Slot) (n j : Nat) (s : Slot) (v : Value) (ts : List Trial) (hm : w.heap[bm]? = some (.map (entries l) n)) (hs : l[j]? = some s) :
    (Instr.entryStore 62 (.map (some bm)) (.int .i64 (j : Int)) v).run Tryd.prog w = .ok () (setBlock w bm (.map (entries (l.set j { s with v := v, ts := ts })) n)) := by
  have hg := MapKept.run_getObj_map (P := Tryd.prog) hm
  have hf : (entries l).findIdx? (fun e => (e.born : Int) == (j : Int)) = some j := by
    have hj : (entries l).toList[j]? = some ⟨s.key, s.v, j⟩ := by
      have := entriesFrom_get 0 j l
      rw [hs] at this
      simpa [entries] using this
    rw [WideElems.findIdx_arr]
    refine WideElems.findIdx_born ?_ hj
    have : ∀ (i : Nat) (l : List Slot), ((entriesFrom i l).map (·.born)) = List.range' i l.length := by
      intro i l
      induction l generalizing i with
      | nil => rfl
      | cons s l ih => simp [entriesFrom, ih, List.range'_succ]
    show ((entries l).toList.map (·.born)).Nodup
    simp only [entries, this]
    exact List.nodup_range'
  have hmod : (entries l).modify j (fun e => { e with val := v }) = entries (l.set j { s with v := v, ts := ts }) := by
    apply Array.ext'
    rw [Array.toList_modify]
    apply List.ext_getElem?
    intro i
    rw [List.getElem?_modify]
    simp only [entries]
    rw [entriesFrom_get, entriesFrom_get, List.getElem?_set]
    by_cases e : j = i
    · subst e
      have hjl := (List.getElem?_eq_some_iff.1 hs).1
      rw [hs]; simp [hjl, Slot.key]
    · simp [e]
  have hset := MapKept.run_setObj_map (P := Tryd.prog) (.map (entries (l.set j { s with v := v, ts := ts })) n) hm
  simp [Instr.entryStore, hg, Result.andThen, asInt, asIntOf, hf, hmod, hset, setBlock]
end Go.Proofs.YtchgkfnodcbpiaaDoor
set_option linter.all false
namespace Go.Proofs.YtchgkfnodcbpiaaDoor
open Go.RowKit Go.Sort Go.Rg
open Go.ChangeMaps (setBlock)
set_option maxRecDepth 100000

def cellsT (t : Trial) : List Value := [.int .i64 t.boy, .int .i64 t.week, .int .i64 t.note, .int .i64 t.sang]
def cellsOfT (ts : List Trial) : List Value := ts.flatMap cellsT
def isAt (b k : Nat) (t : Trial) : Bool := decide (t.boy = (b : Int)) && decide (t.week = (k : Int))
structure Tried (W : World) (bm base : Nat) (l : List Slot) (ts : List Trial) : Prop where
  map : W.heap[bm]? = some (.map (entries l) l.length)
  ok : SlotOk l
  nodup : ∀ (i j : Nat) (s t : Slot), l[i]? = some s → l[j]? = some t → s.b = t.b → s.w = t.w → i = j
  rows : ∀ s ∈ l, W.ownsRow base 27 4 s.v s.ts.length (cellsOfT s.ts) ∧ s.ts.length ≤ ts.length
  apart : ∀ (i j : Nat) (s t : Slot), l[i]? = some s → l[j]? = some t → s.v.ownBlock = t.v.ownBlock → s.v.ownBlock ≠ none → i = j
  told : ∀ b k : Nat, b < 4 → k < 6 → (∃ s ∈ l, s.b = b ∧ s.w = k ∧ s.ts = ts.filter (isAt b k)) ∨ ((∀ s ∈ l, ¬ (s.b = b ∧ s.w = k)) ∧ ts.filter (isAt b k) = [])
theorem row_not_map {W : World} {base : Nat} {e : TypeId} {v : Value} {n : Nat} {xs : List Value} {bm : Nat} {es : Array MapEntry} {c : Nat} (h : W.ownsRow base e 4 v n xs) (hm : W.heap[bm]? = some (.map es c)) : v.ownBlock = none ∨ v.ownBlock ≠ some bm := by
  rcases h.2 with ⟨rfl, _⟩ | ⟨g, cap, cur, rfl, _, hg, _⟩
  · exact .inl rfl
  · refine .inr fun e => ?_
    simp only [Value.ownBlock, Option.some.injEq] at e
    subst e
    rw [hg] at hm; cases hm
theorem Tried.kept {A B : World} {bm base : Nat} {l : List Slot} {ts : List Trial} (h : Tried A bm base l ts) (k : Kept A B) : Tried B bm base l ts :=
  { h with map := (k.block bm (Array.getElem?_eq_some_iff.1 h.map).1).trans h.map
           rows := fun s hs => ⟨(h.rows s hs).1.kept (row := none) ⟨k.os, k.tape, k.output, k.size, fun i hi _ => k.block i hi⟩ (by cases s.v.ownBlock <;> simp), (h.rows s hs).2⟩ }
theorem grown_set {W : World} {bm : Nat} {o : Obj} : W.grownBy (setBlock W bm o) (some bm) :=
  ⟨rfl, rfl, rfl, by simp [setBlock], fun i hi hne => by
    have : ¬ bm = i := fun e => hne (by rw [e])
    simp [setBlock, Array.getElem?_setIfInBounds_ne this]⟩
theorem set_same {W : World} {bm : Nat} {o : Obj} (h : bm < W.heap.size) : (setBlock W bm o).heap[bm]? = some o := by simp [setBlock, h]
theorem getElem?_snoc {α : Type} {l : List α} {a x : α} {i : Nat} (h : (l ++ [a])[i]? = some x) : l[i]? = some x ∨ (i = l.length ∧ x = a) := by
  rcases Nat.lt_trichotomy i l.length with hi | hi | hi
  · rw [List.getElem?_append_left hi] at h; exact .inl h
  · subst hi; right; exact ⟨rfl, by simpa using h.symm⟩
  · rw [List.getElem?_eq_none (by simp; omega)] at h; cases h
theorem Tried.push {W : World} {bm base : Nat} {l : List Slot} {ts : List Trial} (h : Tried W bm base l ts) {b k : Nat} (hb : b < 4) (hk : k < 6) (hno : ∀ s ∈ l, ¬ (s.b = b ∧ s.w = k)) :
    Tried (setBlock W bm (.map (entries (l ++ [⟨b, k, .slice none 0 0, []⟩])) (l.length + 1))) bm base (l ++ [⟨b, k, .slice none 0 0, []⟩]) ts where
  map := by rw [set_same (Array.getElem?_eq_some_iff.1 h.map).1]; simp
  ok := fun s hs => by
    rcases List.mem_append.1 hs with hs | hs
    · exact h.ok s hs
    · simp only [List.mem_singleton] at hs; subst hs; exact ⟨hb, hk⟩
  nodup := fun i j s t hi hj e1 e2 => by
    rcases getElem?_snoc hi with hi | ⟨rfl, rfl⟩ <;> rcases getElem?_snoc hj with hj | ⟨rfl, rfl⟩
    · exact h.nodup i j s t hi hj e1 e2
    · exact absurd ⟨e1, e2⟩ (hno s (List.mem_of_getElem? hi))
    · exact absurd ⟨e1.symm, e2.symm⟩ (hno t (List.mem_of_getElem? hj))
    · rfl
  rows := fun s hs => by
    rcases List.mem_append.1 hs with hs | hs
    · exact ⟨(h.rows s hs).1.kept grown_set (row_not_map (h.rows s hs).1 h.map), (h.rows s hs).2⟩
    · simp only [List.mem_singleton] at hs; subst hs; exact ⟨World.ownsRow_nil _ _ _ _, Nat.zero_le _⟩
  apart := fun i j s t hi hj e1 e2 => by
    rcases getElem?_snoc hi with hi | ⟨rfl, rfl⟩ <;> rcases getElem?_snoc hj with hj | ⟨rfl, rfl⟩
    · exact h.apart i j s t hi hj e1 e2
    · rw [e1] at e2; exact absurd rfl e2
    · exact absurd rfl e2
    · rfl
  told := fun b' k' hb' hk' => by
    rcases h.told b' k' hb' hk' with ⟨s, hs, e⟩ | ⟨hn, he⟩
    · exact .inl ⟨s, List.mem_append_left _ hs, e⟩
    · by_cases e : b = b' ∧ k = k'
      · obtain ⟨rfl, rfl⟩ := e
        exact .inl ⟨⟨b, k, .slice none 0 0, []⟩, by simp, rfl, rfl, he.symm⟩
      · refine .inr ⟨fun s hs => ?_, he⟩
        rcases List.mem_append.1 hs with hs | hs
        · exact hn s hs
        · simp only [List.mem_singleton] at hs; subst hs; exact e
theorem Tried.append {W W4 : World} {bm base g cap j : Nat} {l : List Slot} {ts : List Trial} {s : Slot} {t : Trial} (h : Tried W bm base l ts) (hs : l[j]? = some s) (ht : isAt s.b s.w t = true)
    (hg : W.grownBy W4 s.v.ownBlock) (hown : W4.ownsRow base 27 4 (.slice (some ⟨g, 0, none⟩) (s.ts.length + 1) cap) (s.ts.length + 1) (cellsOfT s.ts ++ cellsT t)) (hat : s.v.ownBlock = some g ∨ g = W.heap.size) :
    Tried (setBlock W4 bm (.map (entries (l.set j { s with v := .slice (some ⟨g, 0, none⟩) (s.ts.length + 1) cap, ts := s.ts ++ [t] })) l.length)) bm base (l.set j { s with v := .slice (some ⟨g, 0, none⟩) (s.ts.length + 1) cap, ts := s.ts ++ [t] }) (ts ++ [t]) := by
  have hjl := (List.getElem?_eq_some_iff.1 hs).1
  have hmz := (Array.getElem?_eq_some_iff.1 h.map).1
  have hm4 : W4.heap[bm]? = some (.map (entries l) l.length) := (hg.block bm hmz (fun e => by
    rcases row_not_map (h.rows s (List.mem_of_getElem? hs)).1 h.map with h1 | h1
    · rw [h1] at e; cases e
    · exact h1 e.symm)).trans h.map
  have get : ∀ {i x}, (l.set j { s with v := .slice (some ⟨g, 0, none⟩) (s.ts.length + 1) cap, ts := s.ts ++ [t] })[i]? = some x → (i ≠ j ∧ l[i]? = some x) ∨ (i = j ∧ x = { s with v := .slice (some ⟨g, 0, none⟩) (s.ts.length + 1) cap, ts := s.ts ++ [t] }) := fun {i x} hx => by
    rw [List.getElem?_set] at hx
    by_cases e : j = i
    · subst e; simp [hjl] at hx; exact .inr ⟨rfl, hx.symm⟩
    · simp only [e, if_false] at hx; exact .inl ⟨fun h => e h.symm, hx⟩
  have ne_g : ∀ i x, i ≠ j → l[i]? = some x → x.v.ownBlock ≠ some g := fun i x hij hx e => by
    rcases hat with h1 | h1
    · exact hij (h.apart i j x s hx hs (e.trans h1.symm) (by rw [e]; simp))
    · have := ((h.rows x (List.mem_of_getElem? hx)).1.lt g e).2
      omega
  refine ⟨by rw [set_same (Array.getElem?_eq_some_iff.1 hm4).1]; simp, ?_, ?_, ?_, ?_, ?_⟩
  · intro x hx
    obtain ⟨i, hi, rfl⟩ := List.getElem_of_mem hx
    rcases get (List.getElem?_eq_getElem hi) with ⟨_, h1⟩ | ⟨_, h1⟩
    · exact h.ok _ (List.mem_of_getElem? h1)
    · rw [h1]; exact h.ok s (List.mem_of_getElem? hs)
  · intro i i' x y hi hi' e1 e2
    rcases get hi with ⟨n1, h1⟩ | ⟨rfl, rfl⟩ <;> rcases get hi' with ⟨n2, h2⟩ | ⟨rfl, rfl⟩
    · exact h.nodup i i' x y h1 h2 e1 e2
    · exact h.nodup i _ x s h1 hs e1 e2
    · exact h.nodup _ i' s y hs h2 e1 e2
    · rfl
  · intro x hx
    obtain ⟨i, hi, rfl⟩ := List.getElem_of_mem hx
    have hset : ∀ {v n xs}, W4.ownsRow base 27 4 v n xs → (setBlock W4 bm (.map (entries (l.set j { s with v := .slice (some ⟨g, 0, none⟩) (s.ts.length + 1) cap, ts := s.ts ++ [t] })) l.length)).ownsRow base 27 4 v n xs := fun h4 => h4.kept grown_set (row_not_map h4 hm4)
    rcases get (List.getElem?_eq_getElem hi) with ⟨n1, h1⟩ | ⟨_, h1⟩
    · have hr := h.rows _ (List.mem_of_getElem? h1)
      refine ⟨hset (hr.1.kept hg ?_), by simp; omega⟩
      cases hb : ((l.set j { s with v := .slice (some ⟨g, 0, none⟩) (s.ts.length + 1) cap, ts := s.ts ++ [t] })[i]).v.ownBlock with
      | none => exact .inl rfl
      | some g' => exact .inr fun e => n1 (h.apart i j _ s h1 hs (hb.trans e) (by rw [hb]; simp))
    · rw [h1]
      refine ⟨?_, by have := (h.rows s (List.mem_of_getElem? hs)).2; simp; omega⟩
      have e : cellsOfT (s.ts ++ [t]) = cellsOfT s.ts ++ cellsT t := by simp [cellsOfT]
      rw [e]
      simpa using hset hown
  · intro i i' x y hi hi' e1 e2
    rcases get hi with ⟨n1, h1⟩ | ⟨rfl, rfl⟩ <;> rcases get hi' with ⟨n2, h2⟩ | ⟨rfl, rfl⟩
    · exact h.apart i i' x y h1 h2 e1 e2
    · exact absurd e1 (ne_g _ _ n1 h1)
    · exact absurd e1.symm (ne_g _ _ n2 h2)
    · rfl
  · intro b k hb hk
    have hf : (ts ++ [t]).filter (isAt b k) = ts.filter (isAt b k) ++ (if isAt b k t then [t] else []) := by
      rw [List.filter_append]; congr 1; simp only [List.filter_cons, List.filter_nil]
    have key : ∀ {b k b' k' : Nat}, isAt b k t = true → isAt b' k' t = true → b = b' ∧ k = k' := fun h1 h2 => by
      simp only [isAt, Bool.and_eq_true, decide_eq_true_eq] at h1 h2
      omega
    by_cases e : isAt b k t = true
    · obtain ⟨rfl, rfl⟩ := key ht e
      refine .inl ⟨{ s with v := .slice (some ⟨g, 0, none⟩) (s.ts.length + 1) cap, ts := s.ts ++ [t] }, List.mem_of_getElem? (i := j) (by simp [List.getElem?_set, hjl]), rfl, rfl, ?_⟩
      rw [hf, if_pos e]
      rcases h.told s.b s.w hb hk with ⟨s', hs', e1, e2, e3⟩ | ⟨hno, _⟩
      · obtain ⟨i, hi, rfl⟩ := List.getElem_of_mem hs'
        have := h.nodup i j _ s (List.getElem?_eq_getElem hi) hs e1 e2
        subst this
        rw [List.getElem?_eq_getElem hi] at hs
        cases hs
        rw [e3]
      · exact absurd ⟨rfl, rfl⟩ (hno s (List.mem_of_getElem? hs))
    · rw [hf, if_neg e, List.append_nil]
      rcases h.told b k hb hk with ⟨s', hs', e1, e2, e3⟩ | ⟨hno, he⟩
      · obtain ⟨i, hi, rfl⟩ := List.getElem_of_mem hs'
        have hij : i ≠ j := by
          rintro rfl
          rw [List.getElem?_eq_getElem hi] at hs
          cases hs
          exact e (by rw [← e1, ← e2]; exact ht)
        exact .inl ⟨_, List.mem_of_getElem? (i := i) (by rw [List.getElem?_set, if_neg (Ne.symm hij)]; exact List.getElem?_eq_getElem hi), e1, e2, e3⟩
      · refine .inr ⟨fun x hx => ?_, he⟩
        obtain ⟨i, hi, rfl⟩ := List.getElem_of_mem hx
        rcases get (List.getElem?_eq_getElem hi) with ⟨_, h1⟩ | ⟨_, h1⟩
        · exact hno _ (List.mem_of_getElem? h1)
        · rw [h1]; exact hno s (List.mem_of_getElem? hs)

theorem entry_any {W : World} {bm base : Nat} {l : List Slot} {ts : List Trial} (h : Tried W bm base l ts) {b k : Nat} (hb : b < 4) (hk : k < 6) :
    ∃ (W' : World) (l' : List Slot) (j : Nat) (s : Slot), (Instr.mapEntry 62 (.map (some bm)) (keyV b k)).run Tryd.prog W = .ok (.tuple #[s.v, .int .i64 (j : Int)]) W' ∧ Tried W' bm base l' ts ∧ l'[j]? = some s ∧ s.b = b ∧ s.w = k ∧ Turns (fun x => x = bm) W W' ∧ W'.heap.size = W.heap.size := by
  rcases find_slot W l h.ok hb hk with ⟨h1, hno⟩ | ⟨j, s, h1, hs, e1, e2⟩
  · refine ⟨_, _, l.length, ⟨b, k, .slice none 0 0, []⟩, mapEntry_new W bm l hb hk h.map h1, h.push hb hk hno, by simp, rfl, rfl, ?_, by simp [setBlock]⟩
    have := grown_set (W := W) (bm := bm) (o := .map (entries (l ++ [⟨b, k, .slice none 0 0, []⟩])) (l.length + 1))
    exact ⟨this.os, this.tape, this.output, this.size, fun i hi hne => this.block i hi (fun e => hne (by cases e; rfl))⟩
  · exact ⟨W, l, j, s, mapEntry_old W bm l _ hb hk h.map h1 hs e1 e2, h, hs, e1, e2, Turns.refl _ _, rfl⟩
theorem cellsOfT_get : ∀ (ts : List Trial) (i r : Nat) (t : Trial), ts[i]? = some t → r < 4 → (cellsOfT ts)[i * 4 + r]? = (cellsT t)[r]?
  | [], _, _, _, h, _ => by simp at h
  | x :: ts, 0, r, t, h, hr => by
    simp only [List.getElem?_cons_zero, Option.some.injEq] at h
    subst h
    show (cellsT x ++ cellsOfT ts)[0 * 4 + r]? = _
    rw [List.getElem?_append_left (by simp [cellsT]; omega)]; simp
  | x :: ts, i + 1, r, t, h, hr => by
    simp only [List.getElem?_cons_succ] at h
    have := cellsOfT_get ts i r t h hr
    show (cellsT x ++ cellsOfT ts)[(i + 1) * 4 + r]? = _
    rw [List.getElem?_append_right (by simp [cellsT]; omega), ← this]
    congr 1; simp [cellsT]; omega
theorem trials_of_row {W : World} {base : Nat} {v : Value} {ts : List Trial} (h : W.ownsRow base 27 4 v ts.length (cellsOfT ts)) :
    (v = .slice none 0 0 ∧ ts = []) ∨ ∃ b o cap, v = .slice (some ⟨b, o, none⟩) ts.length cap ∧ b < W.heap.size ∧ TrialsAt W b o ts := by
  rcases h.2 with ⟨rfl, h0⟩ | ⟨g, cap, cur, rfl, hb, hg, _⟩
  · exact .inl ⟨rfl, List.eq_nil_of_length_eq_zero h0⟩
  · have hz := (Array.getElem?_eq_some_iff.1 hg).1
    refine .inr ⟨g, 0, cap, rfl, hz, hz, fun i t hi => ?_⟩
    have hl : i < ts.length := (List.getElem?_eq_some_iff.1 hi).1
    have get : ∀ r u, r < 4 → (cellsT t)[r]? = some u → W.cell? ⟨g, 0 + i * 4 + r, none⟩ = some u := fun r u hr hu => by
      have := h.cells (g := g) rfl (i * 4 + r) u ((cellsOfT_get ts i r t hi hr).trans hu)
      have e : (⟨g, 0, none⟩ : Addr).add (i * 4 + r) = ⟨g, 0 + i * 4 + r, none⟩ := by
        rw [show 0 + i * 4 + r = 0 + (i * 4 + r) by omega]
        unfold Addr.add
        split
        · rename_i h0; rw [h0]
        · rfl
      rw [← e]; exact this
    exact ⟨get 0 _ (by omega) rfl, get 1 _ (by omega) rfl, get 2 _ (by omega) rfl, get 3 _ (by omega) rfl⟩
theorem Tried.look {W C : World} {bm base : Nat} {l : List Slot} {ts : List Trial} (h : Tried W bm base l ts) {S U : Nat → Prop} (k : Turns U W C) (hu1 : ¬ U bm) (hu2 : ∀ b, base ≤ b → ¬ U b) (hs1 : S bm) (hs2 : ∀ b, base ≤ b → b < C.heap.size → S b) {b wk : Nat} (hb : b < 4) (hk : wk < 6) :
    Look2 S C bm b wk (ts.filter (isAt b wk)) := by
  have hmz := (Array.getElem?_eq_some_iff.1 h.map).1
  have hC : C.heap[bm]? = some (.map (entries l) l.length) := (k.block bm hmz hu1).trans h.map
  have hn : ∀ s ∈ l, ∀ t ∈ l, s.b = t.b → s.w = t.w → s.v = t.v := fun s hs t ht e1 e2 => by
    obtain ⟨i, hi, rfl⟩ := List.getElem_of_mem hs
    obtain ⟨j, hj, rfl⟩ := List.getElem_of_mem ht
    have := h.nodup i j _ _ (List.getElem?_eq_getElem hi) (List.getElem?_eq_getElem hj) e1 e2
    subst this; rfl
  rcases h.told b wk hb hk with ⟨s, hs, e1, e2, e3⟩ | ⟨hno, he⟩
  · refine ⟨s.v, hs1, Nat.lt_of_lt_of_le hmz k.size, fun W' hW' => lookup_slot C W' bm l _ h.ok hb hk hC hW' s.v (.inr ⟨s, hs, e1, e2, rfl⟩) hn, ?_⟩
    have hr := (h.rows s hs).1
    rw [← e3]
    rcases trials_of_row hr with hv | ⟨g, o, cap, hv, hz, ht⟩
    · exact .inl hv
    · have hg : ¬ U g := hu2 g (hr.lt g (by rw [hv]; rfl)).1
      exact .inr ⟨g, o, cap, hv, hs2 g (hr.lt g (by rw [hv]; rfl)).1 (Nat.lt_of_lt_of_le hz k.size), ht.turns k hg⟩
  · refine ⟨.slice none 0 0, hs1, Nat.lt_of_lt_of_le hmz k.size, fun W' hW' => lookup_slot C W' bm l _ h.ok hb hk hC hW' _ (.inl ⟨rfl, hno⟩) hn, .inl ⟨rfl, he⟩⟩
theorem infoT : (Tryd.prog.info? 27).map (fun i => (i.zero, i.size, i.bytes)) = some (some (.agg #[.int .i64 0, .int .i64 0, .int .i64 0, .int .i64 0]), 4, 32) := by kernel_rfl

set_option maxHeartbeats 4000000 in
theorem newChoir_any (p q : Option Addr) (cap capt : Nat) (B : Book) (Wb W : World) (hok : B.okB = true) (hb : BookAt Wb p q cap capt B) (hkb : Kept Wb W) :
    Calls Tryd.prog 33 #[.agg #[.slice p B.boys.length cap, .int .i64 B.weeks, .slice q B.trials.length capt]] W fun e C => ∃ c : Choir, c.B = B ∧ e = .returned c.val ∧ Kept W C ∧ ChoirAt (fun b => b < C.heap.size ∧ (b < Wb.heap.size ∨ W.heap.size ≤ b)) C c := by
  have h := hb.kept hkb
  have hmm := @run_makeMap Tryd.prog
  go_enter Tryd.func33, Tryd.ntmps33
  go_wp2_with fail
  have hk0 : Kept W ((((W.alloc (Obj.cells #[.slice p B.boys.length cap, .int .i64 B.weeks, .slice q B.trials.length capt] 25)).alloc (Obj.cells #[.slice none 0 0, .int .i64 0, .slice none 0 0, .map none] 64)).alloc (Obj.map #[] 0)).alloc (Obj.cells #[.slice p B.boys.length cap, .int .i64 B.weeks, .slice q B.trials.length capt, .map (some (W.heap.size + 1 + 1))] 64)) := kept_alloc (kept_alloc (kept_alloc (kept_alloc (kept_refl _) _) _) _) _
  have hz0 : ((((W.alloc (Obj.cells #[.slice p B.boys.length cap, .int .i64 B.weeks, .slice q B.trials.length capt] 25)).alloc (Obj.cells #[.slice none 0 0, .int .i64 0, .slice none 0 0, .map none] 64)).alloc (Obj.map #[] 0)).alloc (Obj.cells #[.slice p B.boys.length cap, .int .i64 B.weeks, .slice q B.trials.length capt, .map (some (W.heap.size + 1 + 1))] 64)).heap.size = W.heap.size + 4 := by simp
  have hmap : ((((W.alloc (Obj.cells #[.slice p B.boys.length cap, .int .i64 B.weeks, .slice q B.trials.length capt] 25)).alloc (Obj.cells #[.slice none 0 0, .int .i64 0, .slice none 0 0, .map none] 64)).alloc (Obj.map #[] 0)).alloc (Obj.cells #[.slice p B.boys.length cap, .int .i64 B.weeks, .slice q B.trials.length capt, .map (some (W.heap.size + 1 + 1))] 64)).heap[W.heap.size + 1 + 1]? = some (.map #[] 0) := by
    have h1 := World.alloc_heap_new ((W.alloc (Obj.cells #[.slice p B.boys.length cap, .int .i64 B.weeks, .slice q B.trials.length capt] 25)).alloc (Obj.cells #[.slice none 0 0, .int .i64 0, .slice none 0 0, .map none] 64)) (Obj.map #[] 0)
    simp only [World.size_alloc] at h1
    exact (Below.heap_alloc _ _ _ (by simp)).trans h1
  have c0 : ((((W.alloc (Obj.cells #[.slice p B.boys.length cap, .int .i64 B.weeks, .slice q B.trials.length capt] 25)).alloc (Obj.cells #[.slice none 0 0, .int .i64 0, .slice none 0 0, .map none] 64)).alloc (Obj.map #[] 0)).alloc (Obj.cells #[.slice p B.boys.length cap, .int .i64 B.weeks, .slice q B.trials.length capt, .map (some (W.heap.size + 1 + 1))] 64)).cell? ⟨W.heap.size + 1 + 1 + 1, 0, none⟩ = some (.slice p B.boys.length cap) := by go_simp
  have c1 : ((((W.alloc (Obj.cells #[.slice p B.boys.length cap, .int .i64 B.weeks, .slice q B.trials.length capt] 25)).alloc (Obj.cells #[.slice none 0 0, .int .i64 0, .slice none 0 0, .map none] 64)).alloc (Obj.map #[] 0)).alloc (Obj.cells #[.slice p B.boys.length cap, .int .i64 B.weeks, .slice q B.trials.length capt, .map (some (W.heap.size + 1 + 1))] 64)).cell? ⟨W.heap.size + 1 + 1 + 1, 1, none⟩ = some (.int .i64 B.weeks) := by go_simp
  have c2 : ((((W.alloc (Obj.cells #[.slice p B.boys.length cap, .int .i64 B.weeks, .slice q B.trials.length capt] 25)).alloc (Obj.cells #[.slice none 0 0, .int .i64 0, .slice none 0 0, .map none] 64)).alloc (Obj.map #[] 0)).alloc (Obj.cells #[.slice p B.boys.length cap, .int .i64 B.weeks, .slice q B.trials.length capt, .map (some (W.heap.size + 1 + 1))] 64)).cell? ⟨W.heap.size + 1 + 1 + 1, 2, none⟩ = some (.slice q B.trials.length capt) := by go_simp
  have c3 : ((((W.alloc (Obj.cells #[.slice p B.boys.length cap, .int .i64 B.weeks, .slice q B.trials.length capt] 25)).alloc (Obj.cells #[.slice none 0 0, .int .i64 0, .slice none 0 0, .map none] 64)).alloc (Obj.map #[] 0)).alloc (Obj.cells #[.slice p B.boys.length cap, .int .i64 B.weeks, .slice q B.trials.length capt, .map (some (W.heap.size + 1 + 1))] 64)).cell? ⟨W.heap.size + 1 + 1 + 1, 3, none⟩ = some (.map (some (W.heap.size + 1 + 1))) := by go_simp
  have d0 : ((((W.alloc (Obj.cells #[.slice p B.boys.length cap, .int .i64 B.weeks, .slice q B.trials.length capt] 25)).alloc (Obj.cells #[.slice none 0 0, .int .i64 0, .slice none 0 0, .map none] 64)).alloc (Obj.map #[] 0)).alloc (Obj.cells #[.slice p B.boys.length cap, .int .i64 B.weeks, .slice q B.trials.length capt, .map (some (W.heap.size + 1 + 1))] 64)).cell? ⟨W.heap.size + 1, 0, none⟩ = some (.slice none 0 0) := by go_simp
  have d1 : ((((W.alloc (Obj.cells #[.slice p B.boys.length cap, .int .i64 B.weeks, .slice q B.trials.length capt] 25)).alloc (Obj.cells #[.slice none 0 0, .int .i64 0, .slice none 0 0, .map none] 64)).alloc (Obj.map #[] 0)).alloc (Obj.cells #[.slice p B.boys.length cap, .int .i64 B.weeks, .slice q B.trials.length capt, .map (some (W.heap.size + 1 + 1))] 64)).cell? ⟨W.heap.size + 1, 1, none⟩ = some (.int .i64 0) := by go_simp
  have d2 : ((((W.alloc (Obj.cells #[.slice p B.boys.length cap, .int .i64 B.weeks, .slice q B.trials.length capt] 25)).alloc (Obj.cells #[.slice none 0 0, .int .i64 0, .slice none 0 0, .map none] 64)).alloc (Obj.map #[] 0)).alloc (Obj.cells #[.slice p B.boys.length cap, .int .i64 B.weeks, .slice q B.trials.length capt, .map (some (W.heap.size + 1 + 1))] 64)).cell? ⟨W.heap.size + 1, 2, none⟩ = some (.slice none 0 0) := by go_simp
  have d3 : ((((W.alloc (Obj.cells #[.slice p B.boys.length cap, .int .i64 B.weeks, .slice q B.trials.length capt] 25)).alloc (Obj.cells #[.slice none 0 0, .int .i64 0, .slice none 0 0, .map none] 64)).alloc (Obj.map #[] 0)).alloc (Obj.cells #[.slice p B.boys.length cap, .int .i64 B.weeks, .slice q B.trials.length capt, .map (some (W.heap.size + 1 + 1))] 64)).cell? ⟨W.heap.size + 1, 3, none⟩ = some (.map none) := by go_simp
  have df : ∀ i, ((((W.alloc (Obj.cells #[.slice p B.boys.length cap, .int .i64 B.weeks, .slice q B.trials.length capt] 25)).alloc (Obj.cells #[.slice none 0 0, .int .i64 0, .slice none 0 0, .map none] 64)).alloc (Obj.map #[] 0)).alloc (Obj.cells #[.slice p B.boys.length cap, .int .i64 B.weeks, .slice q B.trials.length capt, .map (some (W.heap.size + 1 + 1))] 64)).frozen? ⟨W.heap.size + 1, i, none⟩ = false := by intro i; go_simp
  generalize ((((W.alloc (Obj.cells #[.slice p B.boys.length cap, .int .i64 B.weeks, .slice q B.trials.length capt] 25)).alloc (Obj.cells #[.slice none 0 0, .int .i64 0, .slice none 0 0, .map none] 64)).alloc (Obj.map #[] 0)).alloc (Obj.cells #[.slice p B.boys.length cap, .int .i64 B.weeks, .slice q B.trials.length capt, .map (some (W.heap.size + 1 + 1))] 64)) = V0 at *
  generalize hcb : W.heap.size + 1 + 1 + 1 = cb at *
  generalize hbm : W.heap.size + 1 + 1 = bm at *
  generalize hrb : W.heap.size + 1 = rb at *
  have hbook : ∀ (i : Nat) (x : Trial), B.trials[i]? = some x → validTrialB B.boys.length B.weeks.toNat x = true := by
    simp only [Book.okB, Bool.and_eq_true, List.all_eq_true] at hok
    exact fun i x hx => hok.2 x (List.mem_of_getElem? hx)
  have hlen : B.boys.length ≤ 4 ∧ B.weeks ≤ 6 ∧ B.trials.length ≤ 6 := by
    simp only [Book.okB, inB, Bool.and_eq_true, decide_eq_true_eq] at hok
    omega
  go_loopw [13] (fun i V => ∃ (j : Nat) (l : List Slot), j ≤ B.trials.length ∧ i = .int .i64 j ∧ Tried V bm (W.heap.size + 4) l (B.trials.take j) ∧ Turns (fun b => b = bm ∨ W.heap.size + 4 ≤ b) V0 V) (fun i V => B.trials.length - (intOf i).toNat)
  case atStart =>
    exact ⟨0, [], by omega, rfl, ⟨hmap, (fun s hs => nomatch hs), (fun i j s t h => by simp at h), (fun s hs => nomatch hs), (fun i j s t h => by simp at h), (fun b k _ _ => .inr ⟨(fun s hs => nomatch hs), rfl⟩)⟩, Turns.refl _ _⟩
  case round =>
    obtain ⟨j, l, hj, rfl, hT, hV⟩ := hrel
    by_cases hlt : j < B.trials.length
    · have hltI : (j : Int) < B.trials.length := by omega
      have hget : B.trials[j]? = some B.trials[j] := List.getElem?_eq_getElem hlt
      generalize B.trials[j] = t at *
      rcases h.trials with h00 | ⟨bT, oT, rfl, hTT⟩
      · rw [h00] at hlt; cases hlt
      have hTV := (hTT.kept hk0).turns hV (by have := hTT.1; omega)
      obtain ⟨t0, t1, t2, t3⟩ := hTV.2 j t hget
      have hbT := hTV.1
      have e3 := tcell hV (by omega) c3
      have hzc := Go.Ai.lt_of_cell e3
      have HT := Lib.hid hT; clear hT
      have HG := Lib.hid hget; clear hget
      have HB := Lib.hid hbook; clear hbook
      have HH := Lib.hid h; clear h
      clear hTT hTV hmap
      have hval := HB.out j t HG.out
      obtain ⟨tb, tw, tn, tg⟩ := t
      simp only [validTrialB, inB, Bool.and_eq_true, decide_eq_true_eq] at hval
      simp only at t0 t1 t2 t3
      obtain ⟨b, rfl⟩ := Int.eq_ofNat_of_zero_le (show 0 ≤ tb by omega)
      obtain ⟨k, rfl⟩ := Int.eq_ofNat_of_zero_le (show 0 ≤ tw by omega)
      have hb4 : b < 4 := by omega
      have hk6 : k < 6 := by omega
      have HV := Lib.hid hval; clear hval
      go_wp2_with fail
      have hk3 : Kept wr (((wr.alloc (Obj.cells #[.int .i64 (b : Int), .int .i64 (k : Int), .int .i64 tn, .int .i64 tg] 27)).alloc (Obj.cells #[.int .i64 (b : Int), .int .i64 (k : Int)] 91)).alloc (Obj.cells #[.int .i64 (b : Int), .int .i64 (k : Int), .int .i64 tn, .int .i64 tg] 27)) := kept_alloc (kept_alloc (kept_alloc (kept_refl _) _) _) _
      have hz3 : (((wr.alloc (Obj.cells #[.int .i64 (b : Int), .int .i64 (k : Int), .int .i64 tn, .int .i64 tg] 27)).alloc (Obj.cells #[.int .i64 (b : Int), .int .i64 (k : Int)] 91)).alloc (Obj.cells #[.int .i64 (b : Int), .int .i64 (k : Int), .int .i64 tn, .int .i64 tg] 27)).heap.size = wr.heap.size + 3 := by simp
      have hnb : (((wr.alloc (Obj.cells #[.int .i64 (b : Int), .int .i64 (k : Int), .int .i64 tn, .int .i64 tg] 27)).alloc (Obj.cells #[.int .i64 (b : Int), .int .i64 (k : Int)] 91)).alloc (Obj.cells #[.int .i64 (b : Int), .int .i64 (k : Int), .int .i64 tn, .int .i64 tg] 27)).heap[wr.heap.size + 1 + 1]? = some (.cells #[.int .i64 (b : Int), .int .i64 (k : Int), .int .i64 tn, .int .i64 tg] 27 (0, 0)) := by
        have h1 := World.alloc_heap_new ((wr.alloc (Obj.cells #[.int .i64 (b : Int), .int .i64 (k : Int), .int .i64 tn, .int .i64 tg] 27)).alloc (Obj.cells #[.int .i64 (b : Int), .int .i64 (k : Int)] 91)) (Obj.cells #[.int .i64 (b : Int), .int .i64 (k : Int), .int .i64 tn, .int .i64 tg] 27)
        simp only [World.size_alloc] at h1
        exact h1
      generalize (((wr.alloc (Obj.cells #[.int .i64 (b : Int), .int .i64 (k : Int), .int .i64 tn, .int .i64 tg] 27)).alloc (Obj.cells #[.int .i64 (b : Int), .int .i64 (k : Int)] 91)).alloc (Obj.cells #[.int .i64 (b : Int), .int .i64 (k : Int), .int .i64 tn, .int .i64 tg] 27)) = W3 at *
      obtain ⟨W3', l', j', s, hme, hT', hs, e1, e2, hW3, hz3'⟩ := entry_any (HT.out.kept hk3) hb4 hk6
      unfold keyV at hme
      rw [hme]
      have HT' := Lib.hid hT'; clear hT'
      have hbmz : bm < wr.heap.size := (Array.getElem?_eq_some_iff.1 HT.out.map).1
      have hnews := World.news_of_block ((hW3.block _ (by omega) (by omega)).trans hnb)
      obtain ⟨i0, hi, hiz, his, hib⟩ := info_parts infoT
      have hrow := (HT'.out.rows s (List.mem_of_getElem? hs)).1
      have hrl : s.ts.length ≤ 6 := by
        have := (HT'.out.rows s (List.mem_of_getElem? hs)).2
        simp only [List.length_take] at this
        omega
      have hbase : W.heap.size + 4 ≤ wr.heap.size := by have := hV.size; omega
      go_wp2_with (at_builtin; refine wpList_append_lies _ rfl _ _ 23 rfl (W.heap.size + 4) 27 i0 _ 4 32 Tryd.underlying23 hi hiz his hib rfl (by decide) s.v s.ts.length _ rfl hrow ⟨wr.heap.size + 1 + 1, 0, none⟩ 1 1 [.int .i64 (b : Int), .int .i64 (k : Int), .int .i64 tn, .int .i64 tg] rfl rfl hnews (by simp [Value.oneCell']) (by decide) (by unfold maxLen; omega) (by omega) (by omega) _ rfl ?_; intro g cap' W4 hown hgrow hat hlt4)
      have hm4 : W4.heap[bm]? = some (.map (entries l') l'.length) := (hgrow.block bm (by omega) (fun e => by
        rcases row_not_map hrow HT'.out.map with h1 | h1
        · rw [h1] at e; cases e
        · exact h1 e.symm)).trans HT'.out.map
      have hes := entryStore_at W4 bm l' l'.length j' s (.slice (some ⟨g, 0, none⟩) (s.ts.length + 1) cap') (s.ts ++ [⟨(b : Int), (k : Int), tn, tg⟩]) hm4 hs
      have htk : B.trials.take (j + 1) = B.trials.take j ++ [⟨(b : Int), (k : Int), tn, tg⟩] := by
        rw [List.take_succ, HG.out]; rfl
      have hend := HT'.out.append (t := ⟨(b : Int), (k : Int), tn, tg⟩) hs (by simp [isAt, e1, e2]) hgrow hown hat
      rw [← htk] at hend
      have hT4 : Turns (fun b => b = bm ∨ W.heap.size + 4 ≤ b) W3' W4 := ⟨hgrow.os, hgrow.tape, hgrow.output, hgrow.size, fun i hi hne => hgrow.block i hi (fun e => hne (.inr (hrow.lt i e.symm).1))⟩
      have hTs := grown_set (W := W4) (bm := bm) (o := .map (entries (l'.set j' { s with v := .slice (some ⟨g, 0, none⟩) (s.ts.length + 1) cap', ts := s.ts ++ [⟨(b : Int), (k : Int), tn, tg⟩] })) l'.length)
      have hT5 : Turns (fun b => b = bm ∨ W.heap.size + 4 ≤ b) V0 (setBlock W4 bm (.map (entries (l'.set j' { s with v := .slice (some ⟨g, 0, none⟩) (s.ts.length + 1) cap', ts := s.ts ++ [⟨(b : Int), (k : Int), tn, tg⟩] })) l'.length)) :=
        (((hV.trans (Ext.refl _ _) (kturns hk3 _)).trans (Ext.refl _ _) (hW3.mono fun _ _ h => .inl h)).trans (Ext.refl _ _) hT4).trans (Ext.refl _ _)
          ⟨hTs.os, hTs.tape, hTs.output, hTs.size, fun i hi hne => hTs.block i hi (fun e => hne (.inl (by cases e; rfl)))⟩
      have HEND : Hid (∃ (j2 : Nat) (l2 : List Slot), j2 ≤ B.trials.length ∧ Value.int .i64 ((j : Int) + 1) = .int .i64 (j2 : Int) ∧ Tried (setBlock W4 bm (.map (entries (l'.set j' { s with v := .slice (some ⟨g, 0, none⟩) (s.ts.length + 1) cap', ts := s.ts ++ [⟨(b : Int), (k : Int), tn, tg⟩] })) l'.length)) bm (W.heap.size + 4) l2 (B.trials.take j2) ∧ Turns (fun b => b = bm ∨ W.heap.size + 4 ≤ b) V0 (setBlock W4 bm (.map (entries (l'.set j' { s with v := .slice (some ⟨g, 0, none⟩) (s.ts.length + 1) cap', ts := s.ts ++ [⟨(b : Int), (k : Int), tn, tg⟩] })) l'.length))) :=
        Lib.hid ⟨j + 1, _, by omega, by simp, hend, hT5⟩
      clear hend hT5 hTs hT4
      rw [hes]
      clear hes hm4 hown hgrow hat hrow
      generalize setBlock W4 bm (.map (entries (l'.set j' { s with v := .slice (some ⟨g, 0, none⟩) (s.ts.length + 1) cap', ts := s.ts ++ [⟨(b : Int), (k : Int), tn, tg⟩] })) l'.length) = W5 at *
      go_wp2_with fail
      go_roundw
      case rel => exact HEND.out
      case measure => simp [intOf]; omega
    · have hltI : ¬ (j : Int) < B.trials.length := by omega
      have e0 := tcell hV (by omega) c0
      have e1 := tcell hV (by omega) c1
      have e2 := tcell hV (by omega) c2
      have e3 := tcell hV (by omega) c3
      have g0 := tcell hV (by omega) d0
      have g1 := tcell hV (by omega) d1
      have g2 := tcell hV (by omega) d2
      have g3 := tcell hV (by omega) d3
      have gf : ∀ i, wr.frozen? ⟨rb, i, none⟩ = false := fun i => (hV.frozen (by omega) (by omega)).trans (df i)
      have gf0 := gf 0
      have gf1 := gf 1
      have gf2 := gf 2
      have gf3 := gf 3
      go_wp2_with fail
      have hje : j = B.trials.length := by omega
      have hTC : Turns (fun b => b = rb) wr ((((wr.setCell ⟨rb, 0, none⟩ (.slice p B.boys.length cap)).setCell ⟨rb, 1, none⟩ (.int .i64 B.weeks)).setCell ⟨rb, 2, none⟩ (.slice q B.trials.length capt)).setCell ⟨rb, 3, none⟩ (.map (some bm))) := ((((Turns.refl (fun b => b = rb) wr).setCell rfl _ _).setCell rfl _ _).setCell rfl _ _).setCell rfl _ _
      have r0 : ((((wr.setCell ⟨rb, 0, none⟩ (.slice p B.boys.length cap)).setCell ⟨rb, 1, none⟩ (.int .i64 B.weeks)).setCell ⟨rb, 2, none⟩ (.slice q B.trials.length capt)).setCell ⟨rb, 3, none⟩ (.map (some bm))).cell? ⟨rb, 0, none⟩ = some (.slice p B.boys.length cap) := by go_simp
      have r1 : ((((wr.setCell ⟨rb, 0, none⟩ (.slice p B.boys.length cap)).setCell ⟨rb, 1, none⟩ (.int .i64 B.weeks)).setCell ⟨rb, 2, none⟩ (.slice q B.trials.length capt)).setCell ⟨rb, 3, none⟩ (.map (some bm))).cell? ⟨rb, 1, none⟩ = some (.int .i64 B.weeks) := by go_simp
      have r2 : ((((wr.setCell ⟨rb, 0, none⟩ (.slice p B.boys.length cap)).setCell ⟨rb, 1, none⟩ (.int .i64 B.weeks)).setCell ⟨rb, 2, none⟩ (.slice q B.trials.length capt)).setCell ⟨rb, 3, none⟩ (.map (some bm))).cell? ⟨rb, 2, none⟩ = some (.slice q B.trials.length capt) := by go_simp
      have r3 : ((((wr.setCell ⟨rb, 0, none⟩ (.slice p B.boys.length cap)).setCell ⟨rb, 1, none⟩ (.int .i64 B.weeks)).setCell ⟨rb, 2, none⟩ (.slice q B.trials.length capt)).setCell ⟨rb, 3, none⟩ (.map (some bm))).cell? ⟨rb, 3, none⟩ = some (.map (some bm)) := by go_simp
      generalize ((((wr.setCell ⟨rb, 0, none⟩ (.slice p B.boys.length cap)).setCell ⟨rb, 1, none⟩ (.int .i64 B.weeks)).setCell ⟨rb, 2, none⟩ (.slice q B.trials.length capt)).setCell ⟨rb, 3, none⟩ (.map (some bm))) = C at *
      have hbl : B.boys ≠ [] := by
        intro e
        simp only [Book.okB, inB, Bool.and_eq_true, decide_eq_true_eq] at hok
        rw [e] at hok; simp at hok
      obtain ⟨bb, ob, rfl, hboysb⟩ : ∃ b o, p = some ⟨b, o, none⟩ ∧ BoysAt Wb b o B.boys := hb.boys.resolve_left hbl
      have hboys := hboysb.kept hkb
      have hWC : Kept W C := by
        refine Below.trans (Below.trans hk0 (hV.toBelow (n := W.heap.size) ?_ (by omega))) (hTC.toBelow (n := W.heap.size) ?_ ?_)
        · rintro b (rfl | h) <;> omega
        · rintro b rfl; omega
        · have := hV.size; omega
      refine bodyPost_ret (v := .agg #[.slice (some ⟨bb, ob, none⟩) B.boys.length cap, .int .i64 B.weeks, .slice q B.trials.length capt, .map (some bm)]) (by simp [results, Tryd.results33, go_sem, r0, r1, r2, r3]) rfl ?_
      refine ⟨⟨bb, ob, cap, capt, q, bm, B⟩, rfl, rfl, hWC, hok, ?_, hboys.kept hWC, ?_, ?_, hb.nt.2⟩
      · exact ⟨Nat.lt_of_lt_of_le hboys.1 hWC.size, .inl hboysb.1⟩
      · rcases hb.trials with h1 | ⟨b, o, e, ht⟩
        · exact .inl h1
        · exact .inr ⟨b, o, e, ⟨Nat.lt_of_lt_of_le (ht.kept hkb).1 hWC.size, .inl ht.1⟩, (ht.kept hkb).kept hWC⟩
      · intro boy wk hb5 hw
        have hT' := hT
        rw [hje, List.take_length] at hT'
        exact hT'.look hTC (by omega) (by rintro b hb2 rfl; omega) ⟨by have := hTC.size; have := (Array.getElem?_eq_some_iff.1 hT.map).1; omega, .inr (by omega)⟩ (fun b hb2 hb3 => ⟨hb3, .inr (by omega)⟩) (by have h5 : boy < B.boys.length := hb5; omega) (by have h6 : (wk : Int) < B.weeks := hw; omega)
end Go.Proofs.YtchgkfnodcbpiaaDoor
set_option linter.all false
namespace Go.Proofs.YtchgkfnodcbpiaaDoor
open Go.RowKit Go.Sort Go.Rg
set_option maxRecDepth 100000

theorem eq_no (k : Nat) (n1 n2 n3 n4 : Int) (w : World) : (Op.equalIn 10000 74 (.agg #[.int .i64 (k : Int), .int .i64 n1, .int .i64 n2, .int .i64 n3, .int .i64 n4]) (.agg #[.int .i64 (-1), .int .i64 (-1), .int .i64 (-1), .int .i64 (-1), .int .i64 (-1)])).run Tryd.prog w = .ok false w := by kernel_rfl
theorem eq_yes (w : World) : (Op.equalIn 10000 74 (.agg #[.int .i64 (-1), .int .i64 (-1), .int .i64 (-1), .int .i64 (-1), .int .i64 (-1)]) (.agg #[.int .i64 (-1), .int .i64 (-1), .int .i64 (-1), .int .i64 (-1), .int .i64 (-1)])).run Tryd.prog w = .ok true w := by kernel_rfl
attribute [local go_sem] eq_no eq_yes
theorem gen_rng {lo hi : Nat → Int} {boy : Int} {lt : List Trial} {kp : List Int → Bool} : ∀ (d : Nat) (pre x : List Int), x ∈ gen lo hi boy lt kp d pre → Rng lo hi pre → Rng lo hi x
  | 0, pre, x, h, hr => by
    unfold gen at h
    split at h
    · simp at h; rw [h]; exact hr
    · cases h
  | d + 1, pre, x, h, hr => by
    unfold gen at h
    simp only [List.mem_flatten, List.mem_map] at h
    obtain ⟨l, ⟨m, hm, rfl⟩, hx⟩ := h
    split at hx
    · cases hx
    · have := List.mem_range.1 hm
      exact gen_rng d _ x hx (hr.snoc (by omega) (by omega))
theorem truths_rng {B : Book} {boy : Nat} {x : Boy} {n : List Int} (h : n ∈ B.truths boy x) : Rng x.lo x.hi n := gen_rng 5 [] n h (fun i v h => by simp at h)
theorem first_cases {B : Book} {boy : Nat} {x : Boy} (hx : x.okB = true) : (B.truths boy x = [] ∧ firstOf (B.truths boy x) = [-1, -1, -1, -1, -1]) ∨ (B.truths boy x ≠ [] ∧ ∃ (k : Nat) (n1 n2 n3 n4 : Int), firstOf (B.truths boy x) = [(k : Int), n1, n2, n3, n4]) := by
  cases ht : B.truths boy x with
  | nil => exact .inl ⟨rfl, rfl⟩
  | cons y ys =>
    refine .inr ⟨by simp, ?_⟩
    have hm : y ∈ B.truths boy x := by rw [ht]; exact List.mem_cons_self
    obtain ⟨n0, n1, n2, n3, n4, rfl⟩ := truths_len hm
    have h0 := truths_rng hm 0 n0 rfl
    have h1 := (spanAt_ok x hx).1 0 (by omega)
    obtain ⟨k, rfl⟩ := Int.eq_ofNat_of_zero_le (show 0 ≤ n0 by omega)
    exact ⟨k, n1, n2, n3, n4, rfl⟩

def Nothing (W : World) : Prop := ∀ i, i < 5 → W.cell? ⟨0, i, none⟩ = some (.int .i64 (-1))
theorem Nothing.kept {A B : World} (h : Nothing A) (k : Kept A B) : Nothing B := fun i hi => kcell k (h i hi)
def CanP (B : Book) (r : Bool) : Prop := r = true ↔ ∀ (boy : Nat) (x : Boy), B.boys[boy]? = some x → B.truths boy x ≠ []

set_option maxHeartbeats 4000000 in
theorem canBeTrue_any (S : Nat → Prop) (c : Choir) (W : World) (h : ChoirAt S W c) (hS : ∀ b, S b → b < W.heap.size) (hg : Nothing W) :
    Calls Tryd.prog 32 #[c.val] W (ToldB (CanP c.B) W) := by
  have hlen : 1 ≤ c.B.boys.length ∧ c.B.boys.length ≤ 4 := by
    have := h.ok
    simp only [Book.okB, inB, Bool.and_eq_true, decide_eq_true_eq] at this
    omega
  have hbo : ∀ (i : Nat) (x : Boy), c.B.boys[i]? = some x → x.okB = true := by
    have := h.ok
    simp only [Book.okB, Bool.and_eq_true, List.all_eq_true] at this
    exact fun i x hx => this.1.2 x (List.mem_of_getElem? hx)
  unfold Choir.val
  go_enter Tryd.func32, Tryd.ntmps32
  go_wp2_with fail
  have hk0 : Kept W (W.alloc (Obj.cells #[.slice (some ⟨c.bb, c.ob, none⟩) c.B.boys.length c.capb, .int .i64 c.B.weeks, .slice c.q c.B.trials.length c.capt, .map (some c.bm)] 64)) := kept_alloc (kept_refl _) _
  have hz0 : (W.alloc (Obj.cells #[.slice (some ⟨c.bb, c.ob, none⟩) c.B.boys.length c.capb, .int .i64 c.B.weeks, .slice c.q c.B.trials.length c.capt, .map (some c.bm)] 64)).heap.size = W.heap.size + 1 := by simp
  have c0 : (W.alloc (Obj.cells #[.slice (some ⟨c.bb, c.ob, none⟩) c.B.boys.length c.capb, .int .i64 c.B.weeks, .slice c.q c.B.trials.length c.capt, .map (some c.bm)] 64)).cell? ⟨W.heap.size, 0, none⟩ = some (.slice (some ⟨c.bb, c.ob, none⟩) c.B.boys.length c.capb) := by go_simp
  have c1 : (W.alloc (Obj.cells #[.slice (some ⟨c.bb, c.ob, none⟩) c.B.boys.length c.capb, .int .i64 c.B.weeks, .slice c.q c.B.trials.length c.capt, .map (some c.bm)] 64)).cell? ⟨W.heap.size, 1, none⟩ = some (.int .i64 c.B.weeks) := by go_simp
  have c2 : (W.alloc (Obj.cells #[.slice (some ⟨c.bb, c.ob, none⟩) c.B.boys.length c.capb, .int .i64 c.B.weeks, .slice c.q c.B.trials.length c.capt, .map (some c.bm)] 64)).cell? ⟨W.heap.size, 2, none⟩ = some (.slice c.q c.B.trials.length c.capt) := by go_simp
  have c3 : (W.alloc (Obj.cells #[.slice (some ⟨c.bb, c.ob, none⟩) c.B.boys.length c.capb, .int .i64 c.B.weeks, .slice c.q c.B.trials.length c.capt, .map (some c.bm)] 64)).cell? ⟨W.heap.size, 3, none⟩ = some (.map (some c.bm)) := by go_simp
  generalize W.alloc (Obj.cells #[.slice (some ⟨c.bb, c.ob, none⟩) c.B.boys.length c.capb, .int .i64 c.B.weeks, .slice c.q c.B.trials.length c.capt, .map (some c.bm)] 64) = V0 at *
  go_loopw [8] (fun i V => ∃ j : Nat, j ≤ c.B.boys.length ∧ i = .int .i64 j ∧ (∀ (boy : Nat) (x : Boy), boy < j → c.B.boys[boy]? = some x → c.B.truths boy x ≠ []) ∧ Kept V0 V) (fun i V => c.B.boys.length - (intOf i).toNat)
  case atStart => exact ⟨0, by omega, rfl, fun boy x hb => by omega, kept_refl _⟩
  case round =>
    obtain ⟨j, hj, rfl, hno, hV⟩ := hrel
    have HNO := Lib.hid hno; clear hno
    have hkV := kept_trans hk0 hV
    by_cases hlt : j < c.B.boys.length
    · have hltI : (j : Int) < c.B.boys.length := by omega
      have hget : c.B.boys[j]? = some c.B.boys[j] := List.getElem?_eq_getElem hlt
      generalize c.B.boys[j] = x at *
      have d0 : ∀ d os, (grow (redrawn wr d) os).cell? ⟨W.heap.size, 0, none⟩ = some (.slice (some ⟨c.bb, c.ob, none⟩) c.B.boys.length c.capb) := cell_regrown (kcell hV c0)
      have d1 : ∀ d os, (grow (redrawn wr d) os).cell? ⟨W.heap.size, 1, none⟩ = some (.int .i64 c.B.weeks) := cell_regrown (kcell hV c1)
      have d2 : ∀ d os, (grow (redrawn wr d) os).cell? ⟨W.heap.size, 2, none⟩ = some (.slice c.q c.B.trials.length c.capt) := cell_regrown (kcell hV c2)
      have d3 : ∀ d os, (grow (redrawn wr d) os).cell? ⟨W.heap.size, 3, none⟩ = some (.map (some c.bm)) := cell_regrown (kcell hV c3)
      have g0 : ∀ d os, (grow (redrawn wr d) os).cell? ⟨0, 0, none⟩ = some (.int .i64 (-1)) := cell_regrown ((hg.kept hkV) 0 (by omega))
      have g1 : ∀ d os, (grow (redrawn wr d) os).cell? ⟨0, 1, none⟩ = some (.int .i64 (-1)) := cell_regrown ((hg.kept hkV) 1 (by omega))
      have g2 : ∀ d os, (grow (redrawn wr d) os).cell? ⟨0, 2, none⟩ = some (.int .i64 (-1)) := cell_regrown ((hg.kept hkV) 2 (by omega))
      have g3 : ∀ d os, (grow (redrawn wr d) os).cell? ⟨0, 3, none⟩ = some (.int .i64 (-1)) := cell_regrown ((hg.kept hkV) 3 (by omega))
      have g4 : ∀ d os, (grow (redrawn wr d) os).cell? ⟨0, 4, none⟩ = some (.int .i64 (-1)) := cell_regrown ((hg.kept hkV) 4 (by omega))
      have hca : ∀ d os, Calls Tryd.prog 55 #[.agg #[.slice (some ⟨c.bb, c.ob, none⟩) c.B.boys.length c.capb, .int .i64 c.B.weeks, .slice c.q c.B.trials.length c.capt, .map (some c.bm)], .int .i64 (j : Int)] (grow (redrawn wr d) os) fun e w'' => e = .returned (numsV (firstOf (c.B.truths j x))) ∧ ∃ p : Regrown, w'' = grow (redrawn wr p.d) p.os := by
        intro d os
        have hkx := kept_trans hkV (below_regrown wr d os)
        exact Calls.regrown_of (first_any S c j x hget _ (h.turns (kturns hkx (fun _ => False)) (fun _ _ h => h)) (fun b hb => Nat.lt_of_lt_of_le (hS b hb) hkx.size) (hg.kept hkx))
      rcases first_cases (B := c.B) (boy := j) (hbo j x hget) with ⟨ht, hf⟩ | ⟨ht, k, n1, n2, n3, n4, hf⟩
      · rw [hf] at hca
        simp only [numsV, List.map_cons, List.map_nil] at hca
        have HCA := Lib.hid hca; clear hca
        have hey := eq_yes
        have HP : Hid (¬ ∀ (boy : Nat) (x : Boy), c.B.boys[boy]? = some x → c.B.truths boy x ≠ []) := Lib.hid (fun hh => hh j x hget ht)
        clear hget hbo hf ht
        go_wp2_with fail
        refine wp_region_quiet_below (by kernel_rfl) (by kernel_rfl) ?_
        repeat (any_goals (quiet_step (first | exact HCA.out _ _)))
        refine wpQuiet_nil ?_
        intro _ hw'
        obtain ⟨⟨dq, osq⟩, hw''⟩ := hw'
        subst hw''
        have hkq := kept_trans hkV (below_regrown wr dq osq)
        clear d0 d1 d2 d3 g0 g1 g2 g3 g4
        go_wp2_with fail
        go_ret
        exact ⟨false, (show CanP _ _ from ⟨(fun h => by cases h), (fun h => absurd h HP.out)⟩), rfl, hkq⟩
      · rw [hf] at hca
        simp only [numsV, List.map_cons, List.map_nil] at hca
        have HCA := Lib.hid hca; clear hca
        have HNEW : Hid (∀ (boy : Nat) (x : Boy), boy < j + 1 → c.B.boys[boy]? = some x → c.B.truths boy x ≠ []) := Lib.hid (by
          intro boy y hb hg2
          by_cases e : boy = j
          · subst e; rw [hget] at hg2; cases hg2; exact ht
          · exact HNO.out boy y (by omega) hg2)
        clear hget hbo hf ht
        go_wp2_with fail
        refine wp_region_quiet_below (by kernel_rfl) (by kernel_rfl) ?_
        repeat (any_goals (quiet_step (first | exact HCA.out _ _)))
        refine wpQuiet_nil ?_
        intro _ hw'
        obtain ⟨⟨dq, osq⟩, hw''⟩ := hw'
        subst hw''
        have hkq := kept_trans hV (below_regrown wr dq osq)
        clear d0 d1 d2 d3 g0 g1 g2 g3 g4
        go_wp2_with fail
        go_roundw
        case rel => exact ⟨j + 1, by omega, by go_num, HNEW.out, hkq⟩
        case measure => simp [intOf]; omega
    · have hltI : ¬ (j : Int) < c.B.boys.length := by omega
      go_wp2_with fail
      go_ret
      exact ⟨true, (show CanP _ _ from ⟨(fun _ boy x hx => HNO.out boy x (by have := (List.getElem?_eq_some_iff.1 hx).1; omega) hx), (fun _ => rfl)⟩), rfl, hkV⟩
end Go.Proofs.YtchgkfnodcbpiaaDoor
set_option linter.all false
namespace Go.Proofs.YtchgkfnodcbpiaaDoor
open Go.RowKit Go.Sort Go.Rg
set_option maxRecDepth 100000

def zeroChoir : Value := .agg #[.slice none 0 0, .int .i64 0, .slice none 0 0, .map none]
def Can (B : Book) : Prop := ∀ (boy : Nat) (x : Boy), B.boys[boy]? = some x → B.truths boy x ≠ []
def OpenP (B : Book) (asked : Bool) (n0 : Nat) (W : World) (e : Ending) (C : World) : Prop :=
  ∃ v err, e = .returned (.tuple #[v, .int .i64 err]) ∧ Kept W C ∧
    ((err = 0 ∧ B.okB = true ∧ asked = true ∧ Can B ∧ ∃ c : Choir, c.B = B ∧ v = c.val ∧ ChoirAt (fun b => b < C.heap.size ∧ (b < n0 ∨ W.heap.size ≤ b)) C c) ∨
     (v = zeroChoir ∧ ((err = 20 ∧ B.okB = false) ∨ (err = 21 ∧ B.okB = true ∧ asked = false) ∨ (err = 22 ∧ B.okB = true ∧ asked = true ∧ ¬ Can B))))
def Book.val (B : Book) (p q : Option Addr) (cap capt : Nat) : Value := .agg #[.slice p B.boys.length cap, .int .i64 B.weeks, .slice q B.trials.length capt]

set_option maxHeartbeats 4000000 in
theorem open_any (p q : Option Addr) (cap capt : Nat) (B : Book) (asked : Bool) (Wb W : World) (hb : BookAt Wb p q cap capt B) (hkb : Kept Wb W) (hg : Nothing W) :
    Calls Tryd.prog 29 #[B.val p q cap capt, .bool asked] W (OpenP B asked Wb.heap.size W) := by
  have h := hb.kept hkb
  unfold Book.val
  have hk0 : Kept W ((W.alloc (Obj.cells #[.slice p B.boys.length cap, .int .i64 B.weeks, .slice q B.trials.length capt] 25)).alloc (Obj.cells #[.slice none 0 0, .int .i64 0, .slice none 0 0, .map none] 64)) := kept_alloc (kept_alloc (kept_refl _) _) _
  have hz0 : ((W.alloc (Obj.cells #[.slice p B.boys.length cap, .int .i64 B.weeks, .slice q B.trials.length capt] 25)).alloc (Obj.cells #[.slice none 0 0, .int .i64 0, .slice none 0 0, .map none] 64)).heap.size = W.heap.size + 2 := by simp
  have a0 : ((W.alloc (Obj.cells #[.slice p B.boys.length cap, .int .i64 B.weeks, .slice q B.trials.length capt] 25)).alloc (Obj.cells #[.slice none 0 0, .int .i64 0, .slice none 0 0, .map none] 64)).cell? ⟨W.heap.size, 0, none⟩ = some (.slice p B.boys.length cap) := by go_simp
  have a1 : ((W.alloc (Obj.cells #[.slice p B.boys.length cap, .int .i64 B.weeks, .slice q B.trials.length capt] 25)).alloc (Obj.cells #[.slice none 0 0, .int .i64 0, .slice none 0 0, .map none] 64)).cell? ⟨W.heap.size, 1, none⟩ = some (.int .i64 B.weeks) := by go_simp
  have a2 : ((W.alloc (Obj.cells #[.slice p B.boys.length cap, .int .i64 B.weeks, .slice q B.trials.length capt] 25)).alloc (Obj.cells #[.slice none 0 0, .int .i64 0, .slice none 0 0, .map none] 64)).cell? ⟨W.heap.size, 2, none⟩ = some (.slice q B.trials.length capt) := by go_simp
  have b0 : ((W.alloc (Obj.cells #[.slice p B.boys.length cap, .int .i64 B.weeks, .slice q B.trials.length capt] 25)).alloc (Obj.cells #[.slice none 0 0, .int .i64 0, .slice none 0 0, .map none] 64)).cell? ⟨W.heap.size + 1, 0, none⟩ = some (.slice none 0 0) := by go_simp
  have b1 : ((W.alloc (Obj.cells #[.slice p B.boys.length cap, .int .i64 B.weeks, .slice q B.trials.length capt] 25)).alloc (Obj.cells #[.slice none 0 0, .int .i64 0, .slice none 0 0, .map none] 64)).cell? ⟨W.heap.size + 1, 1, none⟩ = some (.int .i64 0) := by go_simp
  have b2 : ((W.alloc (Obj.cells #[.slice p B.boys.length cap, .int .i64 B.weeks, .slice q B.trials.length capt] 25)).alloc (Obj.cells #[.slice none 0 0, .int .i64 0, .slice none 0 0, .map none] 64)).cell? ⟨W.heap.size + 1, 2, none⟩ = some (.slice none 0 0) := by go_simp
  have b3 : ((W.alloc (Obj.cells #[.slice p B.boys.length cap, .int .i64 B.weeks, .slice q B.trials.length capt] 25)).alloc (Obj.cells #[.slice none 0 0, .int .i64 0, .slice none 0 0, .map none] 64)).cell? ⟨W.heap.size + 1, 3, none⟩ = some (.map none) := by go_simp
  have bf : ∀ i, ((W.alloc (Obj.cells #[.slice p B.boys.length cap, .int .i64 B.weeks, .slice q B.trials.length capt] 25)).alloc (Obj.cells #[.slice none 0 0, .int .i64 0, .slice none 0 0, .map none] 64)).frozen? ⟨W.heap.size + 1, i, none⟩ = false := by intro i; go_simp
  go_enter Tryd.func29, Tryd.ntmps29
  go_wp2_with fail
  generalize ((W.alloc (Obj.cells #[.slice p B.boys.length cap, .int .i64 B.weeks, .slice q B.trials.length capt] 25)).alloc (Obj.cells #[.slice none 0 0, .int .i64 0, .slice none 0 0, .map none] 64)) = W1 at *
  refine (check_any p q cap capt B _ (h.kept hk0)).mono ?_
  rintro e W2 ⟨rfl, hk2⟩
  have hkW2 := kept_trans hk0 hk2
  have rs : ∀ (V : World) (v0 v1 v2 v3 : Value), Kept W1 V →
      ∀ X, X = ((((V.setCell ⟨W.heap.size + 1, 0, none⟩ v0).setCell ⟨W.heap.size + 1, 1, none⟩ v1).setCell ⟨W.heap.size + 1, 2, none⟩ v2).setCell ⟨W.heap.size + 1, 3, none⟩ v3) →
      Kept W X ∧ X.cell? ⟨W.heap.size + 1, 0, none⟩ = some v0 ∧ X.cell? ⟨W.heap.size + 1, 1, none⟩ = some v1 ∧ X.cell? ⟨W.heap.size + 1, 2, none⟩ = some v2 ∧ X.cell? ⟨W.heap.size + 1, 3, none⟩ = some v3 ∧ X.heap.size = V.heap.size ∧ Turns (fun b => b = W.heap.size + 1) V X := by
    intro V v0 v1 v2 v3 hV X hX
    have c0 := kcell hV b0
    have c1 := kcell hV b1
    have c2 := kcell hV b2
    have c3 := kcell hV b3
    have hz := hV.size
    have hT : Turns (fun b => b = W.heap.size + 1) V X := by
      rw [hX]; exact ((((Turns.refl (fun b => b = W.heap.size + 1) V).setCell rfl _ _).setCell rfl _ _).setCell rfl _ _).setCell rfl _ _
    refine ⟨Below.trans (kept_trans hk0 hV) (hT.toBelow (n := W.heap.size) (by rintro b rfl; omega) (by omega)), ?_, ?_, ?_, ?_, by rw [hX]; simp, hT⟩
    · rw [hX, cell_set_ne (by omega), cell_set_ne (by omega), cell_set_ne (by omega), cell_set_eq c0]
    · rw [hX, cell_set_ne (by omega), cell_set_ne (by omega)]; exact cell_set_eq ((cell_set_ne (by omega)).trans c1)
    · rw [hX, cell_set_ne (by omega)]; exact cell_set_eq ((cell_set_ne (by omega)).trans ((cell_set_ne (by omega)).trans c2))
    · rw [hX]; exact cell_set_eq ((cell_set_ne (by omega)).trans ((cell_set_ne (by omega)).trans ((cell_set_ne (by omega)).trans c3)))
  have RS := Lib.hid rs; clear rs
  have d0 := kcell hk2 a0
  have d1 := kcell hk2 a1
  have d2 := kcell hk2 a2
  have e0 := kcell hk2 b0
  have e1 := kcell hk2 b1
  have e2 := kcell hk2 b2
  have e3 := kcell hk2 b3
  have ef : ∀ i, W2.frozen? ⟨W.heap.size + 1, i, none⟩ = false := fun i => ((kturns hk2 (fun _ => False)).frozen (by omega) (fun h => h)).trans (bf i)
  have ef0 := ef 0
  have ef1 := ef 1
  have ef2 := ef 2
  have ef3 := ef 3
  have HBF := Lib.hid bf; clear bf ef
  have HA := Lib.hid (And.intro a0 (And.intro a1 a2)); clear a0 a1 a2
  have HBB := Lib.hid (And.intro b0 (And.intro b1 (And.intro b2 b3))); clear b0 b1 b2 b3
  rcases hok : B.okB with _ | _
  · have HK := Lib.hid hok; clear hok
    simp only [Bool.false_eq_true, if_false]
    go_wp2_with fail
    obtain ⟨hkX, r0, r1, r2, r3, hzX, _⟩ := RS.out W2 (.slice none 0 0) (.int .i64 0) (.slice none 0 0) (.map none) hk2 _ rfl
    refine bodyPost_ret (v := .tuple #[zeroChoir, .int .i64 20]) (by simp [results, Tryd.results29, go_sem, r0, r1, r2, r3, zeroChoir]) rfl ?_
    exact ⟨_, _, rfl, hkX, .inr ⟨rfl, .inl ⟨rfl, HK.out⟩⟩⟩
  · have HK := Lib.hid hok; clear hok
    simp only [if_true]
    cases asked with
    | false =>
      go_wp2_with fail
      obtain ⟨hkX, r0, r1, r2, r3, hzX, _⟩ := RS.out W2 (.slice none 0 0) (.int .i64 0) (.slice none 0 0) (.map none) hk2 _ rfl
      refine bodyPost_ret (v := .tuple #[zeroChoir, .int .i64 21]) (by simp [results, Tryd.results29, go_sem, r0, r1, r2, r3, zeroChoir]) rfl ?_
      exact ⟨_, _, rfl, hkX, .inr ⟨rfl, .inr (.inl ⟨rfl, HK.out, rfl⟩)⟩⟩
    | true =>
      go_wp2_with fail
      refine (newChoir_any p q cap capt B Wb W2 HK.out hb (kept_trans hkb hkW2)).mono ?_
      rintro e W3 ⟨c, rfl, rfl, hk3, hat⟩
      have hk13 := kept_trans hk2 hk3
      have e0 := kcell hk3 e0
      have e1 := kcell hk3 e1
      have e2 := kcell hk3 e2
      have e3 := kcell hk3 e3
      have ef : ∀ i, W3.frozen? ⟨W.heap.size + 1, i, none⟩ = false := fun i => ((kturns hk13 (fun _ => False)).frozen (by omega) (fun h => h)).trans (HBF.out i)
      have ef0 := ef 0
      have ef1 := ef 1
      have ef2 := ef 2
      have ef3 := ef 3
      have hz3 := hk13.size
      unfold Choir.val
      go_wp2_with fail
      have hk4 : Kept W3 (W3.alloc (Obj.cells #[.slice (some ⟨c.bb, c.ob, none⟩) c.B.boys.length c.capb, .int .i64 c.B.weeks, .slice c.q c.B.trials.length c.capt, .map (some c.bm)] 64)) := kept_alloc (kept_refl _) _
      have hz4 : (W3.alloc (Obj.cells #[.slice (some ⟨c.bb, c.ob, none⟩) c.B.boys.length c.capb, .int .i64 c.B.weeks, .slice c.q c.B.trials.length c.capt, .map (some c.bm)] 64)).heap.size = W3.heap.size + 1 := by simp
      have s0 : (W3.alloc (Obj.cells #[.slice (some ⟨c.bb, c.ob, none⟩) c.B.boys.length c.capb, .int .i64 c.B.weeks, .slice c.q c.B.trials.length c.capt, .map (some c.bm)] 64)).cell? ⟨W3.heap.size, 0, none⟩ = some (.slice (some ⟨c.bb, c.ob, none⟩) c.B.boys.length c.capb) := by go_simp
      have s1 : (W3.alloc (Obj.cells #[.slice (some ⟨c.bb, c.ob, none⟩) c.B.boys.length c.capb, .int .i64 c.B.weeks, .slice c.q c.B.trials.length c.capt, .map (some c.bm)] 64)).cell? ⟨W3.heap.size, 1, none⟩ = some (.int .i64 c.B.weeks) := by go_simp
      have s2 : (W3.alloc (Obj.cells #[.slice (some ⟨c.bb, c.ob, none⟩) c.B.boys.length c.capb, .int .i64 c.B.weeks, .slice c.q c.B.trials.length c.capt, .map (some c.bm)] 64)).cell? ⟨W3.heap.size, 2, none⟩ = some (.slice c.q c.B.trials.length c.capt) := by go_simp
      have s3 : (W3.alloc (Obj.cells #[.slice (some ⟨c.bb, c.ob, none⟩) c.B.boys.length c.capb, .int .i64 c.B.weeks, .slice c.q c.B.trials.length c.capt, .map (some c.bm)] 64)).cell? ⟨W3.heap.size, 3, none⟩ = some (.map (some c.bm)) := by go_simp
      have hcan := canBeTrue_any (fun b => b < W3.heap.size ∧ (b < Wb.heap.size ∨ W2.heap.size ≤ b)) c (W3.alloc (Obj.cells #[.slice (some ⟨c.bb, c.ob, none⟩) c.B.boys.length c.capb, .int .i64 c.B.weeks, .slice c.q c.B.trials.length c.capt, .map (some c.bm)] 64)) (hat.turns (kturns hk4 (fun _ => False)) (fun _ _ h => h)) (fun b hb => by have := hb.1; omega) (hg.kept (kept_trans hkW2 (kept_trans hk3 hk4)))
      unfold Choir.val at hcan
      generalize (W3.alloc (Obj.cells #[.slice (some ⟨c.bb, c.ob, none⟩) c.B.boys.length c.capb, .int .i64 c.B.weeks, .slice c.q c.B.trials.length c.capt, .map (some c.bm)] 64)) = W4 at *
      refine hcan.mono ?_
      clear hcan
      rintro e W5 ⟨r, hr, rfl, hk5⟩
      have hk15 := kept_trans hk13 (kept_trans hk4 hk5)
      have e0 := kcell (kept_trans hk4 hk5) e0
      have e1 := kcell (kept_trans hk4 hk5) e1
      have e2 := kcell (kept_trans hk4 hk5) e2
      have e3 := kcell (kept_trans hk4 hk5) e3
      have ef : ∀ i, W5.frozen? ⟨W.heap.size + 1, i, none⟩ = false := fun i => ((kturns hk15 (fun _ => False)).frozen (by omega) (fun h => h)).trans (HBF.out i)
      have ef0 := ef 0
      have ef1 := ef 1
      have ef2 := ef 2
      have ef3 := ef 3
      have s0 := kcell hk5 s0
      have s1 := kcell hk5 s1
      have s2 := kcell hk5 s2
      have s3 := kcell hk5 s3
      have HC := Lib.hid hr; clear hr
      have HAT := Lib.hid (hat.turns (kturns (kept_trans hk4 hk5) (fun _ => False)) (fun _ _ h => h)); clear hat
      cases r with
      | false =>
        go_wp2_with fail
        obtain ⟨hkX, r0, r1, r2, r3, hzX, _⟩ := RS.out W5 (.slice none 0 0) (.int .i64 0) (.slice none 0 0) (.map none) hk15 _ rfl
        refine bodyPost_ret (v := .tuple #[zeroChoir, .int .i64 22]) (by simp [results, Tryd.results29, go_sem, r0, r1, r2, r3, zeroChoir]) rfl ?_
        exact ⟨_, _, rfl, hkX, .inr ⟨rfl, .inr (.inr ⟨rfl, HK.out, rfl, (fun h => by have := HC.out.2 h; cases this)⟩)⟩⟩
      | true =>
        go_wp2_with fail
        obtain ⟨hkX, r0, r1, r2, r3, hzX, hTX⟩ := RS.out W5 (.slice (some ⟨c.bb, c.ob, none⟩) c.B.boys.length c.capb) (.int .i64 c.B.weeks) (.slice c.q c.B.trials.length c.capt) (.map (some c.bm)) hk15 _ rfl
        refine bodyPost_ret (v := .tuple #[c.val, .int .i64 0]) (by simp [results, Tryd.results29, go_sem, r0, r1, r2, r3, Choir.val]) rfl ?_
        refine ⟨_, _, rfl, hkX, .inl ⟨rfl, HK.out, rfl, HC.out.1 rfl, c, rfl, rfl, ?_⟩⟩
        have hz2 := hk2.size
        have hz5 := (kept_trans hk4 hk5).size
        have hzb := hkb.size
        exact (HAT.out.turns hTX (fun b hb e => by have := hb.2; omega)).mono (fun b hb => ⟨by have := hb.1; omega, by have := hb.2; omega⟩)
end Go.Proofs.YtchgkfnodcbpiaaDoor
