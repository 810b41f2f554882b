import Derived.Test.YtbhgicggpkibeaaDoorVXa
set_option linter.all false
set_option linter.all false
namespace Go.Proofs.YtbhgicggpkibeaaDoor
open Go.RowKit Go.Sort Go.Rg
set_option maxRecDepth 100000
attribute [local go_sem] Oper.semAt_some

structure Choir where
  bb : Nat
  ob : Nat
  capb : Nat
  capt : Nat
  q : Option Addr
  bm : Nat
  B : Book
def Choir.k0 (c : Choir) : Value := .slice (some ⟨c.bb, c.ob, none⟩) c.B.boys.length c.capb
def Choir.m (c : Choir) : Value := .map (some c.bm)
def Choir.k2 (c : Choir) : Value := .slice c.q c.B.trials.length c.capt

/-- a map of trials tells these at a key; S: the blocks that it reads -/
def Look2 (S : Nat → Prop) (W : World) (bm : Nat) (boy wk : Nat) (l : List Trial) : Prop :=
  ∃ v, S bm ∧ bm < W.heap.size ∧ (∀ W', W'.heap[bm]? = W.heap[bm]? → (Instr.lookup 82 (.map (some bm)) (.agg #[.int .i64 boy, .int .i64 wk]) false).run Tryd.prog W' = .ok v W') ∧
    ((v = .slice none 0 0 ∧ l = []) ∨ ∃ b o cap, v = .slice (some ⟨b, o, none⟩) l.length cap ∧ S b ∧ TrialsAt W b o l)
theorem TrialsAt.turns {A B : World} {U : Nat → Prop} {b o : Nat} {l : List Trial} (h : TrialsAt A b o l) (k : Turns U A B) (hu : ¬ U b) : TrialsAt B b o l :=
  ⟨Nat.lt_of_lt_of_le h.1 k.size, fun i t hi => by
    obtain ⟨c0, c1, c2, c3⟩ := h.2 i t hi
    exact ⟨tcell k hu c0, tcell k hu c1, tcell k hu c2, tcell k hu c3⟩⟩
theorem BoysAt.turns {A B : World} {U : Nat → Prop} {b o : Nat} {l : List Boy} (h : BoysAt A b o l) (k : Turns U A B) (hu : ¬ U b) : BoysAt B b o l :=
  ⟨Nat.lt_of_lt_of_le h.1 k.size, fun i x hi => by
    obtain ⟨c0, c1, c2, c3, c4, c5, c6, c7, c8, c9, c10⟩ := h.2 i x hi
    exact ⟨tcell k hu c0, tcell k hu c1, tcell k hu c2, tcell k hu c3, tcell k hu c4, tcell k hu c5, tcell k hu c6, tcell k hu c7, tcell k hu c8, tcell k hu c9, tcell k hu c10⟩⟩
theorem Look2.turns {S : Nat → Prop} {A B : World} {U : Nat → Prop} {bm : Nat} {boy wk : Nat} {l : List Trial} (h : Look2 S A bm boy wk l) (k : Turns U A B) (hu : ∀ b, S b → ¬ U b) : Look2 S B bm boy wk l := by
  obtain ⟨v, hs, hz, hl, hv⟩ := h
  have hb := k.block bm hz (hu _ hs)
  refine ⟨v, hs, Nat.lt_of_lt_of_le hz k.size, fun W' hW' => hl W' (hW'.trans hb), ?_⟩
  rcases hv with hv | ⟨b, o, cap, e2, hs2, ht⟩
  · exact .inl hv
  · exact .inr ⟨b, o, cap, e2, hs2, ht.turns k (hu _ hs2)⟩
theorem Look2.looks {S : Nat → Prop} {W : World} {bm : Nat} {boy wk : Nat} {l : List Trial} (h : Look2 S W bm boy wk l) : LooksAt W (.map (some bm)) boy wk l := by
  obtain ⟨v, hs, hz, hl, hv⟩ := h
  refine ⟨v, fun W' hk => hl W' (hk.block bm hz), ?_⟩
  rcases hv with hv | ⟨b, o, cap, e2, hs2, ht⟩
  · exact .inl hv
  · exact .inr ⟨b, o, cap, e2, ht⟩

def Book.told (B : Book) (boy wk : Nat) : List Trial := B.trials.filter fun t => decide (t.boy = (boy : Int)) && decide (t.week = (wk : Int))
structure ChoirAt (S : Nat → Prop) (W : World) (c : Choir) : Prop where
  ok : c.B.okB = true
  sb : S c.bb
  boys : BoysAt W c.bb c.ob c.B.boys
  trials : c.B.trials = [] ∨ ∃ b o, c.q = some ⟨b, o, none⟩ ∧ S b ∧ TrialsAt W b o c.B.trials
  looks : ∀ boy wk : Nat, boy < c.B.boys.length → (wk : Int) < c.B.weeks → Look2 S W c.bm boy wk (c.B.told boy wk)
theorem ChoirAt.turns {S : Nat → Prop} {A B : World} {U : Nat → Prop} {c : Choir} (h : ChoirAt S A c) (k : Turns U A B) (hu : ∀ b, S b → ¬ U b) : ChoirAt S B c where
  ok := h.ok
  sb := h.sb
  boys := h.boys.turns k (hu _ h.sb)
  trials := h.trials.imp id fun ⟨b, o, e, hs, ht⟩ => ⟨b, o, e, hs, ht.turns k (hu _ hs)⟩
  looks := fun boy wk hb hw => (h.looks boy wk hb hw).turns k hu

theorem Look2.mono {S S' : Nat → Prop} {A : World} {bm : Nat} {boy wk : Nat} {l : List Trial} (h : Look2 S A bm boy wk l) (hs : ∀ b, S b → S' b) : Look2 S' A bm boy wk l := by
  obtain ⟨v, h1, h2, h3, h4⟩ := h
  exact ⟨v, hs _ h1, h2, h3, h4.imp id fun ⟨b, o, cap, e, h5, h6⟩ => ⟨b, o, cap, e, hs _ h5, h6⟩⟩
theorem ChoirAt.mono {S S' : Nat → Prop} {A : World} {c : Choir} (h : ChoirAt S A c) (hs : ∀ b, S b → S' b) : ChoirAt S' A c where
  ok := h.ok
  sb := hs _ h.sb
  boys := h.boys
  trials := h.trials.imp id fun ⟨b, o, e, h5, h6⟩ => ⟨b, o, e, hs _ h5, h6⟩
  looks := fun boy wk hb hw => (h.looks boy wk hb hw).mono hs
def Boy.lo (x : Boy) : Nat → Int
  | 0 => x.l0
  | 1 => x.h0
  | 2 => x.g0
  | 3 => x.t0
  | _ => x.b0
def Boy.hi (x : Boy) : Nat → Int
  | 0 => x.l1
  | 1 => x.h1
  | 2 => x.g1
  | 3 => x.t1
  | _ => x.b1
def kpOf (B : Book) (boy : Nat) (x : Boy) (n : List Int) : Bool :=
  (List.range B.weeks.toNat).all fun wk => !((B.told boy wk).any (TB (n.getD 0 0) (n.getD 1 0) (n.getD 2 0) (n.getD 3 0) (n.getD 4 0) x.ls))
def Book.truths (B : Book) (boy : Nat) (x : Boy) : List (List Int) := gen x.lo x.hi boy B.trials (kpOf B boy x) 5 []
theorem spanAt_ok (x : Boy) (h : x.okB = true) : (∀ i, i < 5 → 0 ≤ x.lo i ∧ x.lo i ≤ 40 ∧ x.lo i ≤ x.hi i ∧ x.hi i ≤ x.lo i + 3 ∧ x.hi i ≤ 40) ∧ 0 ≤ x.ls ∧ x.ls ≤ 2 := by
  simp only [Boy.okB, spanAt, spanB, inB, Bool.and_eq_true, decide_eq_true_eq, Bool.not_eq_true', decide_eq_false_iff_not] at h
  refine ⟨fun i hi => ?_, by omega⟩
  match i, hi with
  | 0, _ => simp only [Boy.lo, Boy.hi]; omega
  | 1, _ => simp only [Boy.lo, Boy.hi]; omega
  | 2, _ => simp only [Boy.lo, Boy.hi]; omega
  | 3, _ => simp only [Boy.lo, Boy.hi]; omega
  | 4, _ => simp only [Boy.lo, Boy.hi]; omega

theorem keeps_at (S : Nat → Prop) (c : Choir) (boy : Nat) (x : Boy) (hx : c.B.boys[boy]? = some x) (A : World) (h : ChoirAt S A c) (n0 n1 n2 n3 n4 : Int) (hr : Rng x.lo x.hi [n0, n1, n2, n3, n4]) :
    Calls Tryd.prog 146 #[.agg #[c.k0, .int .i64 c.B.weeks, c.k2, c.m, .int .i64 (boy : Int), .int .i64 n0, .int .i64 n1, .int .i64 n2, .int .i64 n3, .int .i64 n4]] A fun e B => e = .returned (.bool (kpOf c.B boy x [n0, n1, n2, n3, n4])) ∧ Kept A B := by
  have hbl : boy < c.B.boys.length := (List.getElem?_eq_some_iff.1 hx).1
  have hok := h.ok
  simp only [Book.okB, inB, Bool.and_eq_true, decide_eq_true_eq, List.all_eq_true] at hok
  obtain ⟨⟨⟨⟨⟨hb1, hb4⟩, hw1, hw6⟩, ht6⟩, hbo⟩, hto⟩ := hok
  have hxo := hbo x (List.mem_of_getElem? hx)
  obtain ⟨hsp, hls⟩ := spanAt_ok x hxo
  obtain ⟨wk, hwk⟩ := Int.eq_ofNat_of_zero_le (show 0 ≤ c.B.weeks by omega)
  have r1 := hr 1 n1 rfl
  have r2 := hr 2 n2 rfl
  have r3 := hr 3 n3 rfl
  have s1 := hsp 1 (by omega)
  have s2 := hsp 2 (by omega)
  have s3 := hsp 3 (by omega)
  have := keeps_any c.bb c.ob c.B.boys.length c.capb c.k2 c.m wk boy n0 n1 n2 n3 n4 x.ls (c.B.told boy) A hbl (by omega) (h.boys.2 boy x hx).2.2.2.2.2.2.2.2.1 h.boys.1 (by omega) (by omega) (by omega) (by omega) (by omega)
    (fun k hk => (h.looks boy k hbl (by omega)).looks) (fun k hk => Nat.le_trans (List.length_filter_le _ _) ht6) (fun k hk t ht => by
      have := (List.mem_filter.1 ht).2
      simp only [Bool.and_eq_true, decide_eq_true_eq] at this
      omega)
  rw [hwk]
  refine this.mono ?_
  rintro e B ⟨r, hr, rfl, hk⟩
  refine ⟨?_, hk⟩
  have : r = kpOf c.B boy x [n0, n1, n2, n3, n4] := by
    rw [Bool.eq_iff_iff]
    unfold KeepsP at hr
    rw [hr, kpOf, List.all_eq_true, hwk]
    simp
  rw [this]
end Go.Proofs.YtbhgicggpkibeaaDoor
