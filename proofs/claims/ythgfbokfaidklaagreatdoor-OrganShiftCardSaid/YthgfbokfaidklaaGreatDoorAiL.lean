/- Known calls: an evaluator with a table of calls that are known. No conditions. -/
import Derived.Test.YthgfbokfaidklaaGreatDoorAiD
import GoSem.ClaimChange
set_option linter.all false
namespace Go.Ai
noncomputable section

/-- A table as a tree, its keys below 2 ^ d - 1. -/
def Tr.tab {α : Type} : Nat → (Nat → Option α) → Tr α
  | 0, _ => .nil
  | d + 1, g => .node (g 0) (tab d fun k => g (2 * k + 1)) (tab d fun k => g (2 * k + 2))
theorem Tr.get_tab {α : Type} (d : Nat) : ∀ (g : Nat → Option α) (n : Nat) (x : α), (Tr.tab d g).get n = some x → g n = some x := by
  induction d with
  | zero => intro g n x h; rw [Tr.tab, Tr.get_nil] at h; cases h
  | succ d ih =>
    intro g n x h
    cases n with
    | zero => rwa [Tr.tab, Tr.get_node0] at h
    | succ m =>
      rw [Tr.tab, Tr.get_nodeS] at h
      split at h
      · have := ih _ _ _ h
        rwa [show 2 * (m / 2) + 1 = m + 1 by omega] at this
      · have := ih _ _ _ h
        rwa [show 2 * (m / 2) + 2 = m + 1 by omega] at this
end
end Go.Ai
namespace Go.Ai
noncomputable section

/-! ### Calls that are known: the same but for the blocks' numbers -/
def rl (ρ : List (Nat × Nat)) (s : Nat) : Nat := match ρ with
  | [] => 0
  | (a, b) :: r => match Nat.beq a s with
    | true => b
    | false => rl r s
def all2 {α : Type} (f : α → α → Bool) : List α → List α → Bool
  | [], [] => true
  | x :: l, y :: m => f x y && all2 f l m
  | _, _ => false
def mV (ρ : List (Nat × Nat)) : Nat → Value → Value → Bool
  | 0, _, _ => false
  | n + 1, v, v' => match v, v' with
    | .bool a, .bool b => (match a, b with | true, true => true | false, false => true | _, _ => false)
    | .int k a, .int k' b => eqK k k' && eqI a b
    | .pointer none, .pointer none => true
    | .pointer (some ⟨b, o, none⟩), .pointer (some ⟨b', o', none⟩) => Nat.beq (rl ρ b) b' && Nat.beq o o'
    | .slice none l c, .slice none l' c' => Nat.beq l l' && Nat.beq c c'
    | .slice (some ⟨b, o, none⟩) l c, .slice (some ⟨b', o', none⟩) l' c' => Nat.beq (rl ρ b) b' && Nat.beq o o' && (Nat.beq l l' && Nat.beq c c')
    | .map none, .map none => true
    | .map (some r), .map (some r') => Nat.beq (rl ρ r) r'
    | .chan (some r), .chan (some r') => Nat.beq (rl ρ r) r'
    | .nilFunc, .nilFunc => true
    | .func (.func f) a c, .func (.func f') a' c' => Nat.beq f f' && (all2 (mV ρ n) a.toList a'.toList && all2 (mV ρ n) c.toList c'.toList)
    | .agg a, .agg a' => all2 (mV ρ n) a.toList a'.toList
    | .tuple a, .tuple a' => all2 (mV ρ n) a.toList a'.toList
    | _, _ => false
/-- The two are one value, wherever the blocks lie. -/
def RelV (ρ : List (Nat × Nat)) (v v' : Value) : Prop := ∀ j : Nat → RB, conc (fun b => j (rl ρ b)) v = conc j v'
theorem all2_map {α β : Type} {f : α → α → Bool} {g g' : α → β} (h : ∀ x y, f x y = true → g x = g' y) : ∀ {l m : List α}, all2 f l m = true → l.map g = m.map g' := by
  intro l
  induction l with
  | nil => intro m hm; cases m with
    | nil => rfl
    | cons y m => simp [all2] at hm
  | cons x l ih => intro m hm; cases m with
    | nil => simp [all2] at hm
    | cons y m =>
      simp only [all2, Bool.and_eq_true] at hm
      simp [h x y hm.1, ih hm.2]
theorem mV_ok (ρ : List (Nat × Nat)) : ∀ (n : Nat) (v v' : Value), mV ρ n v v' = true → RelV ρ v v' := by
  intro n
  induction n with
  | zero => intro v v' h; simp [mV] at h
  | succ n ih =>
    intro v v' h j
    unfold mV at h
    split at h
    · rename_i a b; cases a <;> cases b <;> first | rfl | cases h
    · rename_i k a k' b
      simp only [Bool.and_eq_true, eqK_eq, eqI_eq, decide_eq_true_eq, beq_iff_eq] at h
      rw [h.1, h.2]; rfl
    · rfl
    · rename_i b o b' o'
      simp only [Bool.and_eq_true, Nat.beq_eq] at h
      simp [ca, h.1, h.2]
    · rename_i l c l' c'
      simp only [Bool.and_eq_true, Nat.beq_eq] at h
      rw [h.1, h.2]; rfl
    · rename_i b o l c b' o' l' c'
      simp only [Bool.and_eq_true, Nat.beq_eq] at h
      simp [ca, ccap, h.1.1, h.1.2, h.2.1, h.2.2]
    · rfl
    · rename_i r r'
      simp only [Nat.beq_eq] at h
      simp [h]
    · rename_i r r'
      simp only [Nat.beq_eq] at h
      simp [h]
    · rfl
    · rename_i f a c f' a' c'
      simp only [Bool.and_eq_true, Nat.beq_eq] at h
      obtain ⟨rfl, h1, h2⟩ := h
      rw [conc_func, conc_func, all2_map (fun x y hxy => ih x y hxy j) h1, all2_map (fun x y hxy => ih x y hxy j) h2]
      rfl
    · rename_i a a'
      rw [conc_agg, conc_agg, all2_map (fun x y hxy => ih x y hxy j) h]
    · rename_i a a'
      rw [conc_tuple, conc_tuple, all2_map (fun x y hxy => ih x y hxy j) h]
    · cases h
def mE (ρ : List (Nat × Nat)) (e e' : MapEntry) : Bool := mV ρ 6 e.key e'.key && mV ρ 6 e.val e'.val && Nat.beq e.born e'.born
def mB (ρ : List (Nat × Nat)) (x x' : Blk) : Bool := match x, x' with
  | .cells rw g cs, .cells rw' g' cs' => (match rw, rw' with | true, true => true | false, _ => true | _, _ => false) && Nat.beq g g' && all2 (mV ρ 6) cs cs'
  | .map es c, .map es' c' => Nat.beq c c' && all2 (mE ρ) es es'
  | .dead, _ => true
  | .res k c, .res k' c' => Nat.beq k k' && Nat.beq c c'
  | _, _ => false
theorem all2_get {α : Type} {f : α → α → Bool} : ∀ {l m : List α}, all2 f l m = true → l.length = m.length ∧ ∀ (i : Nat) (x : α), l[i]? = some x → ∃ y, m[i]? = some y ∧ f x y = true := by
  intro l
  induction l with
  | nil => intro m hm; cases m with
    | nil => exact ⟨rfl, fun i x h => by simp at h⟩
    | cons y m => simp [all2] at hm
  | cons x l ih => intro m hm; cases m with
    | nil => simp [all2] at hm
    | cons y m =>
      simp only [all2, Bool.and_eq_true] at hm
      obtain ⟨h1, h2⟩ := ih hm.2
      refine ⟨by simp [h1], fun i z hz => ?_⟩
      cases i with
      | zero => simp at hz; subst hz; exact ⟨y, rfl, hm.1⟩
      | succ i => exact h2 i z (by simpa using hz)
theorem mB_ok {ρ : List (Nat × Nat)} {x x' : Blk} (h : mB ρ x x' = true) {j : Nat → RB} {rb : RB} {w : World} (hb : BlkAt j rb w x') : BlkAt (fun b => j (rl ρ b)) rb w x := by
  unfold mB at h
  split at h
  · rename_i rw_ g cs rw' g' cs'
    simp only [Bool.and_eq_true, Nat.beq_eq] at h
    obtain ⟨⟨h1, rfl⟩, h2⟩ := h
    obtain ⟨hl, hg⟩ := all2_get h2
    have hrw : rw_ = true → rw' = true := fun e => by subst e; cases rw' <;> first | rfl | cases h1
    refine ⟨fun i v hv => ?_, fun s hs => ?_⟩
    · obtain ⟨v', hv', hm⟩ := hg i v hv
      obtain ⟨b1, b2⟩ := hb.1 i v' hv'
      exact ⟨by rw [b1, mV_ok ρ 6 v v' hm j], fun e => b2 (hrw e)⟩
    · obtain ⟨b1, b2⟩ := hb.2 s hs
      rw [hl]
      exact ⟨b1, b2⟩
  · rename_i es c es' c'
    simp only [Bool.and_eq_true, Nat.beq_eq] at h
    obtain ⟨rfl, h2⟩ := h
    show w.heap[rb.blk]? = _
    rw [show w.heap[rb.blk]? = some (.map ⟨es'.map (concE j)⟩ c) from hb, all2_map (g := concE fun b => j (rl ρ b)) (g' := concE j) (fun e e' he => ?_) h2]
    unfold mE at he
    simp only [Bool.and_eq_true, Nat.beq_eq] at he
    simp only [concE, mV_ok ρ 6 _ _ he.1.1 j, mV_ok ρ 6 _ _ he.1.2 j, he.2]
  · trivial
  · simp only [Bool.and_eq_true, Nat.beq_eq] at h
    obtain ⟨rfl, rfl⟩ := h
    exact hb
  · cases h
theorem mB_live {ρ : List (Nat × Nat)} {x x' : Blk} (h : mB ρ x x' = true) (hl : x.live) : x'.live := by
  unfold mB at h
  split at h
  · trivial
  · trivial
  · exact hl.elim
  · exact hl.elim
  · cases h

/-! ### What a value speaks of -/
def mem (n : Nat) : List Nat → Bool
  | [] => false
  | m :: l => match Nat.beq m n with
    | true => true
    | false => mem n l
theorem mem_ok {n : Nat} : ∀ {l : List Nat}, mem n l = true → n ∈ l := by
  intro l
  induction l with
  | nil => intro h; cases h
  | cons m l ih =>
    intro h
    simp only [mem] at h
    split at h
    · rename_i e; exact List.mem_cons.2 (.inl (Nat.eq_of_beq_eq_true e).symm)
    · exact List.mem_cons_of_mem _ (ih h)
def scV (D : List Nat) : Nat → Value → Bool
  | 0, _ => false
  | n + 1, v => match v with
    | .bool _ => true
    | .int _ _ => true
    | .pointer none => true
    | .pointer (some a) => mem a.block D
    | .slice none _ _ => true
    | .slice (some a) _ _ => mem a.block D
    | .map none => true
    | .map (some r) => mem r D
    | .chan (some r) => mem r D
    | .nilFunc => true
    | .func (.func _) a c => a.toList.all (scV D n) && c.toList.all (scV D n)
    | .agg a => a.toList.all (scV D n)
    | .tuple a => a.toList.all (scV D n)
    | _ => false
theorem scV_ok (D : List Nat) : ∀ (n : Nat) (v : Value), scV D n v = true → Sc (· ∈ D) v := by
  intro n
  induction n with
  | zero => intro v h; cases h
  | succ n ih =>
    intro v h j j' e
    have hall : ∀ l : List Value, l.all (scV D n) = true → l.map (conc j') = l.map (conc j) := fun l hl =>
      List.map_congr_left fun x hx => ih x (List.all_eq_true.1 hl x hx) j j' e
    unfold scV at h
    split at h
    · rfl
    · rfl
    · rfl
    · simp [ca, e _ (mem_ok h)]
    · rfl
    · simp [ca, ccap, e _ (mem_ok h)]
    · rfl
    · simp [e _ (mem_ok h)]
    · simp [e _ (mem_ok h)]
    · rfl
    · simp only [Bool.and_eq_true] at h
      rw [conc_func, conc_func, hall _ h.1, hall _ h.2]
      rfl
    · rw [conc_agg, conc_agg, hall _ h]
    · rw [conc_tuple, conc_tuple, hall _ h]
    · cases h
def scB (D : List Nat) : Blk → Bool
  | .cells _ _ cs => cs.all (scV D 6)
  | .map es _ => es.all fun e => scV D 6 e.key && scV D 6 e.val
  | .dead => true
  | .res _ _ => true
  | _ => false
theorem scB_ok {D : List Nat} {x : Blk} (h : scB D x = true) : BlkSc (· ∈ D) x := by
  cases x with
  | cells rw g cs => exact fun v hv => scV_ok D 6 v (List.all_eq_true.1 h v hv)
  | map es c =>
    intro e he
    have := List.all_eq_true.1 h e he
    simp only [Bool.and_eq_true] at this
    exact ⟨scV_ok D 6 _ this.1, scV_ok D 6 _ this.2⟩
  | loop a b c d e f g i => cases h
  | defd => cases h
  | dead => trivial
  | res => trivial

/-- The value, its blocks renamed. -/
def rnV (ρ : List (Nat × Nat)) : Nat → Value → Value
  | 0, v => v
  | n + 1, v => match v with
    | .pointer (some ⟨b, o, s⟩) => .pointer (some ⟨rl ρ b, o, s⟩)
    | .slice (some ⟨b, o, s⟩) l c => .slice (some ⟨rl ρ b, o, s⟩) l c
    | .map (some r) => .map (some (rl ρ r))
    | .chan (some r) => .chan (some (rl ρ r))
    | .func f a c => .func f ⟨a.toList.map (rnV ρ n)⟩ ⟨c.toList.map (rnV ρ n)⟩
    | .agg a => .agg ⟨a.toList.map (rnV ρ n)⟩
    | .tuple a => .tuple ⟨a.toList.map (rnV ρ n)⟩
    | v => v

/-! ### A small heap, block by block -/
def treeOf : List (Nat × Blk) → Tr (Nat × Blk)
  | [] => .nil
  | (b, x) :: l => Tr.setK 64 (treeOf l) b (some (0, x)) id
def heapOf (next : Nat) (l : List (Nat × Blk)) : Hp := ⟨next, 0, treeOf l⟩
def al (l : List (Nat × Blk)) (b : Nat) : Option Blk := match l with
  | [] => none
  | (a, x) :: l => if b = a then some x else al l b
theorem treeOf_get {next : Nat} (hn : next < 2 ^ 62) : ∀ {l : List (Nat × Blk)}, (∀ x ∈ l, x.1 < next) → ∀ b, (treeOf l).get b = (al l b).map fun x => (0, x) := by
  intro l
  induction l with
  | nil => intro _ b; simp [treeOf, al, Tr.get_nil]
  | cons x l ih =>
    intro h b
    obtain ⟨a, x⟩ := x
    have ha : a < next := h (a, x) (by simp)
    rw [treeOf, Tr.setK_eq, id, Tr.get_set 64 _ _ _ _ (by omega), ih (fun y hy => h y (by simp [hy])) b]
    simp only [al]
    split <;> rfl
theorem al_mem {l : List (Nat × Blk)} {b : Nat} {x : Blk} (h : al l b = some x) : (b, x) ∈ l := by
  induction l with
  | nil => cases h
  | cons y l ih =>
    obtain ⟨a, y⟩ := y
    simp only [al] at h
    split at h
    · cases h; subst_vars; simp
    · exact List.mem_cons_of_mem _ (ih h)
theorem al_of_mem {l : List (Nat × Blk)} {b : Nat} (h : b ∈ l.map (·.1)) : ∃ x, al l b = some x := by
  induction l with
  | nil => cases h
  | cons y l ih =>
    obtain ⟨a, y⟩ := y
    simp only [al]
    split
    · exact ⟨_, rfl⟩
    · rename_i hne
      simp only [List.map_cons, List.mem_cons] at h
      exact ih (h.resolve_left hne)
end
end Go.Ai
namespace Go.Ai
noncomputable section
open Classical
variable {E : Env}

/-- A call that is known: at a small heap, it hands back v, and blocks of its own, and leaves the heap as it was. -/
structure Ent where
  f : FuncId
  args : List Value
  next : Nat
  blks : List (Nat × Blk)
  outs : List Blk
  v : Value
/-- A block of its own: cells, or a map. -/
def outOk : Blk → Bool
  | .cells rw _ _ => rw
  | .map _ _ => true
  | _ => false
theorem outOk_live {o : Blk} (h : outOk o = true) : o.live := by cases o <;> first | trivial | cases h
def Ent.heap (e : Ent) : Hp := heapOf e.next e.blks
def Ent.ids (e : Ent) : List Nat := e.blks.map (·.1)
def from' : Nat → List Blk → List Nat
  | _, [] => []
  | n, _ :: l => n :: from' (Nat.succ n) l
def Ent.news (e : Ent) : List Nat := from' e.next e.outs
def Ent.all (e : Ent) : List Nat := e.ids ++ e.news
theorem from_mem {l : List Blk} : ∀ {n b : Nat}, b ∈ from' n l ↔ n ≤ b ∧ b < n + l.length := by
  induction l with
  | nil => intro n b; simp only [from', List.not_mem_nil, List.length_nil, false_iff]; omega
  | cons o l ih => intro n b; simp only [from', List.mem_cons, ih, List.length_cons]; omega
def Ent.okS (G : Nat) (e : Ent) : Bool :=
  Nat.blt e.next (nat_lit 4611686018427387904) && e.ids.all (fun b => Nat.blt b e.next) && e.blks.all (fun p => scB e.ids p.2) && e.args.all (scV e.ids 6) && (List.range G).all (fun g => mem g e.ids) && scV e.all 6 e.v && e.outs.all (fun o => outOk o && scB e.all o)
theorem Ent.okS_spec {G : Nat} {e : Ent} (h : e.okS G = true) : e.next < 2 ^ 62 ∧ (∀ x ∈ e.blks, x.1 < e.next) ∧ (∀ x ∈ e.blks, BlkSc (· ∈ e.ids) x.2) ∧ (∀ v ∈ e.args, Sc (· ∈ e.ids) v) ∧ (∀ g, g < G → g ∈ e.ids) ∧ Sc (· ∈ e.all) e.v ∧
    ∀ o ∈ e.outs, outOk o = true ∧ BlkSc (· ∈ e.all) o := by
  simp only [Ent.okS, Bool.and_eq_true, List.all_eq_true, Nat.blt_eq] at h
  obtain ⟨⟨⟨⟨⟨⟨h1, h2⟩, h3⟩, h4⟩, h5⟩, h6⟩, h7⟩ := h
  exact ⟨h1, fun x hx => h2 x.1 (List.mem_map_of_mem hx), fun x hx => scB_ok (h3 x hx), fun v hv => scV_ok _ 6 v (h4 v hv), fun g hg => mem_ok (h5 g (List.mem_range.2 hg)), scV_ok _ 6 _ h6, fun o ho => ⟨(h7 o ho).1, scB_ok (h7 o ho).2⟩⟩
theorem Ent.get {G : Nat} {e : Ent} (h : e.okS G = true) (b : Nat) : e.heap.t.get b = (al e.blks b).map fun x => (0, x) := treeOf_get (Ent.okS_spec h).1 (Ent.okS_spec h).2.1 b
theorem Ent.born {G : Nat} {e : Ent} (h : e.okS G = true) {b : Nat} (hb : b ∈ e.ids) : e.heap.born b := by
  obtain ⟨x, hx⟩ := al_of_mem hb
  unfold Hp.born
  rw [e.get h, hx]; simp
theorem Ent.of_get {G : Nat} {e : Ent} (h : e.okS G = true) {b v : Nat} {x : Blk} (hb : e.heap.t.get b = some (v, x)) : v = 0 ∧ (b, x) ∈ e.blks := by
  rw [e.get h] at hb
  simp only [Option.map_eq_some_iff] at hb
  obtain ⟨y, h1, h2⟩ := hb
  cases h2
  exact ⟨rfl, al_mem h1⟩
theorem Ent.of_born {G : Nat} {e : Ent} (h : e.okS G = true) {b : Nat} (hb : e.heap.born b) : b ∈ e.ids := by
  obtain ⟨⟨v, x⟩, hx⟩ := Option.ne_none_iff_exists'.1 hb
  exact List.mem_map_of_mem (f := (·.1)) (Ent.of_get h hx).2
theorem Ent.lt {G : Nat} {e : Ent} (h : e.okS G = true) {b : Nat} (hb : b ∈ e.ids) : b < e.next := by
  obtain ⟨x, hx, rfl⟩ := List.mem_map.1 hb
  exact (Ent.okS_spec h).2.1 x hx

structure After (e : Ent) (j j2 : Nat → RB) (w w' : World) : Prop where
  os : w'.os = w.os
  tape : w'.tape = w.tape
  output : w'.output = w.output
  size : w.heap.size ≤ w'.heap.size
  old : ∀ b ∈ e.ids, j2 b = j b
  heap : ∀ r, r < w.heap.size → w'.heap[r]? = w.heap[r]?
  new : ∀ (i : Nat) (o : Blk), e.outs[i]? = some o → w.heap.size ≤ (j2 (e.next + i)).blk ∧ (j2 (e.next + i)).blk < w'.heap.size ∧ BlkAt j2 (j2 (e.next + i)) w' o
  inj : ∀ i i', i < e.outs.length → i' < e.outs.length → i ≠ i' → (j2 (e.next + i)).blk ≠ (j2 (e.next + i')).blk
def Ent.holds (E : Env) (e : Ent) : Prop := e.okS E.G = true ∧
  ((∃ j w, Inv E.G j e.heap w) → (∃ fn, E.P.funcs[e.f]? = some fn ∧ fn.body.isNone = false ∧ (fn.name == "runtime.NumGoroutine") = false) ∧
    ∀ (j : Nat → RB) (w : World), Inv E.G j e.heap w → CallsIn (Fw none) 0 E.P e.f ⟨e.args.map (conc j)⟩ w fun e' w' => ∃ j2, e' = .returned (conc j2 e.v) ∧ After e j j2 w w')

/-! ### Which blocks answer to which -/
def pairsB (x y : Option Blk) : List (Value × Value) := match x, y with
  | some (.cells _ _ cs), some (.cells _ _ cs') => cs.zip cs'
  | some (.map es _), some (.map es' _) => (es.map (·.val)).zip (es'.map (·.val)) ++ (es.map (·.key)).zip (es'.map (·.key))
  | _, _ => []
def knows (s : Nat) : List (Nat × Nat) → Bool
  | [] => false
  | (a, _) :: r => match Nat.beq a s with
    | true => true
    | false => knows s r
/-- Nothing hangs on it but whether a call is found. -/
def disc (hs H : Hp) : Nat → List (Value × Value) → List (Nat × Nat) → List (Nat × Nat)
  | 0, _, ρ => ρ
  | n + 1, l, ρ => match l with
    | [] => ρ
    | (v, v') :: t => match v, v' with
      | .pointer (some a), .pointer (some a') => (match knows a.block ρ with
        | true => disc hs H n t ρ
        | false => disc hs H n (pairsB (hs.get a.block) (H.get a'.block) ++ t) ((a.block, a'.block) :: ρ))
      | .slice (some a) _ _, .slice (some a') _ _ => (match knows a.block ρ with
        | true => disc hs H n t ρ
        | false => disc hs H n (pairsB (hs.get a.block) (H.get a'.block) ++ t) ((a.block, a'.block) :: ρ))
      | .map (some a), .map (some a') => (match knows a ρ with
        | true => disc hs H n t ρ
        | false => disc hs H n (pairsB (hs.get a) (H.get a') ++ t) ((a, a') :: ρ))
      | .chan (some a), .chan (some a') => (match knows a ρ with
        | true => disc hs H n t ρ
        | false => disc hs H n t ((a, a') :: ρ))
      | .agg x, .agg y => disc hs H n (x.toList.zip y.toList ++ t) ρ
      | .tuple x, .tuple y => disc hs H n (x.toList.zip y.toList ++ t) ρ
      | .func _ x z, .func _ y z' => disc hs H n (x.toList.zip y.toList ++ z.toList.zip z'.toList ++ t) ρ
      | _, _ => disc hs H n t ρ

theorem lt_of_some' {α : Type} {l : List α} {i : Nat} {o : α} (h : l[i]? = some o) : i < l.length := by
  rcases Nat.lt_or_ge i l.length with h' | h'
  · exact h'
  · rw [List.getElem?_eq_none h'] at h; cases h
/-! ### A known call out of a run -/
def nodupB : List Nat → Bool
  | [] => true
  | n :: l => !mem n l && nodupB l
theorem mem_of {n : Nat} {l : List Nat} (h : n ∈ l) : mem n l = true := by
  induction l with
  | nil => cases h
  | cons m l ih =>
    simp only [mem]
    split
    · rfl
    · rename_i hb
      rcases List.mem_cons.1 h with rfl | h
      · simp at hb
      · exact ih h
theorem nodup_inj {f : Nat → Nat} {l : List Nat} (h : nodupB (l.map f) = true) : ∀ x ∈ l, ∀ y ∈ l, f x = f y → x = y := by
  induction l with
  | nil => intro x hx; cases hx
  | cons z l ih =>
    simp only [List.map_cons, nodupB, Bool.and_eq_true, Bool.not_eq_true'] at h
    have hz : ∀ y ∈ l, f z ≠ f y := fun y hy e => by
      have := mem_of (n := f z) (l := l.map f) (e ▸ List.mem_map_of_mem hy)
      rw [h.1] at this; cases this
    intro x hx y hy e
    rcases List.mem_cons.1 hx with hx1 | hx1
    · subst hx1
      rcases List.mem_cons.1 hy with hy1 | hy1
      · exact hy1.symm
      · exact absurd e (hz y hy1)
    · rcases List.mem_cons.1 hy with hy1 | hy1
      · subst hy1; exact absurd e.symm (hz x hx1)
      · exact ih h.2 x hx1 y hy1 e
def Ent.heapO (e : Ent) : Hp := heapOf (Nat.add e.next e.outs.length) (e.blks ++ (e.news.zip e.outs))
def outsOk (ρ : List (Nat × Nat)) (h : Hp) : Nat → List Blk → Bool
  | _, [] => true
  | n, o :: l => (match h.get (rl ρ n) with | some y => mB ρ o y | none => false) && outsOk ρ h (Nat.succ n) l
theorem outsOk_get {ρ : List (Nat × Nat)} {h : Hp} : ∀ {l : List Blk} {n : Nat}, outsOk ρ h n l = true → ∀ (i : Nat) (o : Blk), l[i]? = some o → ∃ y, h.get (rl ρ (n + i)) = some y ∧ mB ρ o y = true := by
  intro l
  induction l with
  | nil => intro n _ i o ho; simp at ho
  | cons p l ih =>
    intro n hk i o ho
    simp only [outsOk, Bool.and_eq_true] at hk
    cases i with
    | zero =>
      simp at ho; subst ho
      have := hk.1
      split at this
      · rename_i y hy; exact ⟨y, hy, this⟩
      · cases this
    | succ i =>
      have := ih hk.2 i o (by simpa using ho)
      rwa [show Nat.succ n + i = n + (i + 1) by omega] at this
def stays (h : Hp) (b : Nat) : Bool := match h.ver b with
  | some n => Nat.beq n (nat_lit 0)
  | none => false
def endOk (e : Ent) (ρ : List (Nat × Nat)) (v : Value) (h : Hp) : Bool :=
  mV ρ 6 e.v v && e.ids.all (fun b => Nat.beq (rl ρ b) b && stays h b) && outsOk ρ h e.next e.outs && nodupB (e.news.map (rl ρ)) && e.news.all (fun n => !mem (rl ρ n) e.ids)
def keptK (e : Ent) : Kont := fun r h => match r with
  | .val v => (match endOk e (disc e.heapO h (nat_lit 100000) [(e.v, v)] (e.ids.map fun b => (b, b))) v h with
    | true => some (.bool true)
    | false => none)
  | _ => none
theorem ent_of_run {self : Self} (hs : Snd E self) (e : Ent) (hok : e.okS E.G = true) (hrun : self (.call e.f e.args) e.heap (keptK e) = some (.bool true)) : e.holds E := by
  refine ⟨hok, fun ⟨j, w, I⟩ => ?_⟩
  obtain ⟨h1, h2, h3, h4, h5, h6, h7⟩ := Ent.okS_spec hok
  have hsc : ∀ v ∈ e.args, Sc e.heap.born v := fun v hv => (h4 v hv).mono fun b hb => Ent.born hok hb
  obtain ⟨res, h', hk, v, rfl, ev, fs, sp⟩ := hs _ _ _ _ hrun ⟨j, w, I, hsc⟩
  simp only [keptK] at hk
  generalize disc e.heapO h' (nat_lit 100000) [(e.v, v)] (e.ids.map fun b => (b, b)) = ρ at hk
  split at hk
  · rename_i hend
    simp only [endOk, Bool.and_eq_true, List.all_eq_true, Nat.beq_eq, Bool.not_eq_true'] at hend
    obtain ⟨⟨⟨⟨k1, k2⟩, k3⟩, k4⟩, k5⟩ := hend
    have kept : ∀ b x, e.heap.t.get b = some x → h'.t.get b = some x := fun b x hb => by
      obtain ⟨u, y⟩ := x
      obtain ⟨rfl, hm⟩ := Ent.of_get hok hb
      have hbi := (k2 b (List.mem_map_of_mem (f := (·.1)) hm)).2
      rcases ev.evo b with e1 | ⟨v', x', e1, hlt⟩
      · rw [e1, hb]
      · exfalso
        unfold stays Hp.ver at hbi
        rw [e1] at hbi
        simp only [Option.map_some, Nat.beq_eq] at hbi
        omega
    refine ⟨sp.1, fun j w I => (sp.2 j w I hsc).mono fun e' w' ⟨j', he', R, hv⟩ => ⟨fun b => j' (rl ρ b), by rw [he', mV_ok ρ 6 _ _ k1 j'], ?_⟩⟩
    have newAt : ∀ i, i < e.outs.length → e.next + i ∈ e.news := fun i hi => from_mem.2 ⟨by omega, by omega⟩
    have livO : ∀ (i : Nat) (o : Blk), e.outs[i]? = some o → o.live := fun i o ho => outOk_live (h7 o (List.mem_of_getElem? ho)).1
    have find : ∀ (i : Nat) (o : Blk), e.outs[i]? = some o → ∃ ver y, h'.t.get (rl ρ (e.next + i)) = some (ver, y) ∧ mB ρ o y = true := fun i o ho => by
      obtain ⟨y, hy, hm⟩ := outsOk_get k3 i o ho
      obtain ⟨ver, hver⟩ := get_of hy
      exact ⟨ver, y, hver, hm⟩
    refine ⟨R.fp.os, R.fp.tape, R.fp.output, R.fp.size, fun b hb => ?_, fun r hr => R.fp.frame r hr fun b v x hb _ _ => by rw [hb]; exact kept b _ hb, fun i o ho => ?_, fun i i' hi hi' hne => ?_⟩
    · show j' (rl ρ b) = j b
      rw [(k2 b hb).1]
      exact R.fp.ext b (Ent.born hok hb)
    · obtain ⟨ver, y, hy, hm⟩ := find i o ho
      obtain ⟨i1, i2, i3, i4, i5⟩ := R.inv.low _ _ _ hy
      refine ⟨?_, i3 (mB_live hm (livO i o ho)), mB_ok hm i4⟩
      have hlt : i < e.outs.length := lt_of_some' ho
      rcases R.fp.fresh (rl ρ (e.next + i)) (by unfold Hp.born; rw [hy]; simp) (fun hb => by
        have := k5 _ (newAt i hlt)
        rw [mem_of (Ent.of_born hok hb)] at this; cases this) with hs | ⟨o', v', x', ho', _, ht, _⟩
      · exact hs
      · exact absurd (by rw [ho']; exact kept _ _ ho') ht
    · obtain ⟨o, ho⟩ : ∃ o, e.outs[i]? = some o := ⟨e.outs[i], by simp [hi]⟩
      obtain ⟨o', ho'⟩ : ∃ o, e.outs[i']? = some o := ⟨e.outs[i'], by simp [hi']⟩
      obtain ⟨ver, y, hy, hm⟩ := find i o ho
      obtain ⟨ver', y', hy', hm'⟩ := find i' o' ho'
      refine R.inv.inj _ _ _ _ _ _ hy hy' (mB_live hm (livO i o ho)) (mB_live hm' (livO i' o' ho')) fun eq => hne ?_
      have := nodup_inj k4 _ (newAt i hi) _ (newAt i' hi') eq
      omega
  · cases hk
end
end Go.Ai
namespace Go.Ai
noncomputable section
open Classical
variable {E : Env}

/-! ### Blocks that are laid one behind the other -/
def layAll : Hp → List Blk → Hp
  | h, [] => h
  | h, B :: l => layAll ⟨h.next + 1, (h.put h.next B).clk, (h.put h.next B).t⟩ l
def layK : List Blk → Hp → (Hp → Option Ans) → Option Ans
  | [], h, k => k h
  | B :: l, h, k => forceB B fun B => h.newK B fun _ h => layK l h k
theorem layK_some : ∀ {l : List Blk} {h : Hp} {k : Hp → Option Ans} {r : Ans}, h.next < 2 ^ 62 → layK l h k = some r → h.next + l.length < 2 ^ 62 ∧ k (layAll h l) = some r := by
  intro l
  induction l with
  | nil => intro h k r ht hk; exact ⟨by simpa using ht, hk⟩
  | cons B l ih =>
    intro h k r ht hk
    simp only [layK, forceB_eq] at hk
    obtain ⟨h1, hk⟩ := newK_some hk
    obtain ⟨h2, h3⟩ := ih (h := ⟨h.next + 1, (h.put h.next B).clk, (h.put h.next B).t⟩) h1 hk
    have h2 : h.next + 1 + l.length < 2 ^ 62 := h2
    exact ⟨by simp only [List.length_cons]; omega, h3⟩
theorem layAll_get : ∀ {l : List Blk} {h : Hp}, h.next + l.length < 2 ^ 62 → (layAll h l).next = h.next + l.length ∧ (layAll h l).clk = h.clk + l.length ∧
    ∀ b, (layAll h l).t.get b = if h.next ≤ b ∧ b < h.next + l.length then (l[b - h.next]?).map (fun x => (h.clk + 1 + (b - h.next), x)) else h.t.get b := by
  intro l
  induction l with
  | nil => intro h _; exact ⟨rfl, rfl, fun b => by rw [if_neg (by simp)]; rfl⟩
  | cons B l ih =>
    intro h ht
    simp only [List.length_cons] at ht
    have ht1 : h.next + 1 < 2 ^ 62 := by omega
    obtain ⟨h1, h2, h3⟩ := ih (h := ⟨h.next + 1, (h.put h.next B).clk, (h.put h.next B).t⟩) (by show h.next + 1 + l.length < _; omega)
    refine ⟨?_, ?_, fun b => ?_⟩
    · simp only [layAll, h1, List.length_cons]; omega
    · have h2 : (layAll ⟨h.next + 1, (h.put h.next B).clk, (h.put h.next B).t⟩ l).clk = h.clk + 1 + l.length := h2
      simp only [layAll, List.length_cons]; omega
    · simp only [layAll, h3, List.length_cons]
      rw [new_get ht1]
      by_cases hb : b = h.next
      · subst hb
        rw [if_neg (by omega), if_pos rfl, if_pos (by omega)]
        simp
      · by_cases hb2 : h.next + 1 ≤ b ∧ b < h.next + 1 + l.length
        · rw [if_pos hb2, if_pos (by omega), show b - h.next = b - (h.next + 1) + 1 by omega]
          simp only [List.getElem?_cons_succ, Hp.put]
          congr 1
          funext x
          congr 1
          omega
        · rw [if_neg hb2, if_neg hb, if_neg (by omega)]

/-! ### A known call, used -/
def entOk (G : Nat) (ρ : List (Nat × Nat)) (e : Ent) (args : List Value) (H : Hp) : Bool :=
  all2 (mV ρ 6) e.args args && e.blks.all (fun p => match H.get (rl ρ p.1) with | some y => mB ρ p.2 y | none => false) && (List.range G).all (fun g => Nat.beq (rl ρ g) g) && nodupB (e.ids.map (rl ρ))
def npairs : Nat → Nat → List Blk → List (Nat × Nat)
  | _, _, [] => []
  | n, m, _ :: l => (n, m) :: npairs (Nat.succ n) (Nat.succ m) l
theorem rl_new {ρ : List (Nat × Nat)} : ∀ {l : List Blk} {n m i : Nat}, i < l.length → rl (npairs n m l ++ ρ) (n + i) = m + i := by
  intro l
  induction l with
  | nil => intro n m i h; simp at h
  | cons o l ih =>
    intro n m i h
    simp only [npairs, List.cons_append, rl]
    cases i with
    | zero => simp
    | succ i =>
      have : Nat.beq n (n + (i + 1)) = false := by
        cases hb : Nat.beq n (n + (i + 1)) with
        | false => rfl
        | true => have := Nat.eq_of_beq_eq_true hb; omega
      rw [this]
      simp only
      have := ih (n := Nat.succ n) (m := Nat.succ m) (i := i) (by simpa using h)
      rw [show Nat.succ n + i = n + (i + 1) by omega] at this
      rw [this]; omega
theorem rl_old {ρ : List (Nat × Nat)} : ∀ {l : List Blk} {n m b : Nat}, b < n → rl (npairs n m l ++ ρ) b = rl ρ b := by
  intro l
  induction l with
  | nil => intro n m b _; rfl
  | cons o l ih =>
    intro n m b h
    simp only [npairs, List.cons_append, rl]
    have : Nat.beq n b = false := by
      cases hb : Nat.beq n b with
      | false => rfl
      | true => have := Nat.eq_of_beq_eq_true hb; omega
    rw [this]
    exact ih (by omega)
/-- The block, its blocks renamed. -/
def rnB (ρ : List (Nat × Nat)) (x : Blk) : Blk := match x with
  | .cells rw g cs => .cells rw g (cs.map (rnV ρ 6))
  | .map es c => .map (es.map fun e => ⟨rnV ρ 6 e.key, rnV ρ 6 e.val, e.born⟩) c
  | x => x
def outsR (ρ : List (Nat × Nat)) (e : Ent) : List Blk := e.outs.map (rnB ρ)
def resOk (ρ : List (Nat × Nat)) (e : Ent) : Bool := mV ρ 6 e.v (rnV ρ 6 e.v) && e.outs.all (fun o => mB ρ o (rnB ρ o))
theorem Sc.rel {ρ : List (Nat × Nat)} {v v' : Value} (r : RelV ρ v v') {D : List Nat} (h : Sc (· ∈ D) v) {B : Nat → Prop} (hB : ∀ b ∈ D, B (rl ρ b)) : Sc B v' := fun j j' e => by
  rw [← r j, ← r j']
  exact h _ _ fun b hb => e _ (hB b hb)

theorem ent_use {e : Ent} (he : e.holds E) {ρ : List (Nat × Nat)} {args : List Value} {H : Hp} (hm : entOk E.G ρ e args H = true) (hr : resOk (npairs e.next H.next e.outs ++ ρ) e = true) (hn : H.next + e.outs.length < 2 ^ 62) (g : Good E (.call e.f args) H) :
    Does E (.call e.f args) H (.val (rnV (npairs e.next H.next e.outs ++ ρ) 6 e.v)) (layAll H (outsR (npairs e.next H.next e.outs ++ ρ) e)) := by
  obtain ⟨hok, hsp⟩ := he
  obtain ⟨h1, h2, h3, h4, h5, h6, h7⟩ := Ent.okS_spec hok
  simp only [entOk, Bool.and_eq_true, List.all_eq_true, Nat.beq_eq] at hm
  obtain ⟨⟨⟨m1, m2⟩, m3⟩, m4⟩ := hm
  simp only [resOk, Bool.and_eq_true, List.all_eq_true] at hr
  obtain ⟨r1, r2⟩ := hr
  have look : ∀ b x, (b, x) ∈ e.blks → ∃ v y, H.t.get (rl ρ b) = some (v, y) ∧ mB ρ x y = true := fun b x hx => by
    have := m2 (b, x) hx
    simp only at this
    split at this
    · rename_i y hy
      obtain ⟨v, hv⟩ := get_of hy
      exact ⟨v, y, hv, this⟩
    · cases this
  have small : ∀ (j : Nat → RB) (w : World), Inv E.G j H w → Inv E.G (fun b => j (rl ρ b)) e.heap w := fun j w I => by
    refine ⟨h1, fun g hg => ⟨Ent.born hok (h5 g hg), ?_⟩, fun b v x hx => ?_, fun b b' v v' x x' hx hx' hl hl' hne => ?_⟩
    · have := m3 g (List.mem_range.2 hg)
      simp only [this]
      exact (I.glob g hg).2
    · obtain ⟨rfl, hmem⟩ := Ent.of_get hok hx
      obtain ⟨v, y, hy, hmb⟩ := look b x hmem
      obtain ⟨i1, i2, i3, i4, i5⟩ := I.low _ _ _ hy
      exact ⟨h2 _ hmem, Nat.zero_le _, fun l => i3 (mB_live hmb l), mB_ok hmb i4, (h3 _ hmem).mono fun b hb => Ent.born hok hb⟩
    · obtain ⟨_, hmem⟩ := Ent.of_get hok hx
      obtain ⟨_, hmem'⟩ := Ent.of_get hok hx'
      obtain ⟨v1, y, hy, hmb⟩ := look b x hmem
      obtain ⟨v1', y', hy', hmb'⟩ := look b' x' hmem'
      exact I.inj _ _ _ _ _ _ hy hy' (mB_live hmb hl) (mB_live hmb' hl') fun e' => hne (nodup_inj m4 b (List.mem_map_of_mem (f := (·.1)) hmem) b' (List.mem_map_of_mem (f := (·.1)) hmem') e')
  obtain ⟨j0, w0, I0, hsc0⟩ := g
  obtain ⟨hfn, hcall⟩ := hsp ⟨_, w0, small j0 w0 I0⟩
  have hargs : ∀ j : Nat → RB, e.args.map (conc fun b => j (rl ρ b)) = args.map (conc j) := fun j => all2_map (fun x y hxy => mV_ok ρ 6 x y hxy j) m1
  generalize hρ : npairs e.next H.next e.outs ++ ρ = ρ2 at r1 r2
  have new2 : ∀ i, i < e.outs.length → rl ρ2 (e.next + i) = H.next + i := fun i hi => by rw [← hρ]; exact rl_new hi
  have old2 : ∀ b, b < e.next → rl ρ2 b = rl ρ b := fun b hb => by rw [← hρ]; exact rl_old hb
  have hlen : (outsR ρ2 e).length = e.outs.length := by simp [outsR]
  obtain ⟨l1, l2, l3⟩ := layAll_get (l := outsR ρ2 e) (h := H) (by rw [hlen]; exact hn)
  rw [hlen] at l1 l2
  simp only [hlen] at l3
  generalize layAll H (outsR ρ2 e) = H' at l1 l2 l3
  have lowH : ∀ b, H.born b → b < H.next := fun b hb => by
    obtain ⟨⟨v, y⟩, hv⟩ := Option.ne_none_iff_exists'.1 hb
    exact (I0.low _ _ _ hv).1
  have oldG : ∀ b, b < H.next → H'.t.get b = H.t.get b := fun b hb => by rw [l3, if_neg (by omega)]
  have newG : ∀ (i : Nat) (o : Blk), e.outs[i]? = some o → H'.t.get (H.next + i) = some (H.clk + 1 + i, rnB ρ2 o) := fun i o ho => by
    have hi := lt_of_some' ho
    rw [l3, if_pos (by omega), show H.next + i - H.next = i by omega]
    simp [outsR, ho]
  have upB : ∀ b, H.born b → H'.born b := fun b hb => by unfold Hp.born; rw [oldG b (lowH b hb)]; exact hb
  have newB : ∀ i, i < e.outs.length → H'.born (H.next + i) := fun i hi => by
    obtain ⟨o, ho⟩ : ∃ o, e.outs[i]? = some o := ⟨e.outs[i], by simp [hi]⟩
    unfold Hp.born; rw [newG i o ho]; simp
  have cases' : ∀ b v x, H'.t.get b = some (v, x) → (b < H.next ∧ H.t.get b = some (v, x)) ∨ ∃ i o, b = H.next + i ∧ e.outs[i]? = some o ∧ v = H.clk + 1 + i ∧ x = rnB ρ2 o := fun b v x hb => by
    rcases Nat.lt_or_ge b H.next with h | h
    · exact .inl ⟨h, by rwa [oldG b h] at hb⟩
    · by_cases h' : b < H.next + e.outs.length
      · obtain ⟨o, ho⟩ : ∃ o, e.outs[b - H.next]? = some o := ⟨e.outs[b - H.next], by simp [show b - H.next < e.outs.length by omega]⟩
        have := newG (b - H.next) o ho
        rw [show H.next + (b - H.next) = b by omega, hb] at this
        cases this
        exact .inr ⟨b - H.next, o, by omega, ho, rfl, rfl⟩
      · rw [l3, if_neg (by omega)] at hb
        have := lowH b (by simp [Hp.born, hb])
        omega
  have inAll : ∀ b ∈ e.all, (b ∈ e.ids) ∨ ∃ i, i < e.outs.length ∧ b = e.next + i := fun b hb => by
    rcases List.mem_append.1 hb with h | h
    · exact .inl h
    · obtain ⟨a1, a2⟩ := from_mem.1 h
      exact .inr ⟨b - e.next, by omega, by omega⟩
  have idB : ∀ b ∈ e.ids, H.born (rl ρ b) := fun b hb => by
    obtain ⟨x, hx, rfl⟩ := List.mem_map.1 hb
    obtain ⟨v, y, hy, _⟩ := look x.1 x.2 hx
    simp [Hp.born, hy]
  have bornR : ∀ b ∈ e.all, H'.born (rl ρ2 b) := fun b hb => by
    rcases inAll b hb with h | ⟨i, hi, rfl⟩
    · rw [old2 b (Ent.lt hok h)]; exact upB _ (idB b h)
    · rw [new2 i hi]; exact newB i hi
  have evo : Evo H H' := by
    refine ⟨by omega, by omega, fun b => ?_, fun b v x hb hl v' x' hb' => ?_⟩
    · rcases Nat.lt_or_ge b H.next with h | h
      · exact .inl (oldG b h)
      · cases hg : H'.t.get b with
        | none =>
          refine .inl ?_
          cases hg' : H.t.get b with
          | none => rfl
          | some y => have := lowH b (by simp [Hp.born, hg']); omega
        | some y =>
          obtain ⟨v, x⟩ := y
          rcases cases' b v x hg with ⟨h', _⟩ | ⟨i, o, rfl, ho, rfl, rfl⟩
          · omega
          · exact .inr ⟨_, _, rfl, by omega⟩
    · have := lowH b (by simp [Hp.born, hb'])
      rw [oldG b this, hb'] at hb
      cases hb; exact hl
  refine ⟨_, rfl, evo, fun b hb hn => by unfold Hp.born; rw [oldG b hb]; exact hn, hfn, fun j w I hsc => ?_⟩
  have hc := hcall _ w (small j w I)
  rw [hargs j] at hc
  refine hc.mono fun e' w' ⟨j2, he', A⟩ => ?_
  let jH : Nat → RB := fun b => if b < H.next then j b else j2 (e.next + (b - H.next))
  have jOld : ∀ b, b < H.next → jH b = j b := fun b hb => if_pos hb
  have jNew : ∀ i, jH (H.next + i) = j2 (e.next + i) := fun i => by
    show (if H.next + i < H.next then j (H.next + i) else j2 (e.next + (H.next + i - H.next))) = _
    rw [if_neg (by omega), show H.next + i - H.next = i by omega]
  have agree : ∀ b ∈ e.all, (fun b => jH (rl ρ2 b)) b = j2 b := fun b hb => by
    rcases inAll b hb with h | ⟨i, hi, rfl⟩
    · show jH (rl ρ2 b) = j2 b
      rw [old2 b (Ent.lt hok h), jOld _ (lowH _ (idB b h)), A.old b h]
    · show jH (rl ρ2 (e.next + i)) = _
      rw [new2 i hi, jNew i]
  have rel : ∀ v v', mV ρ2 6 v v' = true → Sc (· ∈ e.all) v → conc j2 v = conc jH v' := fun v v' hv hs => by
    rw [← mV_ok ρ2 6 v v' hv jH]
    exact (hs _ _ agree).symm
  have hvH : Sc H'.born (rnV ρ2 6 e.v) := Sc.rel (mV_ok ρ2 6 _ _ r1) h6 bornR
  refine ⟨jH, by rw [he', rel _ _ r1 h6], ⟨⟨by omega, fun g hg => ?_, fun b v x hb => ?_, fun b b' v v' x x' hb hb' hl hl' hne => ?_⟩, evo, ⟨A.os, A.tape, A.output, A.size, fun b hb => jOld b (lowH b hb), fun r hr _ => A.heap r hr, fun b hb hn => ?_⟩⟩, hvH⟩
  · obtain ⟨g1, g2⟩ := I.glob g hg
    exact ⟨upB g g1, by rw [jOld g (lowH g g1)]; exact g2⟩
  · rcases cases' b v x hb with ⟨h, hb⟩ | ⟨i, o, rfl, ho, rfl, rfl⟩
    · obtain ⟨i1, i2, i3, i4, i5⟩ := I.low _ _ _ hb
      rw [jOld b h]
      exact ⟨by omega, by omega, fun l => Nat.lt_of_lt_of_le (i3 l) A.size, i4.move i5 (fun c hc => jOld c (lowH c hc)) fun l => A.heap _ (i3 l), i5.mono upB⟩
    · have hi := lt_of_some' ho
      obtain ⟨a1, a2, a3⟩ := A.new i o ho
      have hom := List.mem_of_getElem? ho
      have hmb := r2 o hom
      obtain ⟨hoo, hos⟩ := h7 o hom
      rw [jNew i]
      cases o with
      | cells rw_ g cs =>
        simp only [outOk] at hoo
        subst hoo
        simp only [mB, rnB, Bool.and_eq_true] at hmb
        have hmc := hmb.2
        have hcell : ∀ (n : Nat) (u' : Value), (cs.map (rnV ρ2 6))[n]? = some u' → ∃ u, cs[n]? = some u ∧ conc j2 u = conc jH u' := fun n u' hu' => by
          obtain ⟨hl, hg⟩ := all2_get hmc
          have hn : n < cs.length := by have := lt_of_some' hu'; simpa using this
          obtain ⟨y, hy, hmy⟩ := hg n cs[n] (by simp [hn])
          rw [hu'] at hy; cases hy
          exact ⟨cs[n], by simp [hn], rel _ _ hmy (hos _ (List.getElem_mem _))⟩
        refine ⟨by omega, by omega, fun _ => a2, ⟨fun n u' hu' => ?_, fun s hs => ?_⟩, fun u' hu' => ?_⟩
        · obtain ⟨u, hu, e1⟩ := hcell n u' hu'
          have := a3.1 n u hu
          rw [e1] at this
          exact this
        · have := a3.2 s hs
          simp only [List.length_map]
          exact this
        · obtain ⟨u, hu, rfl⟩ := List.mem_map.1 hu'
          have hmu : mV ρ2 6 u (rnV ρ2 6 u) = true := by
            obtain ⟨n, hn, rfl⟩ := List.getElem_of_mem hu
            obtain ⟨_, hg⟩ := all2_get hmc
            obtain ⟨y, hy, hmy⟩ := hg n cs[n] (by simp [hn])
            simp [hn] at hy
            rw [← hy] at hmy
            exact hmy
          exact Sc.rel (mV_ok ρ2 6 _ _ hmu) (hos u hu) bornR
      | map es c =>
        simp only [mB, rnB, Bool.and_eq_true] at hmb
        have hmc := hmb.2
        have hent : ∀ x ∈ es, mV ρ2 6 x.key (rnV ρ2 6 x.key) = true ∧ mV ρ2 6 x.val (rnV ρ2 6 x.val) = true := fun x hx => by
          obtain ⟨n, hn, rfl⟩ := List.getElem_of_mem hx
          obtain ⟨_, hg⟩ := all2_get hmc
          obtain ⟨y, hy, hmy⟩ := hg n es[n] (by simp [hn])
          simp [hn] at hy
          subst hy
          simp only [mE, Bool.and_eq_true] at hmy
          exact ⟨hmy.1.1, hmy.1.2⟩
        refine ⟨by omega, by omega, fun _ => a2, ?_, fun u' hu' => ?_⟩
        · show w'.heap[(j2 (e.next + i)).blk]? = _
          rw [show w'.heap[(j2 (e.next + i)).blk]? = some (.map ⟨es.map (concE j2)⟩ c) from a3, List.map_map]
          congr 3
          refine List.map_congr_left fun x hx => ?_
          obtain ⟨m1, m2⟩ := hent x hx
          simp only [Function.comp_apply, concE, rel _ _ m1 (hos x hx).1, rel _ _ m2 (hos x hx).2]
        · obtain ⟨x, hx, rfl⟩ := List.mem_map.1 hu'
          obtain ⟨m1, m2⟩ := hent x hx
          exact ⟨Sc.rel (mV_ok ρ2 6 _ _ m1) (hos x hx).1 bornR, Sc.rel (mV_ok ρ2 6 _ _ m2) (hos x hx).2 bornR⟩
      | loop _ _ _ _ _ _ _ _ => cases hoo
      | defd => cases hoo
      | dead => cases hoo
      | res => cases hoo
  · rcases cases' b v x hb with ⟨h, hb⟩ | ⟨i, o, rfl, ho, rfl, rfl⟩ <;> rcases cases' b' v' x' hb' with ⟨h', hb'⟩ | ⟨i', o', rfl, ho', rfl, rfl⟩
    · rw [jOld b h, jOld b' h']
      exact I.inj _ _ _ _ _ _ hb hb' hl hl' hne
    · rw [jOld b h, jNew i']
      have := (I.low _ _ _ hb).2.2.1 hl
      have := (A.new i' o' ho').1
      omega
    · rw [jNew i, jOld b' h']
      have := (I.low _ _ _ hb').2.2.1 hl'
      have := (A.new i o ho).1
      omega
    · rw [jNew i, jNew i']
      exact A.inj i i' (lt_of_some' ho) (lt_of_some' ho') (by omega)
  · obtain ⟨⟨v, x⟩, hx⟩ := Option.ne_none_iff_exists'.1 hb
    rcases cases' b v x hx with ⟨h, hb⟩ | ⟨i, o, rfl, ho, rfl, rfl⟩
    · exact absurd (by simp [Hp.born, hb]) hn
    · rw [jNew i]
      exact .inl (A.new i o ho).1

/-! ### An evaluator that knows some calls -/
def quickV (v v' : Value) : Bool := match v, v' with
  | .int _ a, .int _ b => eqI a b
  | .slice none _ _, .slice none _ _ => true
  | .slice (some _) l _, .slice (some _) l' _ => Nat.beq l l'
  | .slice none _ _, .slice (some _) _ _ => false
  | .slice (some _) _ _, .slice none _ _ => false
  | .func (.func f) _ _, .func (.func g) _ _ => Nat.beq f g
  | _, _ => true
def quickA (v v' : Value) : Bool := match v, v' with
  | .agg a, .agg b => all2 quickV a.toList b.toList
  | v, v' => quickV v v'
def globs (G : Nat) : List (Nat × Nat) := (List.range G).map fun g => (g, g)
def tryR (G : Nat) (e : Ent) (args : List Value) (H : Hp) (ρ : List (Nat × Nat)) : Option (Ent × List (Nat × Nat)) :=
  match entOk G ρ e args H with
  | true => some (e, ρ)
  | false => none
def tryT (G : Nat) (T : List Ent) (f : FuncId) (args : List Value) (H : Hp) : Option (Ent × List (Nat × Nat)) := match T with
  | [] => none
  | e :: T => (match Nat.beq e.f f with
    | false => tryT G T f args H
    | true => (match all2 quickA e.args args with
      | false => tryT G T f args H
      | true => (match tryR G e args H (disc e.heap H (nat_lit 10000) (e.args.zip args) (globs G)) with
        | some r => some r
        | none => tryT G T f args H)))
theorem tryT_some {G : Nat} {f : FuncId} {args : List Value} {H : Hp} {e : Ent} {ρ : List (Nat × Nat)} : ∀ {T : List Ent}, tryT G T f args H = some (e, ρ) → e ∈ T ∧ e.f = f ∧ entOk G ρ e args H = true := by
  intro T
  induction T with
  | nil => intro h; cases h
  | cons e' T ih =>
    intro h
    have up : tryT G T f args H = some (e, ρ) → e ∈ e' :: T ∧ e.f = f ∧ entOk G ρ e args H = true := fun h => ⟨List.mem_cons_of_mem _ (ih h).1, (ih h).2⟩
    simp only [tryT] at h
    split at h
    · exact up h
    · rename_i hf
      split at h
      · exact up h
      · split at h
        · rename_i r hr
          cases h
          unfold tryR at hr
          split at hr
          · rename_i hm
            cases hr
            exact ⟨by simp, Nat.eq_of_beq_eq_true hf, hm⟩
          · cases hr
        · exact up h
def useR (e : Ent) (ρ : List (Nat × Nat)) (H : Hp) (k : Kont) : Option Ans :=
  match resOk ρ e with
  | true => layK (outsR ρ e) H fun h => fV (rnV ρ 6 e.v) fun v => k (.val v) h
  | false => none
def stepT (E : Env) (T : List Ent) (self : Self) (t : Task) (h : Hp) (k : Kont) : Option Ans :=
  match t with
  | .code c fr => doCode E self c fr h k
  | .ops all l st fr => doOps E self all l st fr h k
  | .call f args => (match tryT E.G T f args h with
    | some r => useR r.1 (npairs r.1.next h.next r.1.outs ++ r.2) h k
    | none => doEnter E self f args h k)
  | .round l args => doRound E self l args h k
def evT (E : Env) (T : List Ent) (n : Nat) : Self :=
  Nat.rec (motive := fun _ => Self) (fun _ _ _ => none) (fun _ ih => stepT E T ih) n
theorem evT_sound (hE : EnvOk E) {T : List Ent} (hT : ∀ e ∈ T, e.holds E) : ∀ n, Snd E (evT E T n) := by
  intro n
  induction n with
  | zero => intro t h k ans hk; cases hk
  | succ n ih =>
    intro t h k ans hk g
    cases t with
    | code c fr => exact snd_code hE ih hk g
    | ops all l st fr => exact snd_ops hE ih hk g
    | call f args =>
      change (match tryT E.G T f args h with
        | some r => useR r.1 (npairs r.1.next h.next r.1.outs ++ r.2) h k
        | none => doEnter E (evT E T n) f args h k) = some ans at hk
      split at hk
      · rename_i r hr
        obtain ⟨e, ρ⟩ := r
        obtain ⟨he, rfl, hm⟩ := tryT_some hr
        unfold useR at hk
        split at hk
        · rename_i hres
          obtain ⟨j, w, I, hsc⟩ := id g
          obtain ⟨hn, hk⟩ := layK_some I.top hk
          rw [fV_eq] at hk
          exact ⟨_, _, hk, ent_use (hT e he) hm hres (by simpa [outsR] using hn) g⟩
        · cases hk
      · exact snd_call hE ih hk g
    | round l args => exact snd_round ih hk g
theorem ent_run (hE : EnvOk E) {T : List Ent} (hT : ∀ e ∈ T, e.holds E) (n : Nat) (e : Ent) (hok : e.okS E.G = true) (hrun : evT E T n (.call e.f e.args) e.heap (keptK e) = some (.bool true)) : e.holds E :=
  ent_of_run (evT_sound hE hT n) e hok hrun
end
end Go.Ai
namespace Go.Ai
noncomputable section
variable {E : Env}

/-- A start: the package-level variables that are known, at their own places. -/
theorem start_inv {G : Nat} {blks : List (Nat × Blk)} {W : World} (hG : G < 2 ^ 62) (hlt : ∀ x ∈ blks, x.1 < G) (hall : ∀ g, g < G → g ∈ blks.map (·.1))
    (hx : ∀ b x, (b, x) ∈ blks → x = .dead ∨ ∃ cs, x = .cells false 0 cs ∧ (∀ v ∈ cs, addrFree v = true) ∧ (∀ (i : Nat) (v : Value), cs[i]? = some v → W.cell? ⟨b, i, none⟩ = some v) ∧ b < W.heap.size) :
    Inv G (fun b => ⟨b, 0, 0⟩) (heapOf G blks) W := by
  have hget : ∀ b, (heapOf G blks).t.get b = (al blks b).map fun x => (0, x) := treeOf_get hG hlt
  have of : ∀ b v x, (heapOf G blks).t.get b = some (v, x) → v = 0 ∧ (b, x) ∈ blks := fun b v x h => by
    rw [hget] at h
    simp only [Option.map_eq_some_iff] at h
    obtain ⟨y, h1, h2⟩ := h
    cases h2
    exact ⟨rfl, al_mem h1⟩
  refine ⟨hG, fun g hg => ⟨?_, rfl, rfl⟩, fun b v x h => ?_, fun b b' v v' x x' _ _ _ _ hne => hne⟩
  · obtain ⟨x, h⟩ := al_of_mem (hall g hg)
    unfold Hp.born
    rw [hget, h]; simp
  · obtain ⟨rfl, hm⟩ := of b v x h
    rcases hx b x hm with rfl | ⟨cs, rfl, h1, h2, h3⟩
    · exact ⟨hlt _ hm, Nat.zero_le _, fun l => l.elim, trivial, trivial⟩
    · refine ⟨hlt _ hm, Nat.zero_le _, fun _ => h3, ⟨fun i u hu => ⟨?_, fun e => by cases e⟩, fun s hs => by cases hs⟩, fun u hu => Sc.of_addrFree (h1 u hu)⟩
      rw [conc_addrFree _ (h1 u (List.mem_of_getElem? hu))]
      simpa using h2 i u hu
/-- What is behind a known call is kept. -/
theorem After.keptBut {e : Ent} {j j2 : Nat → RB} {w w' : World} (A : After e j j2 w w') (may : MemPlace → Prop) : w.keptBut w' may := by
  refine ⟨A.os, A.output, fun i hi => ?_⟩
  rw [A.heap i hi]
  cases w.heap[i]? with
  | none => rfl
  | some o => cases o <;> first | exact ⟨rfl, rfl, rfl, fun _ _ => rfl⟩ | exact .inr ⟨rfl, rfl⟩ | rfl
theorem lt_of_cell {W : World} {b : Nat} {i : Nat} {v : Value} (h : W.cell? ⟨b, i, none⟩ = some v) : b < W.heap.size := by
  unfold World.cell? at h
  rcases Nat.lt_or_ge b W.heap.size with h' | h'
  · exact h'
  · rw [Array.getElem?_eq_none h'] at h
    cases h
/-- A known call, from a start, as the machine makes it. -/
theorem calls_of_ent {e : Ent} (he : e.holds E) {G : Nat} (hG : G = E.G) {W : World} (I : Inv G (fun b => ⟨b, 0, 0⟩) e.heap W) (ha : e.args = []) : Calls E.P e.f #[] W fun e' w' => ∃ j2, e' = .returned (conc j2 e.v) ∧ After e (fun b => ⟨b, 0, 0⟩) j2 W w' := by
  subst hG
  have := (he.2 ⟨_, W, I⟩).2 _ W I
  rw [ha] at this
  exact callsIn_wide.1 this
end
end Go.Ai
namespace Go.Ai
noncomputable section
variable {E : Env}

theorem After.same {e : Ent} (ho : e.outs = []) (j : Nat → RB) (w : World) : After e j j w w :=
  ⟨rfl, rfl, rfl, Nat.le_refl _, fun _ _ => rfl, fun _ _ => rfl, fun i o h => by rw [ho] at h; simp at h, fun i _ h => by rw [ho] at h; simp at h⟩
end
end Go.Ai
namespace Go.Ai
noncomputable section
end
end Go.Ai
