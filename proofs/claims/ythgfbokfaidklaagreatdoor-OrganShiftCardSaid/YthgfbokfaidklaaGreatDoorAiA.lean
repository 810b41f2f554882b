/- An evaluator of a loaded program over an abstract heap, and lemmas on its trees. No conditions. -/
import GoSem.Claims
import GoSem.Machine.Start
import Derived.Calls
import Derived.KernelRfl
import Derived.IntWalk
import Derived.Laws.Sem
set_option linter.all false
namespace Go.Ai

noncomputable section

inductive Tr (α : Type) where
  | nil
  | node (v : Option α) (l r : Tr α)

namespace Tr
variable {α β : Type}
def get (t : Tr α) : Nat → Option α :=
  Tr.rec (motive := fun _ => Nat → Option α) (fun _ => none)
    (fun v _ _ gl gr n => Nat.rec (motive := fun _ => Option α) v (fun m _ =>
      Bool.rec (motive := fun _ => Option α) (gr (Nat.div m (nat_lit 2))) (gl (Nat.div m (nat_lit 2))) (Nat.beq (Nat.mod m (nat_lit 2)) (nat_lit 0))) n) t
/-- (kernel's form) -/
def setK (f : Nat) (t : Tr α) (n : Nat) (x : Option α) (k : Tr α → β) : β :=
  Nat.rec (motive := fun _ => Tr α → Nat → (Tr α → β) → β) (fun t _ k => k t)
    (fun _ ih t n k => Tr.rec (motive := fun _ => β)
      (Nat.rec (motive := fun _ => β) (k (.node x .nil .nil)) (fun m _ =>
        Bool.rec (motive := fun _ => β) (ih .nil (Nat.div m (nat_lit 2)) fun r => k (.node none .nil r))
          (ih .nil (Nat.div m (nat_lit 2)) fun l => k (.node none l .nil)) (Nat.beq (Nat.mod m (nat_lit 2)) (nat_lit 0))) n)
      (fun v l r _ _ => Nat.rec (motive := fun _ => β) (k (.node x l r)) (fun m _ =>
        Bool.rec (motive := fun _ => β) (ih r (Nat.div m (nat_lit 2)) fun r => k (.node v l r))
          (ih l (Nat.div m (nat_lit 2)) fun l => k (.node v l r)) (Nat.beq (Nat.mod m (nat_lit 2)) (nat_lit 0))) n) t) f t n k
theorem get_nil (n : Nat) : (Tr.nil : Tr α).get n = none := rfl
theorem get_node0 (v : Option α) (l r : Tr α) : (Tr.node v l r).get 0 = v := rfl
theorem get_nodeS (v : Option α) (l r : Tr α) (m : Nat) : (Tr.node v l r).get (m + 1) = if m % 2 = 0 then l.get (m / 2) else r.get (m / 2) := by
  show Bool.rec (motive := fun _ => Option α) (r.get (m / 2)) (l.get (m / 2)) (Nat.beq (m % 2) 0) = _
  by_cases h : m % 2 = 0
  · rw [if_pos h, h]; rfl
  · rw [if_neg h]; have : Nat.beq (m % 2) 0 = false := by cases hb : Nat.beq (m % 2) 0 with | false => rfl | true => exact absurd (Nat.eq_of_beq_eq_true hb) h
    rw [this]
def set : Nat → Tr α → Nat → Option α → Tr α
  | 0, t, _, _ => t
  | f + 1, .nil, n, x => match n with
    | 0 => .node x .nil .nil
    | m + 1 => if m % 2 = 0 then .node none (set f .nil (m / 2) x) .nil else .node none .nil (set f .nil (m / 2) x)
  | f + 1, .node v l r, n, x => match n with
    | 0 => .node x l r
    | m + 1 => if m % 2 = 0 then .node v (set f l (m / 2) x) r else .node v l (set f r (m / 2) x)
theorem parity {γ : Sort _} (m : Nat) (a b : γ) : Bool.rec (motive := fun _ => γ) b a (Nat.beq (m % 2) 0) = if m % 2 = 0 then a else b := by
  by_cases h : m % 2 = 0
  · rw [if_pos h, h]; rfl
  · rw [if_neg h]; have : Nat.beq (m % 2) 0 = false := by cases hb : Nat.beq (m % 2) 0 with | false => rfl | true => exact absurd (Nat.eq_of_beq_eq_true hb) h
    rw [this]
theorem setK_eq (f : Nat) (t : Tr α) (n : Nat) (x : Option α) (k : Tr α → β) : setK f t n x k = k (set f t n x) := by
  induction f generalizing t n k with
  | zero => rfl
  | succ f ih =>
    cases t with
    | nil =>
      cases n with
      | zero => rfl
      | succ m =>
        show Bool.rec (motive := fun _ => β) (setK f .nil (m / 2) x _) (setK f .nil (m / 2) x _) (Nat.beq (m % 2) 0) = _
        rw [parity, ih, ih]; simp only [set]; split <;> rfl
    | node v l r =>
      cases n with
      | zero => rfl
      | succ m =>
        show Bool.rec (motive := fun _ => β) (setK f r (m / 2) x _) (setK f l (m / 2) x _) (Nat.beq (m % 2) 0) = _
        rw [parity, ih, ih]; simp only [set]; split <;> rfl
/-- Keys that the fuel reaches: n + 1 < 2 ^ f. -/
theorem get_set (f : Nat) (t : Tr α) (n : Nat) (x : Option α) (i : Nat) (h : n + 1 < 2 ^ f) :
    (set f t n x).get i = if i = n then x else t.get i := by
  induction f generalizing t n i with
  | zero => simp at h
  | succ f ih =>
    cases n with
    | zero => cases t <;> cases i <;> simp [set, get_node0, get_nodeS, get_nil]
    | succ m =>
      have hm : m / 2 + 1 < 2 ^ f := by rw [Nat.pow_succ] at h; omega
      cases i with
      | zero => cases t <;> simp only [set] <;> split <;> simp [get_node0, get_nil]
      | succ i =>
        by_cases e : i = m
        · subst e
          cases t <;> simp only [set] <;> split <;> simp [get_nodeS, ih _ _ _ hm, *]
        · have e2 : ¬ (i + 1 = m + 1) := by omega
          rw [if_neg e2]
          cases t <;> simp only [set] <;> split <;> simp only [get_nodeS, get_nil] <;> split <;> simp only [ih _ _ _ hm, get_nil] <;> rw [if_neg (by omega)]
end Tr

/-- (kernel's form of l[n]?) -/
def nth {α : Type} (l : List α) : Nat → Option α :=
  List.rec (motive := fun _ => Nat → Option α) (fun _ => none) (fun x _ ih n => Nat.rec (motive := fun _ => Option α) (some x) (fun m _ => ih m) n) l
theorem nth_eq {α : Type} (l : List α) (n : Nat) : nth l n = l[n]? := by
  induction l generalizing n with
  | nil => rfl
  | cons x l ih => cases n with
    | zero => rfl
    | succ n => show nth l n = _; rw [ih]; rfl
/-- The n elements from off on. -/
def cut {α : Type} (l : List α) : Nat → Nat → Option (List α) :=
  List.rec (motive := fun _ => Nat → Nat → Option (List α)) (fun _ n => Nat.rec (motive := fun _ => Option (List α)) (some []) (fun _ _ => none) n)
    (fun x _ ih off n => Nat.rec (motive := fun _ => Option (List α))
      (Nat.rec (motive := fun _ => Option (List α)) (some []) (fun m _ => Option.rec (motive := fun _ => Option (List α)) none (fun r => some (x :: r)) (ih (nat_lit 0) m)) n)
      (fun o _ => ih o n) off) l
theorem cut_nil {α : Type} (off n : Nat) : cut ([] : List α) off n = if n = 0 then some [] else none := by cases n <;> rfl
theorem cut_zero {α : Type} (x : α) (l : List α) (n : Nat) : cut (x :: l) 0 (n + 1) = (cut l 0 n).map (x :: ·) := by
  show Option.rec (motive := fun _ => Option (List α)) none (fun r => some (x :: r)) (cut l 0 n) = _
  cases cut l 0 n <;> rfl
theorem cut_zero0 {α : Type} (x : α) (l : List α) : cut (x :: l) 0 0 = some [] := rfl
theorem cut_succ {α : Type} (x : α) (l : List α) (o n : Nat) : cut (x :: l) (o + 1) n = cut l o n := rfl
def ltI (a b : Int) : Bool := match a, b with
  | .ofNat a, .ofNat b => Nat.blt a b
  | .ofNat _, .negSucc _ => false
  | .negSucc _, .ofNat _ => true
  | .negSucc a, .negSucc b => Nat.blt b a
theorem ltI_eq (a b : Int) : ltI a b = decide (a < b) := by
  cases a <;> cases b <;> simp only [ltI] <;> rw [eq_comm, Bool.eq_iff_iff] <;> simp [Nat.blt_eq] <;> omega
def eqI (a b : Int) : Bool := match a, b with
  | .ofNat a, .ofNat b => Nat.beq a b
  | .ofNat _, .negSucc _ => false
  | .negSucc _, .ofNat _ => false
  | .negSucc a, .negSucc b => Nat.beq a b
theorem eqI_eq (a b : Int) : eqI a b = (a == b) := by
  cases a <;> cases b <;> simp only [eqI] <;> rw [Bool.eq_iff_iff] <;> simp [Nat.beq_eq] <;> omega
def eqK (a b : IntKind) : Bool := match a with
  | .i64 => (match b with | .i64 => true | _ => false)
  | _ => decide (a = b)
theorem eqK_eq (a b : IntKind) : eqK a b = decide (a = b) := by cases a <;> cases b <;> rfl
/-- wrap, quick where nothing is wrapped. -/
def wrapI (k : IntKind) (n : Int) : Int := match k with
  | .i64 => (match n with
    | .ofNat a => (match Nat.blt a (nat_lit 9223372036854775808) with | true => .ofNat a | false => IntKind.wrap .i64 n)
    | .negSucc a => (match Nat.blt a (nat_lit 9223372036854775808) with | true => .negSucc a | false => IntKind.wrap .i64 n))
  | k => k.wrap n
theorem wrapI_eq (k : IntKind) (n : Int) : wrapI k n = k.wrap n := by
  cases k <;> try rfl
  cases n with
  | ofNat a =>
    show (match Nat.blt a 9223372036854775808 with | true => Int.ofNat a | false => IntKind.wrap .i64 (.ofNat a)) = _
    cases h : Nat.blt a 9223372036854775808 with
    | false => rfl
    | true =>
      have h : a < 9223372036854775808 := by simpa [Nat.blt_eq] using h
      exact (IntWalk.i64_in (Int.ofNat a) ⟨by simp only [Int.ofNat_eq_natCast]; omega, by simp only [Int.ofNat_eq_natCast]; omega⟩).symm
  | negSucc a =>
    show (match Nat.blt a 9223372036854775808 with | true => Int.negSucc a | false => IntKind.wrap .i64 (.negSucc a)) = _
    cases h : Nat.blt a 9223372036854775808 with
    | false => rfl
    | true =>
      have h : a < 9223372036854775808 := by simpa [Nat.blt_eq] using h
      exact (IntWalk.i64_in (Int.negSucc a) ⟨by rw [Int.negSucc_eq]; omega, by rw [Int.negSucc_eq]; omega⟩).symm

/-! ### Forcing -/
section force
variable {β : Type}
def fN (n : Nat) (k : Nat → β) : β := match n with
  | 0 => k 0
  | m + 1 => k (Nat.succ m)
@[simp] theorem fN_eq (n : Nat) (k : Nat → β) : fN n k = k n := by cases n <;> rfl
def fI (n : Int) (k : Int → β) : β := match n with
  | .ofNat a => fN a fun a => k (.ofNat a)
  | .negSucc a => fN a fun a => k (.negSucc a)
@[simp] theorem fI_eq (n : Int) (k : Int → β) : fI n k = k n := by cases n <;> simp [fI]
def fB (b : Bool) (k : Bool → β) : β := match b with
  | true => k true
  | false => k false
@[simp] theorem fB_eq (b : Bool) (k : Bool → β) : fB b k = k b := by cases b <;> rfl
def fA (a : Addr) (k : Addr → β) : β := match a with
  | ⟨b, o, none⟩ => fN b fun b => fN o fun o => k ⟨b, o, none⟩
  | a => k a
@[simp] theorem fA_eq (a : Addr) (k : Addr → β) : fA a k = k a := by obtain ⟨b, o, s⟩ := a; cases s <;> simp [fA]
def fK (q : IntKind) (k : IntKind → β) : β := match q with
  | .i8 => k .i8 | .i16 => k .i16 | .i32 => k .i32 | .i64 => k .i64 | .u8 => k .u8 | .u16 => k .u16 | .u32 => k .u32 | .u64 => k .u64
@[simp] theorem fK_eq (q : IntKind) (k : IntKind → β) : fK q k = k q := by cases q <;> rfl
/-- One cell's value. -/
def fS (v : Value) (k : Value → β) : β := match v with
  | .bool b => fB b fun b => k (.bool b)
  | .int q n => fK q fun q => fI n fun n => k (.int q n)
  | .pointer (some a) => fA a fun a => k (.pointer (some a))
  | .slice (some a) l c => fA a fun a => fN l fun l => fN c fun c => k (.slice (some a) l c)
  | v => k v
@[simp] theorem fS_eq (v : Value) (k : Value → β) : fS v k = k v := by unfold fS; split <;> simp
def fSs : List Value → (List Value → β) → β
  | [], k => k []
  | v :: vs, k => fS v fun v => fSs vs fun vs => k (v :: vs)
@[simp] theorem fSs_eq (vs : List Value) (k : List Value → β) : fSs vs k = k vs := by induction vs generalizing k <;> simp [fSs, *]
def fG (v : Value) (k : Value → β) : β := match v with
  | .agg ⟨cs⟩ => fSs cs fun cs => k (.agg ⟨cs⟩)
  | v => fS v k
@[simp] theorem fG_eq (v : Value) (k : Value → β) : fG v k = k v := by unfold fG; split <;> simp
def fGs : List Value → (List Value → β) → β
  | [], k => k []
  | v :: vs, k => fG v fun v => fGs vs fun vs => k (v :: vs)
@[simp] theorem fGs_eq (vs : List Value) (k : List Value → β) : fGs vs k = k vs := by induction vs generalizing k <;> simp [fGs, *]
def fV (v : Value) (k : Value → β) : β := match v with
  | .tuple ⟨cs⟩ => fGs cs fun cs => k (.tuple ⟨cs⟩)
  | .func fn ⟨a⟩ ⟨b⟩ => fGs a fun a => fGs b fun b => k (.func fn ⟨a⟩ ⟨b⟩)
  | v => fG v k
@[simp] theorem fV_eq (v : Value) (k : Value → β) : fV v k = k v := by unfold fV; split <;> simp
end force

/-! ### The abstract heap -/
/-- A slice's capacity from here on is open: the block's own, less what is above. -/
def OPEN : Nat := 2 ^ 64
/-- How much an open capacity is less than the block's own. -/
def un (c : Nat) : Nat := Nat.sub c OPEN
theorem un_add {c l : Nat} (h : ¬ c < OPEN) : un (c + l) = un c + l := by
  simp only [un, Nat.sub_eq]; omega

inductive Blk where
  | cells (rw : Bool) (grow : Nat) (cs : List Value)
  | map (es : List MapEntry) (clock : Nat)
  | loop (st : LoopState) (pending : Option Code) (tm : Tr Value) (sz : Nat) (ps : List Tmp) (assign body : Code) (dfr : Nat)
  | defd
  | dead
  | res (k c : Nat)

structure Hp where
  next : Nat
  clk : Nat
  t : Tr (Nat × Blk)

def Hp.get (h : Hp) (b : Nat) : Option Blk := (h.t.get b).map (·.2)
def Hp.ver (h : Hp) (b : Nat) : Option Nat := (h.t.get b).map (·.1)

section
variable {β : Type}
/-- A block is written (or laid, or killed): it bears a new stamp. -/
def Hp.putK (h : Hp) (b : Nat) (x : Blk) (k : Hp → β) : β :=
  fN (Nat.succ h.clk) fun c => Tr.setK 64 h.t b (some (c, x)) fun t => k ⟨h.next, c, t⟩
def Hp.put (h : Hp) (b : Nat) (x : Blk) : Hp :=
  ⟨h.next, h.clk + 1, Tr.set 64 h.t b (some (h.clk + 1, x))⟩
theorem Hp.putK_eq (h : Hp) (b : Nat) (x : Blk) (k : Hp → β) : h.putK b x k = k (h.put b x) := by
  simp only [Hp.putK, fN_eq, Tr.setK_eq, Hp.put]
/-- A new block, of the next number. -/
def Hp.newK (h : Hp) (x : Blk) (k : Nat → Hp → Option β) : Option β :=
  match Nat.blt (Nat.succ h.next) (nat_lit 4611686018427387904) with
  | true => fN (Nat.succ h.next) fun n => Hp.putK h h.next x fun g => k h.next ⟨n, g.clk, g.t⟩
  | false => none
end

structure Env where
  P : Program
  G : Nat
  ty : Tr TypeInfo
  fn : Tr Func
  odd : List (Nat × Nat × List Nat)

structure Fr where
  tm : Tr Value
  sz : Nat
  marks : List Nat
  round : Option Nat

def Fr.val (fr : Fr) : Operand → Value
  | .tmp t => match fr.tm.get t with
    | some v => v
    | none => undef
  | .const v => v
  | .global g => .pointer (some ⟨g, 0, none⟩)
  | .func f => .func (.func f) #[] #[]

def Fr.putK {β : Type} (fr : Fr) (dst : Option Tmp) (v : Value) (k : Fr → Option β) : Option β :=
  match dst with
  | none => k fr
  | some d => match Nat.blt d fr.sz with
    | true => Tr.setK 32 fr.tm d (some v) fun tm => k ⟨tm, fr.sz, fr.marks, fr.round⟩
    | false => none

/-! ### Types -/
def Env.und (E : Env) (t : TypeId) : Option TypeDesc :=
  match E.ty.get t with
  | some { desc := .named _ u, .. } => (E.ty.get u).map (·.desc)
  | some i => some i.desc
  | none => none
def Env.agg (E : Env) (t : TypeId) : Option Bool :=
  match E.und t with
  | some (.struct _) => some true
  | some (.array _ _) => some true
  | some _ => some false
  | none => none
def Env.size (E : Env) (t : TypeId) : Option Nat := (E.ty.get t).map (·.size)
def Env.bytes (E : Env) (t : TypeId) : Option Nat := (E.ty.get t).map (·.bytes)

def vcells : Value → List Value
  | .agg cs => cs.toList
  | v => [v]

/-- No address in it (and no function): the same whatever the blocks' places. -/
def scalarFree : Value → Bool
  | .bool _ | .int .. | .string _ | .pointer none | .slice none _ _ | .map none | .nilFunc | .nilIface => true
  | _ => false
def addrFree : Value → Bool
  | .agg cs => cs.toList.all scalarFree
  | v => scalarFree v

def Env.zero (E : Env) (t : TypeId) : Option Value :=
  match E.ty.get t with
  | some i => (match i.zero with
    | some z => (match addrFree z with
      | true => some z
      | false => none)
    | none => none)
  | none => none
def pureVal {α : Type} (P : Program) : Sem α → Option α
  | .pure a => some a
  | .program k => pureVal P (k P)
  | _ => none

/-- A value that is computed without memory, and bears no address. -/
def pureV (P : Program) (s : Sem Value) : Option Value :=
  match pureVal P s with
  | some v => (match addrFree v with
    | true => some v
    | false => none)
  | none => none

def takeN (n : Nat) (l : List Value) (off : Nat) : Option (List Value) := cut l off n

def part (E : Env) (t : TypeId) (cs : List Value) (off : Nat) : Option Value :=
  match E.agg t with
  | some true => match E.size t with
    | some n => match cut cs off n with
      | some l => some (.agg ⟨l⟩)
      | none => none
    | none => none
  | some false => nth cs off
  | none => none

/-- cells of l from off on are those of r. -/
def splice : List Value → Nat → List Value → Option (List Value)
  | l, _, [] => some l
  | [], _, _ :: _ => none
  | _ :: l, 0, r :: rs => (splice l 0 rs).map (r :: ·)
  | x :: l, o + 1, rs => (splice l o rs).map (x :: ·)

def fillA (place : Nat → Option (Nat × Nat)) : List Value → List (Nat × Value) → Option (List Value)
  | cells, [] => some cells
  | cells, (i, v) :: rest =>
    match place i with
    | none => none
    | some (off, size) =>
      match Nat.beq (vcells v).length size && Nat.ble off cells.length with
      | true => match splice cells off (vcells v) with
        | some cells => fillA place cells rest
        | none => none
      | false => none

def binInt (op : BinOp) (k : IntKind) (x y : Int) : Option Value :=
  match op with
  | .add => some (.int k (wrapI k (Int.add x y)))
  | .sub => some (.int k (wrapI k (Int.sub x y)))
  | .mul => some (.int k (wrapI k (Int.mul x y)))
  | .eql => some (.bool (eqI x y))
  | .neq => some (.bool (!eqI x y))
  | .lss => some (.bool (ltI x y))
  | .leq => some (.bool (!ltI y x))
  | .gtr => some (.bool (ltI y x))
  | .geq => some (.bool (!ltI x y))
  | _ => none

def nilness (d : TypeDesc) (x y : Value) : Option Bool :=
  match d, x, y with
  | .pointer _, .pointer none, .pointer b => some b.isNone
  | .pointer _, .pointer (some _), .pointer none => some false
  | .func _ _ _, .nilFunc, .nilFunc => some true
  | .func _ _ _, .nilFunc, .func _ _ _ | .func _ _ _, .func _ _ _, .nilFunc => some false
  | .slice _, .slice none _ _, .slice b _ _ => some b.isNone
  | .slice _, .slice (some _) _ _, .slice none _ _ => some false
  | .map _ _, .map none, .map b => some b.isNone
  | .map _ _, .map (some _), .map none => some false
  | _, _, _ => none

def binNil (E : Env) (op : BinOp) (t : TypeId) (x y : Value) : Option Value :=
  match E.und t with
  | some d => (match nilness d x y with
    | some b => (match op with
      | .eql => some (.bool b)
      | .neq => some (.bool !b)
      | _ => none)
    | none => none)
  | none => none
def binSlow (E : Env) (op : BinOp) (t : TypeId) (xo yo : Operand) (x y : Value) : Option Value :=
  match addrFree x && addrFree y with
  | true => pureV E.P (do eqGuard op t xo yo x y; binOp op t x y)
  | false => binNil E op t x y
def binII (E : Env) (op : BinOp) (t : TypeId) (xo yo : Operand) (k k' : IntKind) (a b : Int) : Option Value :=
  match eqK k k' with
  | true => match binInt op k a b with
    | some v => some v
    | none => binSlow E op t xo yo (.int k a) (.int k' b)
  | false => binSlow E op t xo yo (.int k a) (.int k' b)
def binA (E : Env) (op : BinOp) (t : TypeId) (xo yo : Operand) (x y : Value) : Option Value :=
  match x with
  | .int k a => (match y with
    | .int k' b => binII E op t xo yo k k' a b
    | y => binSlow E op t xo yo x y)
  | x => binSlow E op t xo yo x y

def bound (v : Value) (y : Nat) : Option Nat :=
  match v with
  | .int _ (.ofNat i) => match Nat.ble i y with
    | true => some i
    | false => none
  | _ => none

/-- low, high, max of a slice expression: over len, and a capacity that is known (some) or at least len (none). -/
def boundMax (len : Nat) (cap : Option Nat) (mx : Option Value) : Option (Option Nat) :=
  match mx with
  | some v => match bound v (match cap with | some c => c | none => len) with
    | some m => some (some m)
    | none => none
  | none => some cap
def boundHigh (len : Nat) (m : Option Nat) (hi : Option Value) (three : Bool) : Option Nat :=
  match hi with
  | some v => bound v (match m with | some c => c | none => len)
  | none => match three with
    | true => none
    | false => some len
def boundLow (h : Nat) (lo : Option Value) : Option Nat :=
  match lo with
  | some v => bound v h
  | none => some 0
def bounds (len : Nat) (cap : Option Nat) (lo hi mx : Option Value) : Option (Nat × Nat × Option Nat) :=
  match boundMax len cap mx with
  | none => none
  | some m => match boundHigh len m hi mx.isSome with
    | none => none
    | some h => match boundLow h lo with
      | none => none
      | some l => some (l, h, m)

def sliceOf (b off size l h m : Nat) : Value :=
  .slice (some ⟨b, (match Nat.beq m l with | true => off | false => Nat.add off (Nat.mul l size)), none⟩) (Nat.sub h l) (Nat.sub m l)

def openFits (B : Option Blk) (size len cap : Nat) : Bool :=
  match B with
  | some (.cells _ g cs) => Nat.beq g (Nat.succ size) && Nat.ble (Nat.mul (Nat.add (un cap) len) size) cs.length && Nat.ble 1 size
  | _ => false
def sliceA (E : Env) (t : TypeId) (x : Value) (lo hi mx : Option Value) (B : Option Blk) : Option Value :=
  match E.und t, x with
  | some (.array n elem), .pointer (some ⟨b, off, none⟩) =>
    match E.size elem, bounds n (some n) lo hi mx, Nat.blt n OPEN with
    | some size, some (l, h, some m), true => some (sliceOf b off size l h m)
    | _, _, _ => none
  | some (.slice elem), .slice (some ⟨b, off, none⟩) len cap =>
    match E.size elem, Nat.blt cap OPEN with
    | some size, true => match bounds len (some cap) lo hi mx with
      | some (l, h, some m) => some (sliceOf b off size l h m)
      | _ => none
    | some size, false => match openFits B size len cap, bounds len none lo hi mx with
      | true, some (l, h, some m) => (match Nat.blt m OPEN with
        | true => some (sliceOf b off size l h m)
        | false => none)
      | true, some (l, h, none) => match Nat.blt l len with
        | true => some (.slice (some ⟨b, off + l * size, none⟩) (h - l) (cap + l))
        | false => none
      | _, _ => none
    | none, _ => none
  | some (.slice elem), .slice none len cap =>
    match E.size elem, bounds len (some cap) lo hi mx with
    | some _, some (l, h, some m) => some (.slice none (Nat.sub h l) (Nat.sub m l))
    | _, _ => none
  | _, _ => none

def indexPtr (E : Env) (elem : TypeId) (b off len : Nat) (i : Int) : Option Value :=
  match i with
  | .ofNat i => match Nat.blt i len with
    | true => match E.size elem with
      | some s => some (.pointer (some ⟨b, Nat.add off (Nat.mul i s), none⟩))
      | none => none
    | false => none
  | _ => none
def indexA (E : Env) (t : TypeId) (x i : Value) : Option Value :=
  match E.und t, x, i with
  | some (.array len elem), .pointer (some ⟨b, off, none⟩), .int _ i => indexPtr E elem b off len i
  | some (.slice elem), .slice (some ⟨b, off, none⟩) len _, .int _ i => indexPtr E elem b off len i
  | _, _, _ => none

/-- Entry by its key: which one, and its value. -/
def findA (E : Env) (kt : TypeId) (k : Value) (es : List MapEntry) : Option (Option (Nat × MapEntry)) :=
  match addrFree k && es.all (fun e => addrFree e.key) with
  | true => match pureVal E.P (do Instr.checkKey es.isEmpty 10000 kt k; Instr.findKey kt k (es.map fun e => { e with val := undef })) with
    | some (some (i, _)) => match es[i]? with
      | some e => some (some (i, e))
      | none => none
    | some none => some none
    | none => none
  | false => none

/-- The block that an operation reads, if any. -/
def ptrB (v : Value) : Option Nat :=
  match v with
  | .pointer p => (match p with
    | some ⟨b, _, _⟩ => some b
    | none => none)
  | .map r => r
  | .slice p _ _ => (match p with
    | some ⟨b, _, _⟩ => some b
    | none => none)
  | _ => none
def mapB (v : Value) : Option Nat :=
  match v with
  | .map r => r
  | _ => none
def readsB (c : Call) (ρ : Operand → Value) : Option Nat :=
  match c.callee with
  | .builtin b => (match b with
    | .len => (match c.args.toList with
      | [a] => mapB (ρ a)
      | _ => none)
    | _ => none)
  | _ => none
def openB (v : Value) : Option Nat :=
  match v with
  | .slice (some ⟨b, _, _⟩) _ c => (match Nat.blt c OPEN with
    | true => none
    | false => some b)
  | _ => none
def reads (ρ : Operand → Value) (op : Op) : Option Nat :=
  match op with
  | .slice _ x _ _ _ => openB (ρ x)
  | .load _ a => ptrB (ρ a)
  | .lookup _ m _ _ => ptrB (ρ m)
  | .call c => readsB c ρ
  | _ => none

def pickA (c a b : Value) : Option Value :=
  match c with
  | .bool t => some (match t with | true => a | false => b)
  | _ => none
def loadA (E : Env) (t : TypeId) (a : Value) (B : Option Blk) : Option Value :=
  match a with
  | .pointer p => (match p with
    | some ⟨_, off, s⟩ => (match s with
      | none => (match B with
        | some B => (match B with
          | .cells _ _ cs => part E t cs off
          | _ => none)
        | none => none)
      | some _ => none)
    | none => none)
  | _ => none
def nilCheckA (x : Value) : Option Value :=
  match x with
  | .pointer p => (match p with
    | some _ => some x
    | none => none)
  | .func fn _ _ => (match fn with
    | .func _ => some x
    | _ => none)
  | _ => none
def unA (E : Env) (op : UnOp) (x : Value) : Option Value :=
  match addrFree x with
  | true => pureV E.P (Op.unary op x)
  | false => none
def convertA (E : Env) (src dst : TypeId) (x : Value) : Option Value :=
  match x with
  | .int _ n => (match E.und dst with
    | some d => (match d with
      | .int k => (match E.und src with
        | some _ => some (.int k (wrapI k n))
        | none => none)
      | _ => none)
    | none => none)
  | _ => none
def makeFuncA (fn : Fn) (first caps : List Value) : Option Value :=
  match fn with
  | .func f => some (.func (.func f) ⟨first⟩ ⟨caps⟩)
  | _ => none
def fieldsOf (E : Env) (s : TypeId) (f : Nat) : Option Field :=
  match E.und s with
  | some d => (match d with
    | .struct fields => nth fields.toList f
    | _ => none)
  | none => none
def fieldAddrA (E : Env) (s : TypeId) (x : Value) (f : Nat) : Option Value :=
  match fieldsOf E s f with
  | some fd => (match x with
    | .pointer p => (match p with
      | some ⟨b, off, sp⟩ => (match sp with
        | none => (match E.size fd.type with
          | some n => (match n with
            | 0 => none
            | _ + 1 => some (.pointer (some ⟨b, Nat.add off fd.offset, none⟩)))
          | none => none)
        | some _ => none)
      | none => none)
    | _ => none)
  | none => none
def fieldA (E : Env) (s : TypeId) (x : Value) (f : Nat) : Option Value :=
  match fieldsOf E s f with
  | some fd => (match x with
    | .agg cs => part E fd.type cs.toList fd.offset
    | _ => none)
  | none => none
def indexV (E : Env) (t : TypeId) (x i : Value) : Option Value :=
  match E.und t, x, i with
  | some (.array len elem), .agg cs, .int _ (.ofNat i) => match Nat.blt i len, E.size elem with
    | true, some s => part E elem cs.toList (Nat.mul i s)
    | _, _ => none
  | _, .string s, .int k i => pureV E.P (Instr.index t (.string s) (.int k i))
  | _, _, _ => none
def placesA (E : Env) (fs : List Field) : Option (List (Nat × Nat)) :=
  match fs with
  | [] => some []
  | f :: fs => (match E.size f.type with
    | some s => (match placesA E fs with
      | some l => some ((f.offset, s) :: l)
      | none => none)
    | none => none)
def buildA (E : Env) (t : TypeId) (parts : List (Nat × Value)) : Option Value :=
  match E.und t, E.zero t with
  | some (.struct fields), some z =>
    (match placesA E fields.toList with
    | some ps => (match fillA (nth ps) (vcells z) parts with
      | some l => some (.agg ⟨l⟩)
      | none => none)
    | none => none)
  | some (.array _ elem), some z => match E.size elem with
    | some s => (match fillA (fun i => some (i * s, s)) (vcells z) parts with
      | some l => some (.agg ⟨l⟩)
      | none => none)
    | none => none
  | _, _ => none
def extractA (t : Value) (i : Nat) : Option Value :=
  match t with
  | .tuple vs => nth vs.toList i
  | _ => none
def lookupA (E : Env) (t : TypeId) (m k : Value) (ok : Bool) (B : Option Blk) : Option Value :=
  match E.und t with
  | some (.map kt elem) =>
    let r := match m, B with
      | .map none, _ => findA E kt k []
      | .map (some _), some (.map es _) => findA E kt k es
      | _, _ => none
    match r with
    | some (some (_, e)) => some (if ok then .tuple #[e.val, .bool true] else e.val)
    | some none => match E.zero elem with
      | some z => some (if ok then .tuple #[z, .bool false] else z)
      | none => none
    | none => none
  | _ => none
def lenA (E : Env) (tys : List TypeId) (args : List Value) (B : Option Blk) : Option Value :=
  match args, tys with
  | [a], t :: _ => match a with
    | .slice _ n _ => (match E.und t with
      | some (.slice _) => some (goInt n)
      | _ => none)
    | a => match E.und t, a, B with
      | some .string, .string s, _ => some (goInt s.size)
      | some (.array n _), _, _ => some (goInt n)
      | some (.map _ _), .map none, _ => some (goInt 0)
      | some (.map _ _), .map (some _), some (.map es _) => some (goInt es.length)
      | _, _, _ => none
  | _, _ => none
def maxA (E : Env) (tys : Array TypeId) (t : TypeId) (args : List Value) : Option Value :=
  match args.all addrFree with
  | true => pureV E.P (Builtin.max_ tys t ⟨args⟩)
  | false => none
def minA (E : Env) (tys : Array TypeId) (t : TypeId) (args : List Value) : Option Value :=
  match args.all addrFree with
  | true => pureV E.P (Builtin.min_ tys t ⟨args⟩)
  | false => none
def quietB (E : Env) (o : Oper) (c : Call) (ρ : Operand → Value) (B : Option Blk) : Option Value :=
  match c.callee with
  | .builtin b => (match b with
    | .len => lenA E c.argTypes.toList (c.args.toList.map ρ) B
    | .max => maxA E c.argTypes o.type (c.args.toList.map ρ)
    | .min => minA E c.argTypes o.type (c.args.toList.map ρ)
    | _ => none)
  | _ => none
def quiet (E : Env) (o : Oper) (ρ : Operand → Value) (B : Option Blk) : Option Value :=
  match o.op with
  | .move x => some (ρ x)
  | .assign x => some (ρ x)
  | .pick c a b => pickA (ρ c) (ρ a) (ρ b)
  | .load t a => loadA E t (ρ a) B
  | .nilCheck x => nilCheckA (ρ x)
  | .binOp op t x y _ => binA E op t x y (ρ x) (ρ y)
  | .unOp op _ x => unA E op (ρ x)
  | .convert src dst x => convertA E src dst (ρ x)
  | .makeFunc fn first caps => makeFuncA fn (first.toList.map ρ) (caps.toList.map ρ)
  | .slice t x lo hi mx => sliceA E t (ρ x) (lo.map ρ) (hi.map ρ) (mx.map ρ) B
  | .fieldAddr s x f => fieldAddrA E s (ρ x) f
  | .field s x f => fieldA E s (ρ x) f
  | .indexAddr t x i => indexA E t (ρ x) (ρ i)
  | .index t x i => indexV E t (ρ x) (ρ i)
  | .build t parts => buildA E t (parts.toList.map fun p => (p.1, ρ p.2))
  | .extract t i => extractA (ρ t) i
  | .lookup t m k ok => lookupA E t (ρ m) (ρ k) ok B
  | .call c => quietB E o c ρ B
  | _ => none

def rep (n : Nat) (z : List Value) : List Value := match n with
  | 0 => []
  | n + 1 => z ++ rep n z

def ptrTo (b : Nat) : Value := .pointer (some ⟨b, 0, none⟩)
def sliceTo (l c : Nat) (b : Nat) : Value := .slice (some ⟨b, 0, none⟩) l c
def mapTo (b : Nat) : Value := .map (some b)
def boxA (x : Value) : Option (Blk × (Nat → Value)) := some (.cells true 0 (vcells x), ptrTo)
def allocA (E : Env) (t : TypeId) : Option (Blk × (Nat → Value)) :=
  match E.zero t with
  | some z => boxA z
  | none => none
def buildSliceA (E : Env) (t : TypeId) (len : Nat) (parts : List (Nat × Value)) : Option (Blk × (Nat → Value)) :=
  match E.und t with
  | some (.slice elem) => match E.size elem, E.zero elem with
    | some s, some z => (match Nat.ble (Nat.mul len s) (2 ^ 24) && Nat.beq (vcells z).length s && Nat.ble len (2 ^ 24) with
      | true => (match fillA (fun i => some (i * s, s)) (rep len (vcells z)) parts with
        | some l => some (.cells true 0 l, sliceTo len len)
        | none => none)
      | false => none)
    | _, _ => none
  | _ => none
def makeSliceA (E : Env) (t : TypeId) (l c : Value) : Option (Blk × (Nat → Value)) :=
  match E.und t, l, c with
  | some (.slice elem), .int _ (.ofNat l), .int _ (.ofNat c) => match E.size elem, E.zero elem, E.bytes elem with
    | some s, some z, some by_ => (match Nat.ble l c && Nat.ble c (2 ^ 24) && Nat.ble by_ (2 ^ 16) && Nat.beq (vcells z).length s with
      | true => some (.cells true 0 (rep c (vcells z)), sliceTo l c)
      | false => none)
    | _, _, _ => none
  | _, _, _ => none
/-- Operations that lay a block of their own: the block, and the value over its number. -/
def laid (E : Env) (op : Op) (ρ : Operand → Value) : Option (Blk × (Nat → Value)) :=
  match op with
  | .alloc t => allocA E t
  | .box _ x => boxA (ρ x)
  | .buildSlice t len parts => buildSliceA E t len (parts.toList.map fun p => (p.1, ρ p.2))
  | .makeSlice t l c => makeSliceA E t (ρ l) (ρ c)
  | .makeMap _ r => (match r with
    | none => some (.map [] 0, mapTo)
    | some _ => none)
  | _ => none

/-- Operations that write one block: which, and what it becomes. -/
def writesB (c : Call) (ρ : Operand → Value) : Option Nat :=
  match c.callee with
  | .builtin b => (match b with
    | .clear => (match c.args.toList with
      | [a] => ptrB (ρ a)
      | _ => none)
    | _ => none)
  | _ => none
def writes (ρ : Operand → Value) (op : Op) : Option Nat :=
  match op with
  | .store _ a _ => ptrB (ρ a)
  | .mapUpdate _ m _ _ => ptrB (ρ m)
  | .insert _ m _ _ => ptrB (ρ m)
  | .entryStore _ m _ _ => ptrB (ρ m)
  | .call c => writesB c ρ
  | _ => none
def modify (es : List MapEntry) (i : Nat) (k v : Value) : List MapEntry := match es, i with
  | [], _ => []
  | e :: es, 0 => { e with key := k, val := v } :: es
  | e :: es, i + 1 => e :: modify es i k v
def storeA (E : Env) (t : TypeId) (a x : Value) (B : Option Blk) : Option Blk :=
  match a with
  | .pointer p => (match p with
    | some ⟨_, off, s⟩ => (match s with
      | none => (match B with
        | some B => (match B with
          | .cells rw g cs => (match rw with
            | true => (match E.size t with
              | some s => (match Nat.beq (vcells x).length s && (vcells x).all Value.oneCell' with
                | true => (match splice cs off (vcells x) with
                  | some cs => some (.cells true g cs)
                  | none => none)
                | false => none)
              | none => none)
            | false => none)
          | _ => none)
        | none => none)
      | some _ => none)
    | none => none)
  | _ => none
def updateA (E : Env) (t : TypeId) (m k x : Value) (B : Option Blk) : Option Blk :=
  match E.und t, m, B with
  | some (.map kt _), .map (some _), some (.map es c) =>
    match findA E kt k es with
    | some (some (i, e)) => (match Instr.sameBits 10000 e.key k with
      | true => some (.map (modify es i k x) c)
      | false => none)
    | some none => (match pureVal E.P (Instr.checkKey false 10000 kt k) with
      | some _ => some (.map (es ++ [{ key := k, val := x, born := c }]) (c + 1))
      | none => none)
    | none => none
  | _, _, _ => none
/-- The entry that was born so holds x. -/
def setBorn (es : List MapEntry) (n : Int) (x : Value) : Option (List MapEntry) := match es with
  | [] => none
  | e :: es => match eqI (.ofNat e.born) n with
    | true => some ({ e with val := x } :: es)
    | false => match setBorn es n x with
      | some r => some (e :: r)
      | none => none
def entryA (m s x : Value) (B : Option Blk) : Option Blk :=
  match m, s, B with
  | .map (some _), .int _ n, some (.map es c) => (match setBorn es n x with
    | some es' => some (.map es' c)
    | none => none)
  | _, _, _ => none
/-- The entry of a key: made, if it is not there; what it holds, and when it was born. -/
def mapEntryA (E : Env) (t : TypeId) (m k : Value) (B : Option Blk) : Option (Blk × Value) :=
  match E.und t, m, B with
  | some (.map kt elem), .map (some _), some (.map es c) =>
    match findA E kt k es with
    | some (some (i, e)) => (match Instr.sameBits 10000 e.key k with
      | true => some (.map (modify es i k e.val) c, .tuple ⟨[e.val, goInt e.born]⟩)
      | false => none)
    | some none => (match pureVal E.P (Instr.checkKey false 10000 kt k), E.zero elem with
      | some _, some z => some (.map (es ++ [{ key := k, val := z, born := c }]) (c + 1), .tuple ⟨[z, goInt c]⟩)
      | _, _ => none)
    | none => none
  | _, _, _ => none
def clearA (E : Env) (tys : List TypeId) (args : List Value) (B : Option Blk) : Option Blk :=
  match args, tys with
  | [.slice (some ⟨_, off, none⟩) n _], t :: _ => match E.und t, B with
    | some (.slice elem), some (.cells true g cs) => match E.size elem, E.zero elem with
      | some s, some z => if (vcells z).length = s ∧ n ≠ 0 ∧ (vcells z).all Value.oneCell' = true then (match splice cs off (rep n (vcells z)) with
        | some cs => some (.cells true g cs)
        | none => none) else none
      | _, _ => none
    | _, _ => none
  | _, _ => none
def writtenB (E : Env) (c : Call) (ρ : Operand → Value) (B : Option Blk) : Option Blk :=
  match c.callee with
  | .builtin b => (match b with
    | .clear => clearA E c.argTypes.toList (c.args.toList.map ρ) B
    | _ => none)
  | _ => none
def written (E : Env) (op : Op) (ρ : Operand → Value) (B : Option Blk) : Option Blk :=
  match op with
  | .store t a x => storeA E t (ρ a) (ρ x) B
  | .mapUpdate t m k x => updateA E t (ρ m) (ρ k) (ρ x) B
  | .insert t m k x => updateA E t (ρ m) (ρ k) (ρ x) B
  | .entryStore _ m s x => entryA (ρ m) (ρ s) (ρ x) B
  | .call c => writtenB E c ρ B
  | _ => none

inductive Cls where
  | p | q | a | c | s
  deriving DecidableEq
def clsB (b : Builtin) : Cls :=
  match b with
  | .len => .q
  | .max => .p
  | .min => .p
  | .clear => .s
  | _ => .c
def cls (op : Op) : Cls :=
  match op with
  | .load _ _ => .q
  | .slice _ _ _ _ _ => .q
  | .lookup _ _ _ _ => .q
  | .call c => (match c.callee with
    | .builtin b => clsB b
    | _ => .c)
  | .alloc _ => .a
  | .box _ _ => .a
  | .buildSlice _ _ _ => .a
  | .makeSlice _ _ _ => .a
  | .makeMap _ _ => .a
  | .store _ _ _ => .s
  | .mapUpdate _ _ _ _ => .s
  | .insert _ _ _ _ => .s
  | .entryStore _ _ _ _ => .s
  | .mapEntry _ _ _ => .c
  | _ => .p

/-! ### A region that draws its order: what is held against its text -/
def maskOf (ops : List Oper) : List Nat :=
  ops.foldl (fun acc o => acc ++ [o.after.toList.foldl (fun s e => if Region.binds .any e && decide (e.on < acc.length) then s ||| 2 ^ e.on ||| acc.getD e.on 0 else s) 0]) []

def names (ops : List Oper) (o : Oper) : List Tmp :=
  o.dst.toList ++ (o.op.operands.toList.filterMap fun | .tmp t => some t | _ => none) ++
  (match o.guard with
   | some (g, _) => ((ops[g]?).bind (·.dst)).toList
   | none => [])

def drawOk (ops : List Oper) : Bool :=
  let ms := maskOf ops
  let n := ops.length
  (List.range n).all fun j =>
    match ops[j]? with
    | none => true
    | some oj =>
      let mj := ms.getD j 0
      let cj := cls oj.op
      (match oj.guard with
       | some (g, _) => mj.testBit g && decide (g < j) && ((ops[g]?).bind (·.dst)).isSome
       | none => true) &&
      (oj.after.toList.all fun e => !Region.binds .any e || decide (e.on < j)) &&
      (List.range j).all fun i =>
        mj.testBit i ||
        match ops[i]? with
        | none => true
        | some oi =>
          let ci := cls oi.op
          !((cj = .c || cj = .s) && (ci = .a || ci = .c || ci = .s)) &&
          (match oi.dst with
           | some d => !(names ops oj).contains d
           | none => true) &&
          (match oj.dst with
           | some d => !(names ops oi).contains d
           | none => true)

/-- For each operation: how many chained ones are behind it by its edges, and how many are not before it by theirs. -/
def drawInfo (ops : List Oper) : List (Nat × Nat) :=
  let ms := maskOf ops
  (List.range ops.length).map fun i =>
    (((List.range ops.length).filter fun c => (match ops[c]? with | some o => cls o.op = .c || cls o.op = .s | none => false) && (ms.getD i 0).testBit c).length,
     ((List.range ops.length).filter fun c => (match ops[c]? with | some o => cls o.op = .c || cls o.op = .s | none => false) && !(ms.getD c 0).testBit i).length)

def opndOk (G : Nat) (x : Operand) : Bool :=
  match x with
  | .const v => addrFree v
  | .global g => Nat.blt g G
  | _ => true
def operOk (G : Nat) (o : Oper) : Bool :=
  o.op.operands.toList.all (opndOk G) && (match o.op with
    | .select _ _ => false
    | .defer _ => false
    | _ => true)
/-! A region that draws its order may be taken in another order of its text: where a call is written behind a block that is laid, and neither waits for the other. -/
def idxF (l : List Nat) (n : Nat) : Nat := match l with
  | [] => 0
  | m :: l => match Nat.beq m n with
    | true => 0
    | false => Nat.succ (idxF l n)
def reEdge (p : List Nat) (e : Edge) : Edge := ⟨idxF p e.on, e.ground⟩
def reOp (p : List Nat) (o : Oper) : Oper := ⟨o.dst, o.op, o.type, o.pos, ⟨o.after.toList.map (reEdge p)⟩, match o.guard with | some (g, b) => some (idxF p g, b) | none => none⟩
def reOps (p : List Nat) (ops : List Oper) (l : List Nat) : List Oper := match l with
  | [] => []
  | i :: l => match nth ops i with
    | some o => reOp p o :: reOps p ops l
    | none => reOps p ops l
def reOk (p : List Nat) (ops : List Oper) : Bool :=
  Nat.beq p.length ops.length &&
  ((List.range ops.length).all fun i => match nth p (idxF p i) with | some k => Nat.beq k i | none => false) &&
  ((List.range ops.length).all fun m => match nth p m with | some i => Nat.blt i ops.length && Nat.beq (idxF p i) m | none => false) &&
  ops.all fun o => (o.after.toList.all fun e => Nat.blt e.on ops.length) && (match o.guard with | some (g, _) => Nat.blt g ops.length | none => true)
/-- Regions' numbers are not each their own: a sum over what it writes and of which types. -/
def sumOf (ops : List Oper) : Nat := match ops with
  | [] => 0
  | o :: l => Nat.add (sumOf l) (Nat.add o.type (match o.dst with | some d => d | none => 0))
def findOdd (id : Nat) (ops : List Oper) (l : List (Nat × Nat × List Nat)) : List Oper := match l with
  | [] => ops
  | (i, n, p) :: l => match Nat.beq i id && Nat.beq n (sumOf ops) with
    | true => (match reOk p ops with
      | true => reOps p ops p
      | false => ops)
    | false => findOdd id ops l
def ordOf (odd : List (Nat × Nat × List Nat)) (id : Nat) (d : Bool) (ops : List Oper) : List Oper := match d with
  | false => ops
  | true => findOdd id ops odd
def codeOk (E : Env) : Code → Bool
  | .region id ops d => (ordOf E.odd id d ops.toList).all (operOk E.G) && (!d || drawOk (ordOf E.odd id d ops.toList))
  | .seq a b => codeOk E a && codeOk E b
  | .cond c a b => opndOk E.G c && codeOk E a && codeOk E b
  | .block _ b => codeOk E b
  | .loop b => codeOk E b
  | .rangeFunc f _ a b => opndOk E.G f && codeOk E a && codeOk E b
  | .scope b => codeOk E b
  | _ => true

/-! ### append -/
def valueCells (h : Hp) (x : Value) (cells : Nat) : Option (List Value) :=
  match x with
  | .slice none _ _ => match cells with
    | 0 => some []
    | _ => none
  | .slice (some ⟨b, off, none⟩) _ _ => match cells with
    | 0 => some []
    | _ => match h.get b with
      | some (.cells _ _ cs) => takeN cells cs off
      | _ => none
  | _ => none

def fEs {β : Type} : List MapEntry → (List MapEntry → β) → β
  | [], k => k []
  | ⟨key, val, born⟩ :: es, k => fG key fun key => fG val fun val => fN born fun born => fEs es fun es => k (⟨key, val, born⟩ :: es)
@[simp] theorem fEs_eq {β : Type} (es : List MapEntry) (k : List MapEntry → β) : fEs es k = k es := by
  induction es generalizing k with
  | nil => rfl
  | cons e es ih => obtain ⟨a, b, c⟩ := e; simp [fEs, ih]
def forceB {β : Type} (B : Blk) (k : Blk → β) : β :=
  match B with
  | .cells rw g cs => fB rw fun rw => fN g fun g => fSs cs fun cs => k (.cells rw g cs)
  | .map es c => fEs es fun es => fN c fun c => k (.map es c)
  | b => k b
@[simp] theorem forceB_eq {β : Type} (B : Blk) (k : Blk → β) : forceB B k = k B := by unfold forceB; split <;> simp

/-- What an append does to the heap. -/
inductive Eff where
  | keep
  | write (b : Nat) (x : Blk)
  | lay (x : Blk)
  | swap (b : Nat) (x : Blk)

/-- Nothing is appended. -/
def appendNone (h : Hp) (size : Nat) (base : Option Addr) (sl sc : Nat) : Option (Eff × (Nat → Value)) :=
  match Nat.blt sc OPEN with
  | true => (match Nat.ble sl sc with
    | true => some (.keep, fun _ => .slice base sl sc)
    | false => none)
  | false => (match base with
    | some ⟨b, _, none⟩ => (match openFits (h.get b) size sl sc with
      | true => some (.keep, fun _ => .slice base sl sc)
      | false => none)
    | _ => none)
/-- Into a slice whose capacity is known. -/
def appendShut (h : Hp) (size : Nat) (base : Option Addr) (sl sc n : Nat) (xs : List Value) : Option (Eff × (Nat → Value)) :=
  match Nat.ble (sl + n) sc with
  | true => (match base with
    | some ⟨b, off, none⟩ => (match h.get b, xs.all Value.oneCell' with
      | some (.cells true g cs), true => (match splice cs (off + sl * size) xs with
        | some cs => some (.write b (.cells true g cs), fun _ => .slice base (sl + n) sc)
        | none => none)
      | _, _ => none)
    | _ => none)
  | false => (match valueCells h (.slice base sl sc) (sl * size) with
    | some os => some (.lay (.cells true (size + 1) (os ++ xs)), fun b => .slice (some ⟨b, 0, none⟩) (sl + n) OPEN)
    | none => none)
/-- Into one whose capacity is open: the block is at its end. -/
def appendOpen (h : Hp) (size : Nat) (base : Option Addr) (sl sc n : Nat) (xs : List Value) : Option (Eff × (Nat → Value)) :=
  match base with
  | some ⟨b, off, none⟩ => (match h.get b, xs.all Value.oneCell', valueCells h (.slice base sl sc) (sl * size) with
    | some (.cells true g ocs), true, some os =>
      (match openFits (some (.cells true g ocs)) size sl sc && Nat.beq off (un sc * size) with
      | true => some (.swap b (.cells true (size + 1) (os ++ xs)), fun b => .slice (some ⟨b, 0, none⟩) (sl + n) OPEN)
      | false => none)
    | _, _, _ => none)
  | _ => none
def appendAt (h : Hp) (size : Nat) (base : Option Addr) (sl sc : Nat) (xb : Option Addr) (n xc : Nat) : Option (Eff × (Nat → Value)) :=
  match n with
  | 0 => appendNone h size base sl sc
  | _ + 1 => (match valueCells h (.slice xb n xc) (n * size) with
    | none => none
    | some xs => (match Nat.blt sc OPEN with
      | true => appendShut h size base sl sc n xs
      | false => appendOpen h size base sl sc n xs))
def appendA (E : Env) (tys : List TypeId) (args : List Value) (h : Hp) : Option (Eff × (Nat → Value)) :=
  match tys, args with
  | t :: t1 :: _, [.slice base sl sc, .slice xb n xc] =>
    (match E.und t, E.und t1 with
    | some (.slice elem), some (.slice _) => (match E.size elem, E.bytes elem, E.zero elem with
      | some size, some by_, some z =>
        (match Nat.ble 1 size && Nat.beq (vcells z).length size && Nat.ble ((2 * (sl + n) + 768) * by_) (2 ^ 47) && Nat.ble (sl + n) (2 ^ 47) with
        | true => appendAt h size base sl sc xb n xc
        | false => none)
      | _, _, _ => none)
    | _, _ => none)
  | t :: t1 :: _, [.slice base sl sc, .int .i64 (.ofNat n)] =>
    (match E.und t, E.und t1 with
    | some (.slice elem), some (.int _) => (match E.size elem, E.bytes elem, E.zero elem with
      | some size, some by_, some z =>
        (match Nat.ble 1 size && Nat.beq (vcells z).length size && Nat.ble ((2 * (sl + n) + 768) * by_) (2 ^ 47) && Nat.ble (sl + n) (2 ^ 24) && Nat.ble 1 n && Nat.blt sc OPEN && !Nat.ble (sl + n) sc with
        | true => (match valueCells h (.slice base sl sc) (sl * size) with
          | some os => some (.lay (.cells true (size + 1) (os ++ rep n (vcells z))), fun b => .slice (some ⟨b, 0, none⟩) (sl + n) OPEN)
          | none => none)
        | false => none)
      | _, _, _ => none)
    | _, _ => none)
  | _, _ => none
def forceEff {β : Type} (e : Eff) (k : Eff → β) : β :=
  match e with
  | .keep => k .keep
  | .write b x => forceB x fun x => k (.write b x)
  | .lay x => forceB x fun x => k (.lay x)
  | .swap b x => forceB x fun x => k (.swap b x)
def applyK {β : Type} (h : Hp) (e : Eff) (k : Nat → Hp → Option β) : Option β :=
  match e with
  | .keep => k 0 h
  | .write b x => h.putK b x fun h => k 0 h
  | .lay x => h.newK x k
  | .swap b x => h.putK b .dead fun h => h.newK x k
def appendK {β : Type} (E : Env) (tys : List TypeId) (args : List Value) (h : Hp) (k : Value → Hp → Option β) : Option β :=
  match appendA E tys args h with
  | some (e, f) => forceEff e fun e => applyK h e fun b h => k (f b) h
  | none => none

/-- copy: which block is written (if any), and how many elements. -/
def copyTo (h : Hp) (base : Option Addr) (n : Nat) (xs : List Value) : Option (Option (Nat × Blk) × Value) :=
  match base with
  | some ⟨b, off, none⟩ => (match h.get b, xs.all Value.oneCell' with
    | some (.cells true g cs), true => (match splice cs off xs with
      | some cs => some (some (b, .cells true g cs), goInt n)
      | none => none)
    | _, _ => none)
  | _ => none
def copyN (h : Hp) (size : Nat) (base : Option Addr) (sb : Option Addr) (sc n : Nat) : Option (Option (Nat × Blk) × Value) :=
  match n with
  | 0 => some (none, goInt 0)
  | _ + 1 => (match valueCells h (.slice sb n sc) (n * size) with
    | some xs => copyTo h base n xs
    | none => none)
def copyA (E : Env) (tys : List TypeId) (args : List Value) (h : Hp) : Option (Option (Nat × Blk) × Value) :=
  match tys, args with
  | t :: _, [.slice base dl _, .slice sb sl sc] =>
    (match E.und t with
    | some (.slice elem) => (match E.size elem with
      | some size => copyN h size base sb sc (Nat.min sl dl)
      | none => none)
    | _ => none)
  | _, _ => none
def copyK {β : Type} (E : Env) (tys : List TypeId) (args : List Value) (h : Hp) (k : Value → Hp → Option β) : Option β :=
  match copyA E tys args h with
  | some (e, v) => (match e with
    | some (b, B) => forceB B fun B => h.putK b B fun h => k v h
    | none => k v h)
  | none => none

/-! ### The evaluator -/
inductive Task where
  | code (c : Code) (fr : Fr)
  | ops (all l : List Oper) (st : Option (Nat × List (Nat × Nat) × List Nat × List (Nat × Nat × Nat))) (fr : Fr)
  | call (f : FuncId) (args : List Value)
  | round (l : Nat) (args : List Value)
inductive Res where
  | code (e : Exit) (fr : Fr)
  | val (v : Value)

def resultsA (E : Env) (fr : Fr) (h : Hp) : List ResultVar → Option (List Value)
  | [] => some []
  | .tmp t :: rs => (resultsA E fr h rs).map (fr.val (.tmp t) :: ·)
  | .cell a t :: rs => match fr.val (.tmp a) with
    | .pointer (some ⟨b, off, none⟩) => match h.get b with
      | some (.cells _ _ cs) => match part E t cs off with
        | some v => (resultsA E fr h rs).map (v :: ·)
        | none => none
      | _ => none
    | _ => none

def closeMarks {β : Type} : List Nat → Hp → (Hp → Option β) → Option β
  | [], h, k => k h
  | m :: ms, h, k => match h.get m with
    | some .defd => h.putK m .dead fun h => closeMarks ms h k
    | _ => none

def setArgs {β : Type} : Nat → List Value → Tr Value → (Tr Value → β) → β
  | _, [], t, k => k t
  | i, v :: vs, t, k => fN (i + 1) fun i' => Tr.setK 32 t i (some v) fun t => setArgs i' vs t k

def setParams {β : Type} : List Tmp → List Value → Nat → Tr Value → (Tr Value → Option β) → Option β
  | [], [], _, t, k => k t
  | p :: ps, v :: vs, sz, t, k => match Nat.blt p sz with
    | true => Tr.setK 32 t p (some v) fun t => setParams ps vs sz t k
    | false => none
  | _, _, _, _, _ => none

def wantedA (all : List Oper) (fr : Fr) (o : Oper) : Option Bool :=
  match o.guard with
  | none => some true
  | some (g, want) => match (match nth all g with | some o => o.dst | none => none) with
    | some d => match fr.val (.tmp d) with
      | .bool b => some (b == want)
      | _ => some false
    | none => some false

/-- Reads that may be made on the other side of a chained call saw what is there. -/
def readOk (h : Hp) (b : Option Nat) (starts : List Nat) (k : Nat) : Bool :=
  match b with
  | none => true
  | some b => match nth starts k with
    | none => true
    | some c => match h.ver b with
      | some v => Nat.ble v c
      | none => false
def recsOk (h : Hp) (recs : List (Nat × Nat × Nat)) (q : Nat) : Bool :=
  recs.all fun (b, v, m) => Nat.ble m q || (match h.ver b with | some v' => Nat.beq v v' | none => false)

abbrev Ans := Value
abbrev Kont := Res → Hp → Option Ans
abbrev Self := Task → Hp → Kont → Option Ans
/-- A region's own book: its first number, what each operation owes (by its place), the stamps at which chained operations began, the reads so far. -/
abbrev Book := Nat × List (Nat × Nat) × List Nat × List (Nat × Nat × Nat)

def onNormal (r : Res) (f : Fr → Option Ans) (g : Option Ans) : Option Ans :=
  match r with
  | .code e fr => (match e with
    | .normal => f fr
    | _ => g)
  | .val _ => g
def onExit (r : Res) (id : Nat) (f : Fr → Option Ans) (g : Option Ans) : Option Ans :=
  match r with
  | .code e fr => (match e with
    | .exit i => (match Nat.beq i id with
      | true => f fr
      | false => g)
    | _ => g)
  | .val _ => g
def onVal (r : Res) (f : Value → Option Ans) : Option Ans :=
  match r with
  | .val v => f v
  | .code _ _ => none
def onDone (r : Res) (f : Fr → Option Ans) : Option Ans :=
  match r with
  | .code e fr => (match e with
    | .normal => f fr
    | .ret => f fr
    | _ => none)
  | .val _ => none

def tick' (st : Option Book) : Option Book :=
  match st with
  | some (b, _ :: is, ss, rs) => some (b, is, ss, rs)
  | st => st

/-- Past an operation that its guard leaves out: a chained one leaves its stamp all the same. -/
def skipped (op : Op) (c : Nat) (st : Option Book) : Option Book :=
  match st with
  | some (b, _ :: is, ss, rs) => (match cls op with
    | .c => some (b, is, ss ++ [c], rs)
    | .s => some (b, is, ss ++ [c], rs)
    | _ => some (b, is, ss, rs))
  | st => st

/-- Behind a chained operation that began at the stamp c. -/
def chained (st : Option Book) (c : Nat) (h : Hp) (f : Option Book → Option Ans) : Option Ans :=
  match st with
  | none => f none
  | some (b, _ :: is, ss, rs) => (match recsOk h rs ss.length with
    | true => f (some (b, is, ss ++ [c], rs))
    | false => none)
  | some _ => none

def doP (E : Env) (self : Self) (all : List Oper) (o : Oper) (rest : List Oper) (st : Option Book) (fr : Fr) (h : Hp) (k : Kont) : Option Ans :=
  match quiet E o fr.val none with
  | some v => fV v fun v => fr.putK o.dst v fun fr => self (.ops all rest (tick' st) fr) h k
  | none => none

def addRec (h : Hp) (b : Option Nat) (m : Nat) (rs : List (Nat × Nat × Nat)) : List (Nat × Nat × Nat) :=
  match b with
  | some b => (match h.ver b with
    | some v => (b, v, m) :: rs
    | none => rs)
  | none => rs
def readBook (h : Hp) (b : Option Nat) (st : Option Book) (f : Option Book → Option Ans) : Option Ans :=
  match st with
  | none => f none
  | some (b0, (kk, m) :: is, ss, rs) => (match readOk h b ss kk with
    | true => f (some (b0, is, ss, addRec h b m rs))
    | false => none)
  | some _ => none
def blkAt (h : Hp) (b : Option Nat) : Option Blk :=
  match b with
  | some b => h.get b
  | none => none
def doQ (E : Env) (self : Self) (all : List Oper) (o : Oper) (rest : List Oper) (st : Option Book) (fr : Fr) (h : Hp) (k : Kont) : Option Ans :=
  match quiet E o fr.val (blkAt h (reads fr.val o.op)) with
  | some v => readBook h (reads fr.val o.op) st fun st => fV v fun v => fr.putK o.dst v fun fr => self (.ops all rest st fr) h k
  | none => none

def lay (all rest : List Oper) (st : Option Book) (h : Hp) (B : Blk) (f : Nat → Option Book → Hp → Option Ans) : Option Ans :=
  match st with
  | none => h.newK B fun b h => f b none h
  | some (b, _ :: is, ss, rs) => fN (Nat.add b (Nat.sub (Nat.sub all.length rest.length) 1)) fun id => h.putK id B fun h => f id (some (b, is, ss, rs)) h
  | some _ => none
def doA (E : Env) (self : Self) (all : List Oper) (o : Oper) (rest : List Oper) (st : Option Book) (fr : Fr) (h : Hp) (k : Kont) : Option Ans :=
  match laid E o.op fr.val with
  | some (B, f) => forceB B fun B => lay all rest st h B fun id st h => fV (f id) fun v => fr.putK o.dst v fun fr => self (.ops all rest st fr) h k
  | none => none

def writeVal (op : Op) : Value :=
  match op with
  | .call _ => .tuple #[]
  | _ => undef
def doS (E : Env) (self : Self) (all : List Oper) (o : Oper) (rest : List Oper) (st : Option Book) (fr : Fr) (h : Hp) (k : Kont) : Option Ans :=
  match writes fr.val o.op with
  | some b => (match written E o.op fr.val (h.get b) with
    | some B => forceB B fun B => h.putK b B fun h' => fr.putK o.dst (writeVal o.op) fun fr =>
      chained st h.clk h' fun st => self (.ops all rest st fr) h' k
    | none => none)
  | none => none

def behindCall (self : Self) (all : List Oper) (o : Oper) (rest : List Oper) (st : Option Book) (fr : Fr) (c : Nat) (k : Kont) : Kont := fun r h' =>
  onVal r fun v => fr.putK o.dst v fun fr => chained st c h' fun st => self (.ops all rest st fr) h' k
def doFn (self : Self) (all : List Oper) (o : Oper) (rest : List Oper) (st : Option Book) (fr : Fr) (args : List Value) (fn : Fn) (first caps : List Value) (h : Hp) (k : Kont) : Option Ans :=
  match fn with
  | .func g => fGs (first ++ args ++ caps) fun as => self (.call g as) h (behindCall self all o rest st fr h.clk k)
  | .yield l => fGs (first ++ args) fun as => self (.round l as) h (behindCall self all o rest st fr h.clk k)
  | _ => none
def doCall (E : Env) (self : Self) (all : List Oper) (o : Oper) (rest : List Oper) (st : Option Book) (fr : Fr) (c : Call) (h : Hp) (k : Kont) : Option Ans :=
  match c.callee with
  | .value f => (match fr.val f with
    | .func fn first caps => doFn self all o rest st fr (c.args.toList.map fr.val) fn first.toList caps.toList h k
    | _ => none)
  | .builtin .append => appendK E c.argTypes.toList (c.args.toList.map fr.val) h fun v h' =>
      fV v fun v => fr.putK o.dst v fun fr => chained st h.clk h' fun st => self (.ops all rest st fr) h' k
  | .builtin .copy => copyK E c.argTypes.toList (c.args.toList.map fr.val) h fun v h' =>
      fV v fun v => fr.putK o.dst v fun fr => chained st h.clk h' fun st => self (.ops all rest st fr) h' k
  | _ => none
def doC (E : Env) (self : Self) (all : List Oper) (o : Oper) (rest : List Oper) (st : Option Book) (fr : Fr) (h : Hp) (k : Kont) : Option Ans :=
  match o.op with
  | .call c => doCall E self all o rest st fr c h k
  | .mapEntry t m key => (match ptrB (fr.val m) with
    | some b => (match mapEntryA E t (fr.val m) (fr.val key) (h.get b) with
      | some (B, v) => forceB B fun B => h.putK b B fun h' => fV v fun v => fr.putK o.dst v fun fr =>
        chained st h.clk h' fun st => self (.ops all rest st fr) h' k
      | none => none)
    | none => none)
  | _ => none

def doV (self : Self) (all : List Oper) (o : Oper) (rest : List Oper) (st : Option Book) (fr : Fr) (h : Hp) (k : Kont) (v : Option Value) : Option Ans :=
  match v with
  | some v => fV v fun v => fr.putK o.dst v fun fr => self (.ops all rest (tick' st) fr) h k
  | none => none
def doVf (self : Self) (all : List Oper) (o : Oper) (rest : List Oper) (st : Option Book) (fr : Fr) (h : Hp) (k : Kont) (v : Value) : Option Ans :=
  fr.putK o.dst v fun fr => self (.ops all rest (tick' st) fr) h k
def doR (self : Self) (all : List Oper) (o : Oper) (rest : List Oper) (st : Option Book) (fr : Fr) (h : Hp) (k : Kont) (b : Option Nat) (v : Option Value) : Option Ans :=
  match v with
  | some v => readBook h b st fun st => fV v fun v => fr.putK o.dst v fun fr => self (.ops all rest st fr) h k
  | none => none
def doL (self : Self) (all : List Oper) (o : Oper) (rest : List Oper) (st : Option Book) (fr : Fr) (h : Hp) (k : Kont) (x : Option (Blk × (Nat → Value))) : Option Ans :=
  match x with
  | some (B, f) => forceB B fun B => lay all rest st h B fun id st h => fV (f id) fun v => fr.putK o.dst v fun fr => self (.ops all rest st fr) h k
  | none => none
def doW (self : Self) (all : List Oper) (o : Oper) (rest : List Oper) (st : Option Book) (fr : Fr) (h : Hp) (k : Kont) (v : Value) (b : Option Nat) (f : Option Blk → Option Blk) : Option Ans :=
  match b with
  | some b => (match f (h.get b) with
    | some B => forceB B fun B => h.putK b B fun h' => fr.putK o.dst v fun fr =>
      chained st h.clk h' fun st => self (.ops all rest st fr) h' k
    | none => none)
  | none => none
def doSpec (E : Env) (self : Self) (all : List Oper) (o : Oper) (rest : List Oper) (st : Option Book) (fr : Fr) (h : Hp) (k : Kont) : Option Ans :=
  match cls o.op with
  | .p => doP E self all o rest st fr h k
  | .q => doQ E self all o rest st fr h k
  | .a => doA E self all o rest st fr h k
  | .s => doS E self all o rest st fr h k
  | .c => doC E self all o rest st fr h k
def doBuiltin (E : Env) (self : Self) (all : List Oper) (o : Oper) (rest : List Oper) (st : Option Book) (fr : Fr) (c : Call) (h : Hp) (k : Kont) (b : Builtin) : Option Ans :=
  match b with
  | .len => doR self all o rest st fr h k (readsB c fr.val) (lenA E c.argTypes.toList (c.args.toList.map fr.val) (blkAt h (readsB c fr.val)))
  | .max => doV self all o rest st fr h k (maxA E c.argTypes o.type (c.args.toList.map fr.val))
  | .min => doV self all o rest st fr h k (minA E c.argTypes o.type (c.args.toList.map fr.val))
  | .clear => doW self all o rest st fr h k (.tuple #[]) (writesB c fr.val) (writtenB E c fr.val)
  | _ => doCall E self all o rest st fr c h k
def doWanted (E : Env) (self : Self) (all : List Oper) (o : Oper) (rest : List Oper) (st : Option Book) (fr : Fr) (h : Hp) (k : Kont) : Option Ans :=
  match o.op with
  | .move x => doVf self all o rest st fr h k (fr.val x)
  | .assign x => doVf self all o rest st fr h k (fr.val x)
  | .pick c a b => doV self all o rest st fr h k (pickA (fr.val c) (fr.val a) (fr.val b))
  | .load t a => doR self all o rest st fr h k (ptrB (fr.val a)) (loadA E t (fr.val a) (blkAt h (ptrB (fr.val a))))
  | .nilCheck x => doV self all o rest st fr h k (nilCheckA (fr.val x))
  | .binOp op t x y _ => doV self all o rest st fr h k (binA E op t x y (fr.val x) (fr.val y))
  | .fieldAddr s x f => doV self all o rest st fr h k (fieldAddrA E s (fr.val x) f)
  | .field s x f => doV self all o rest st fr h k (fieldA E s (fr.val x) f)
  | .indexAddr t x i => doV self all o rest st fr h k (indexA E t (fr.val x) (fr.val i))
  | .extract t i => doV self all o rest st fr h k (extractA (fr.val t) i)
  | .store t a x => doW self all o rest st fr h k undef (ptrB (fr.val a)) (storeA E t (fr.val a) (fr.val x))
  | .box _ x => doL self all o rest st fr h k (boxA (fr.val x))
  | .alloc t => doL self all o rest st fr h k (allocA E t)
  | .buildSlice t len parts => doL self all o rest st fr h k (buildSliceA E t len (parts.toList.map fun p => (p.1, fr.val p.2)))
  | .call c => (match c.callee with
    | .builtin b => doBuiltin E self all o rest st fr c h k b
    | _ => doCall E self all o rest st fr c h k)
  | _ => doSpec E self all o rest st fr h k
theorem doWanted_eq (E : Env) (self : Self) (all : List Oper) (o : Oper) (rest : List Oper) (st : Option Book) (fr : Fr) (h : Hp) (k : Kont) :
    doWanted E self all o rest st fr h k = doSpec E self all o rest st fr h k := by
  obtain ⟨d, op, ty, pos, aft, gd⟩ := o
  cases op <;> try rfl
  case move => simp [doWanted, doVf, doSpec, cls, doP, quiet]
  case assign => simp [doWanted, doVf, doSpec, cls, doP, quiet]
  case call c =>
    obtain ⟨callee, args, tys⟩ := c
    cases callee with
    | value f => rfl
    | invoke r m => rfl
    | builtin b => cases b <;> rfl
def doOps (E : Env) (self : Self) (all l : List Oper) (st : Option Book) (fr : Fr) (h : Hp) (k : Kont) : Option Ans :=
  match l with
  | [] => k (.code .normal fr) h
  | o :: rest => (match wantedA all fr o with
    | none => none
    | some w => (match w with
      | false => fr.putK o.dst undef fun fr => self (.ops all rest (skipped o.op h.clk st) fr) h k
      | true => doWanted E self all o rest st fr h k))

def loopDone (l : Nat) (fr : Fr) (k : Kont) : Kont := fun r h => onVal r fun _ =>
  match h.get l with
  | some (.loop st pending tm sz ps a b d) => (match st with
    | .busy => none
    | _ => h.putK l (.loop .exhausted pending tm sz ps a b d) fun h => (match pending with
      | none => k (.code .normal fr) h
      | some c => (match c with
        | .ret => k (.code .ret fr) h
        | .exit id => k (.code (.exit id) fr) h
        | _ => none)))
  | _ => none
def doRange (self : Self) (g : FuncId) (first caps : List Value) (ps : List Tmp) (assign body : Code) (fr : Fr) (h : Hp) (k : Kont) : Option Ans :=
  match fr.round with
  | none => h.newK .defd fun d h => h.newK (.loop .ready none fr.tm fr.sz ps assign body d) fun l h =>
      self (.call g (first ++ [.func (.yield l) #[] #[]] ++ caps)) h (loopDone l ⟨fr.tm, fr.sz, d :: fr.marks, none⟩ k)
  | some l0 => (match h.get l0 with
    | some (.loop _ _ _ _ _ _ _ d) => h.newK (.loop .ready none fr.tm fr.sz ps assign body d) fun l h =>
        self (.call g (first ++ [.func (.yield l) #[] #[]] ++ caps)) h (loopDone l fr k)
    | _ => none)
def doRangeFn (self : Self) (f : Value) (ps : List Tmp) (assign body : Code) (fr : Fr) (h : Hp) (k : Kont) : Option Ans :=
  match f with
  | .func fn first caps => (match fn with
    | .func g => doRange self g first.toList caps.toList ps assign body fr h k
    | _ => none)
  | _ => none
def doRegion (self : Self) (ops : List Oper) (draw : Bool) (fr : Fr) (h : Hp) (k : Kont) : Option Ans :=
  match draw with
  | false => self (.ops ops ops none fr) h k
  | true => (match Nat.blt (Nat.add h.next ops.length) (nat_lit 4611686018427387904) with
    | true => fN (Nat.add h.next ops.length) fun nx => self (.ops ops ops (some (h.next, drawInfo ops, [], [])) fr) ⟨nx, h.clk, h.t⟩ k
    | false => none)
def doCode (E : Env) (self : Self) (c : Code) (fr : Fr) (h : Hp) (k : Kont) : Option Ans :=
  match c with
  | .skip => k (.code .normal fr) h
  | .label _ => k (.code .normal fr) h
  | .seq a b => self (.code a fr) h fun r h => onNormal r (fun fr => self (.code b fr) h k) (k r h)
  | .cond c a b => (match fr.val c with
    | .bool t => (match t with
      | true => self (.code a fr) h k
      | false => self (.code b fr) h k)
    | _ => none)
  | .block id b => self (.code b fr) h fun r h => onExit r id (fun fr => k (.code .normal fr) h) (k r h)
  | .loop b => self (.code b fr) h fun r h => onNormal r (fun fr => self (.code (.loop b) fr) h k) (k r h)
  | .scope b => self (.code b fr) h k
  | .exit id => k (.code (.exit id) fr) h
  | .ret => k (.code .ret fr) h
  | .region id ops d => doRegion self (ordOf E.odd id d ops.toList) d fr h k
  | .rangeFunc f ps assign body => doRangeFn self (fr.val f) ps.toList assign body fr h k
  | .goto _ => none
  | .refuse _ => none

def oneOrTuple (vs : List Value) : Value :=
  match vs with
  | [] => .tuple ⟨[]⟩
  | v :: rest => (match rest with
    | [] => v
    | _ :: _ => .tuple ⟨vs⟩)
def leave (E : Env) (fn : Func) (k : Kont) : Kont := fun r h => onDone r fun fr =>
  match resultsA E fr h fn.results.toList with
  | some vs => closeMarks fr.marks h fun h => fV (oneOrTuple vs) fun v => k (.val v) h
  | none => none
def enterBody (E : Env) (self : Self) (fn : Func) (c : Code) (args : List Value) (h : Hp) (k : Kont) : Option Ans :=
  match codeOk E c && !(fn.name == "runtime.NumGoroutine") && Nat.ble args.length fn.ntmps && Nat.blt fn.ntmps (nat_lit 2147483647) with
  | true => setArgs 0 args .nil fun tm => self (.code c ⟨tm, fn.ntmps, [], none⟩) h (leave E fn k)
  | false => none
def doEnter (E : Env) (self : Self) (f : FuncId) (args : List Value) (h : Hp) (k : Kont) : Option Ans :=
  match E.fn.get f with
  | some fn => (match fn.body with
    | some c => enterBody E self fn c args h k
    | none => none)
  | none => none

def roundFin (l : Nat) (jump : Option Code) (go : Bool) (h : Hp) (k : Kont) : Option Ans :=
  match h.get l with
  | some (.loop _ _ tm sz ps assign body d) =>
    h.putK l (.loop (match go with | true => .ready | false => .done) jump tm sz ps assign body d) fun h => k (.val (.bool go)) h
  | _ => none
def roundEnd (l : Nat) (k : Kont) : Kont := fun r h =>
  match r with
  | .code e _ => (match e with
    | .normal => roundFin l none true h k
    | .ret => roundFin l (some .ret) false h k
    | .exit id => roundFin l (some (.exit id)) false h k
    | _ => none)
  | .val _ => none
def roundBody (self : Self) (l : Nat) (bd : Code) (k : Kont) : Kont := fun r h => onNormal r (fun fr =>
  match h.get l with
  | some (.loop st pd tm sz ps assign body d) => (match st with
    | .ready => h.putK l (.loop .busy pd tm sz ps assign body d) fun h => self (.code bd fr) h (roundEnd l k)
    | _ => none)
  | _ => none) none
def doRound (E : Env) (self : Self) (l : Nat) (args : List Value) (h : Hp) (k : Kont) : Option Ans :=
  match h.get l with
  | some (.loop _ _ tm sz ps assign body _) => (match codeOk E assign && codeOk E body with
    | true => setParams ps args sz tm fun tm => self (.code assign ⟨tm, sz, [], some l⟩) h (roundBody self l body k)
    | false => none)
  | _ => none

def step (E : Env) (self : Self) (t : Task) (h : Hp) (k : Kont) : Option Ans :=
  match t with
  | .code c fr => doCode E self c fr h k
  | .ops all l st fr => doOps E self all l st fr h k
  | .call f args => doEnter E self f args h k
  | .round l args => doRound E self l args h k
def ev (E : Env) (n : Nat) : Self :=
  Nat.rec (motive := fun _ => Self) (fun _ _ _ => none) (fun _ ih => step E ih) n
end
end Go.Ai
