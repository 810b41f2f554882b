/- The relation of the abstract heap to the machine, and the single operations. No conditions. -/
import Derived.Test.YthgfbokfaidklaaGreatDoorAiA
import Derived.RangeFuncRecord
import Derived.OrdersIn
import Derived.Below
import Derived.Laws.IdiomCopy
import Derived.Laws.Cells
set_option linter.all false
namespace Go.Ai
noncomputable section

structure RB where
  blk : Nat
  off : Nat
  cap : Nat

/-- An integer that is not known: a token stands for it, whose block bears it (by its capacity). -/
def dec (n : Nat) : Int := if n % 2 = 0 then Int.ofNat (n / 2) else Int.negSucc (n / 2)
def enc (i : Int) : Nat := match i with
  | .ofNat n => 2 * n
  | .negSucc n => 2 * n + 1
/-- The remainder, from 0 on. -/
def turnI (n k : Int) : Int := if Int.tmod n k < 0 then Int.tmod n k + k else Int.tmod n k
def ca (j : Nat → RB) (a : Addr) : Addr := ⟨(j a.block).blk, (j a.block).off + a.off, a.spot⟩
def cf (j : Nat → RB) : Fn → Fn
  | .yield l => .yield (j l).blk
  | f => f
def ccap (j : Nat → RB) (b c : Nat) : Nat := if c < OPEN then c else (j b).cap - un c
mutual
def conc (j : Nat → RB) : Value → Value
  | .pointer (some a) => .pointer (some (ca j a))
  | .slice (some a) l c => .slice (some (ca j a)) l (ccap j a.block c)
  | .map (some r) => .map (some (j r).blk)
  | .func fn first caps => .func (cf j fn) (concA j first) (concA j caps)
  | .iface t v => .iface t (conc j v)
  | .agg cs => .agg (concA j cs)
  | .tuple vs => .tuple (concA j vs)
  | .bool b => .bool b
  | .int k n => .int k n
  | .float k b => .float k b
  | .complex k r i => .complex k r i
  | .string s => .string s
  | .pointer none => .pointer none
  | .slice none l c => .slice none l c
  | .map none => .map none
  | .chan none => .chan none
  | .chan (some r) => .int .i64 (dec (j r).cap)
  | .nilFunc => .nilFunc
  | .nilIface => .nilIface
def concA (j : Nat → RB) : Array Value → Array Value
  | ⟨l⟩ => ⟨concL j l⟩
def concL (j : Nat → RB) : List Value → List Value
  | [] => []
  | v :: l => conc j v :: concL j l
end
theorem concL_eq (j : Nat → RB) (l : List Value) : concL j l = l.map (conc j) := by
  induction l with
  | nil => rfl
  | cons v l ih => simp [concL, ih]
@[simp] theorem conc_agg (j : Nat → RB) (cs : Array Value) : conc j (.agg cs) = .agg ⟨cs.toList.map (conc j)⟩ := by
  obtain ⟨l⟩ := cs; simp [conc, concA, concL_eq]
@[simp] theorem conc_tuple (j : Nat → RB) (cs : Array Value) : conc j (.tuple cs) = .tuple ⟨cs.toList.map (conc j)⟩ := by
  obtain ⟨l⟩ := cs; simp [conc, concA, concL_eq]
@[simp] theorem conc_func (j : Nat → RB) (fn : Fn) (a b : Array Value) : conc j (.func fn a b) = .func (cf j fn) ⟨a.toList.map (conc j)⟩ ⟨b.toList.map (conc j)⟩ := by
  obtain ⟨l⟩ := a; obtain ⟨m⟩ := b; simp [conc, concA, concL_eq]
@[simp] theorem conc_undef (j : Nat → RB) : conc j undef = undef := by simp [undef]
@[simp] theorem conc_bool (j : Nat → RB) (b : Bool) : conc j (.bool b) = .bool b := rfl
@[simp] theorem conc_int (j : Nat → RB) (k : IntKind) (n : Int) : conc j (.int k n) = .int k n := rfl
@[simp] theorem conc_string (j : Nat → RB) (s : ByteArray) : conc j (.string s) = .string s := rfl
@[simp] theorem conc_ptr (j : Nat → RB) (b o : Nat) : conc j (.pointer (some ⟨b, o, none⟩)) = .pointer (some ⟨(j b).blk, (j b).off + o, none⟩) := rfl
@[simp] theorem conc_ptr' (j : Nat → RB) (a : Addr) : conc j (.pointer (some a)) = .pointer (some (ca j a)) := rfl
@[simp] theorem conc_nilptr (j : Nat → RB) : conc j (.pointer none) = .pointer none := rfl
@[simp] theorem conc_slice (j : Nat → RB) (a : Addr) (l c : Nat) : conc j (.slice (some a) l c) = .slice (some (ca j a)) l (ccap j a.block c) := rfl
@[simp] theorem conc_nilslice (j : Nat → RB) (l c : Nat) : conc j (.slice none l c) = .slice none l c := rfl
@[simp] theorem conc_map (j : Nat → RB) (r : Nat) : conc j (.map (some r)) = .map (some (j r).blk) := rfl
@[simp] theorem conc_nilmap (j : Nat → RB) : conc j (.map none) = .map none := rfl
@[simp] theorem conc_chan (j : Nat → RB) (r : Nat) : conc j (.chan (some r)) = .int .i64 (dec (j r).cap) := rfl
@[simp] theorem conc_nilFunc (j : Nat → RB) : conc j .nilFunc = .nilFunc := rfl
@[simp] theorem conc_nilIface (j : Nat → RB) : conc j .nilIface = .nilIface := rfl

theorem conc_scalarFree (j : Nat → RB) {v : Value} (h : scalarFree v = true) : conc j v = v := by
  unfold scalarFree at h; split at h <;> first | rfl | cases h
theorem conc_addrFree (j : Nat → RB) {v : Value} (h : addrFree v = true) : conc j v = v := by
  unfold addrFree at h
  split at h
  · rename_i cs
    rw [conc_agg]
    obtain ⟨l⟩ := cs
    simp only [List.all_eq_true] at h
    have : l.map (conc j) = l := by
      conv => rhs; rw [← List.map_id l]
      exact List.map_congr_left fun v hv => conc_scalarFree j (h v hv)
    simp [this]
  · exact conc_scalarFree j h

/-- A value that speaks of blocks of D alone. -/
def Sc (D : Nat → Prop) (v : Value) : Prop := ∀ j j' : Nat → RB, (∀ b, D b → j' b = j b) → conc j' v = conc j v
theorem Sc.mono {D D' : Nat → Prop} {v : Value} (h : Sc D v) (hm : ∀ b, D b → D' b) : Sc D' v := fun j j' e => h j j' fun b hb => e b (hm b hb)
theorem Sc.of_addrFree {D : Nat → Prop} {v : Value} (h : addrFree v = true) : Sc D v := fun j j' _ => by rw [conc_addrFree j h, conc_addrFree j' h]
theorem Sc.undef (D : Nat → Prop) : Sc D Go.undef := fun _ _ _ => by simp
theorem Sc.ptr {D : Nat → Prop} {b : Nat} (o : Nat) (h : D b) : Sc D (.pointer (some ⟨b, o, none⟩)) := fun j j' e => by simp [ca, e b h]

theorem vcells_conc (j : Nat → RB) (v : Value) : (conc j v).cells.toList = (vcells v).map (conc j) := by
  cases v with
  | agg cs => simp [Value.cells, vcells]
  | pointer a => cases a <;> simp [Value.cells, vcells]
  | slice a l c => cases a <;> simp [Value.cells, vcells]
  | map r => cases r <;> simp [Value.cells, vcells]
  | chan r => cases r <;> simp [Value.cells, vcells, conc]
  | _ => simp [Value.cells, vcells, conc]
theorem cells_conc (j : Nat → RB) (v : Value) : (conc j v).cells = ⟨(vcells v).map (conc j)⟩ := by
  rw [← vcells_conc]

/-! ### The relation -/
def concE (j : Nat → RB) (e : MapEntry) : MapEntry := { key := conc j e.key, val := conc j e.val, born := e.born }
def tmv (tm : Tr Value) (t : Nat) : Value := match tm.get t with
  | some v => v
  | none => undef
structure TmAt (j : Nat → RB) (tm : Tr Value) (sz : Nat) (tmps : Array Value) : Prop where
  size : tmps.size = sz
  small : sz < 2 ^ 31
  val : ∀ t, tmps.getD t undef = conc j (tmv tm t)

def BlkAt (j : Nat → RB) (rb : RB) (w : World) : Blk → Prop
  | .cells rw g cs =>
    (∀ i v, cs[i]? = some v → w.cell? ⟨rb.blk, rb.off + i, none⟩ = some (conc j v) ∧ (rw = true → w.frozen? ⟨rb.blk, rb.off + i, none⟩ = false)) ∧
    (∀ s, g = s + 1 → cs.length ≤ rb.cap * s ∧
      ∀ i, cs.length ≤ i → i < rb.cap * s → (w.cell? ⟨rb.blk, rb.off + i, none⟩).isSome = true ∧ w.frozen? ⟨rb.blk, rb.off + i, none⟩ = false)
  | .map es c => w.heap[rb.blk]? = some (.map ⟨es.map (concE j)⟩ c)
  | .loop st pd tm sz ps a b d => ∃ fn tmps, w.heap[rb.blk]? = some (.loop { state := st, pending := pd, fn := fn, tmps := tmps, params := ⟨ps⟩, assign := a, body := b, defers := (j d).blk }) ∧ TmAt j tm sz tmps
  | .defd => w.heap[rb.blk]? = some (.deferred (some []))
  | .dead => True
  | .res k c => 1 ≤ k ∧ k ≤ 1000 ∧ turnI (dec rb.cap) k = (c : Int)
def BlkSc (D : Nat → Prop) : Blk → Prop
  | .cells _ _ cs => ∀ v ∈ cs, Sc D v
  | .map es _ => ∀ e ∈ es, Sc D e.key ∧ Sc D e.val
  | .loop _ _ tm _ _ _ _ d => (∀ t, Sc D (tmv tm t)) ∧ D d
  | .defd => True
  | .dead => True
  | .res _ _ => True
theorem BlkSc.mono {D D' : Nat → Prop} {x : Blk} (h : BlkSc D x) (hm : ∀ b, D b → D' b) : BlkSc D' x := by
  cases x with
  | cells rw g cs => exact fun v hv => (h v hv).mono hm
  | map es c => exact fun e he => ⟨(h e he).1.mono hm, (h e he).2.mono hm⟩
  | loop a b c d e f g i => exact ⟨fun t => (h.1 t).mono hm, hm _ h.2⟩
  | defd => trivial
  | dead => trivial
  | res => trivial

/-- A number that a block has been laid under (it may be dead). -/
def Hp.born (h : Hp) (b : Nat) : Prop := h.t.get b ≠ none
def Blk.live : Blk → Prop
  | .dead => False
  | .res _ _ => False
  | _ => True
structure Inv (G : Nat) (j : Nat → RB) (h : Hp) (w : World) : Prop where
  top : h.next < 2 ^ 62
  glob : ∀ g, g < G → h.born g ∧ (j g).blk = g ∧ (j g).off = 0
  low : ∀ b v x, h.t.get b = some (v, x) → b < h.next ∧ v ≤ h.clk ∧ (x.live → (j b).blk < w.heap.size) ∧ BlkAt j (j b) w x ∧ BlkSc h.born x
  inj : ∀ b b' v v' x x', h.t.get b = some (v, x) → h.t.get b' = some (v', x') → x.live → x'.live → b ≠ b' → (j b).blk ≠ (j b').blk
end
end Go.Ai
namespace Go.Ai
noncomputable section

structure EnvOk (E : Env) : Prop where
  ty : ∀ t i, E.ty.get t = some i → E.P.info? t = some i
  fn : ∀ f x, E.fn.get f = some x → E.P.funcs[f]? = some x
  mixed : E.P.follows .mixedOrders = true

variable {E : Env} (hE : EnvOk E)
include hE

theorem und_ok {t : TypeId} {d : TypeDesc} (h : E.und t = some d) : E.P.underlying t = some d := by
  unfold Env.und at h
  unfold Program.underlying
  split at h
  · rename_i u _ _ _ _ _ _ _ _ hi
    rw [hE.ty _ _ hi]
    simp only [Option.map_eq_some_iff] at h
    obtain ⟨i, hi', rfl⟩ := h
    simp [hE.ty _ _ hi']
  · rename_i i hn hi
    rw [hE.ty _ _ hi]
    cases h
    cases hd : i.desc <;> simp [hd]
  · cases h
theorem run_und {t : TypeId} {d : TypeDesc} (h : E.und t = some d) (w : World) : (underlying t).run E.P w = .ok d w := by
  simp [underlying, und_ok hE h]
theorem size_ok {t : TypeId} {n : Nat} (h : E.size t = some n) (w : World) : (sizeOf t).run E.P w = .ok n w := by
  unfold Env.size at h
  simp only [Option.map_eq_some_iff] at h
  obtain ⟨i, hi, rfl⟩ := h
  simp [sizeOf, typeInfo, hE.ty _ _ hi]
theorem bytes_ok {t : TypeId} {n : Nat} (h : E.bytes t = some n) : ∃ i, E.P.info? t = some i ∧ i.bytes = n := by
  unfold Env.bytes at h
  simp only [Option.map_eq_some_iff] at h
  obtain ⟨i, hi, rfl⟩ := h
  exact ⟨i, hE.ty _ _ hi, rfl⟩
theorem zero_ok {t : TypeId} {z : Value} (h : E.zero t = some z) (w : World) : (zeroValue t).run E.P w = .ok z w ∧ addrFree z = true := by
  unfold Env.zero at h
  split at h
  · rename_i i hi
    split at h
    · rename_i z' hz
      split at h
      · rename_i ha
        cases h
        simp [zeroValue, typeInfo, hE.ty _ _ hi, hz, ha]
      · cases h
    · cases h
  · cases h
theorem agg_ok {t : TypeId} {b : Bool} (h : E.agg t = some b) (w : World) : (isAgg t).run E.P w = .ok b w := by
  unfold Env.agg at h
  split at h
  · cases h; simp [isAgg, run_und hE ‹_›]
  · cases h; simp [isAgg, run_und hE ‹_›]
  · rename_i d h1 h2 hd
    cases h
    have : (underlying t).run E.P w = .ok d w := run_und hE hd w
    simp only [isAgg, Sem.run_bind, this, Result.andThen_ok]
    cases d <;> simp_all
  · cases h
omit hE in
theorem cut_ok {α : Type} {l r : List α} {off n : Nat} (h : cut l off n = some r) : r = (l.drop off).take n ∧ r.length = n := by
  induction l generalizing off n r with
  | nil =>
    rw [cut_nil] at h
    split at h
    · cases h; subst_vars; simp
    · cases h
  | cons x l ih =>
    cases off with
    | zero =>
      cases n with
      | zero => rw [cut_zero0] at h; cases h; simp
      | succ n =>
        rw [cut_zero] at h
        simp only [Option.map_eq_some_iff] at h
        obtain ⟨r', h', rfl⟩ := h
        obtain ⟨e, el⟩ := ih h'
        simp at e
        simp [e, el]; simpa [e] using el
    | succ o =>
      rw [cut_succ] at h
      simpa using ih h
omit hE in
theorem cut_get {α : Type} {l r : List α} {off n : Nat} (h : cut l off n = some r) (i : Nat) (v : α) (hi : r[i]? = some v) : l[off + i]? = some v := by
  obtain ⟨e, el⟩ := cut_ok h
  rw [e, List.getElem?_take] at hi
  split at hi
  · rwa [List.getElem?_drop] at hi
  · cases hi
omit hE in
theorem cut_map {α β : Type} (f : α → β) {l r : List α} {off n : Nat} (h : cut l off n = some r) : ((l.map f).drop off).take n = r.map f := by
  obtain ⟨e, el⟩ := cut_ok h
  rw [e]; simp [List.map_take, List.map_drop]

theorem part_ok {t : TypeId} {cs : List Value} {off : Nat} {v : Value} (h : part E t cs off = some v) (j : Nat → RB) (w : World) :
    (Go.part t ⟨cs.map (conc j)⟩ off).run E.P w = .ok (conc j v) w := by
  unfold part at h
  split at h
  · rename_i ha
    split at h
    · rename_i n hn
      split at h
      · rename_i l hl
        cases h
        simp only [Go.part, Sem.run_bind, agg_ok hE ha, Result.andThen_ok, size_ok hE hn, if_true, Sem.run_pure, conc_agg]
        obtain ⟨e, el⟩ := cut_ok hl
        congr 2
        apply Array.ext'
        simp [← cut_map (conc j) hl, List.take_drop]
      · cases h
    · cases h
  · rename_i ha
    rw [nth_eq] at h
    simp [Go.part, agg_ok hE ha, h]
  · cases h
omit hE in
theorem part_sc {t : TypeId} {cs : List Value} {off : Nat} {v : Value} {n : Nat → Prop} (h : part E t cs off = some v) (hs : ∀ v ∈ cs, Sc n v) : Sc n v := by
  unfold part at h
  split at h
  · split at h
    · split at h
      · rename_i l hl
        cases h
        intro j j' e
        rw [conc_agg, conc_agg]
        have : l.map (conc j') = l.map (conc j) := List.map_congr_left fun x hx => by
          obtain ⟨i, hi, rfl⟩ := List.getElem_of_mem hx
          exact hs _ (List.mem_of_getElem? (cut_get hl i _ (List.getElem?_eq_getElem hi))) j j' e
        simp [this]
      · cases h
    · cases h
  · rw [nth_eq] at h
    exact hs _ (List.mem_of_getElem? h)
  · cases h
/-- A load, out of a block's cells. -/
theorem load_ok {t : TypeId} {a v : Value} {B : Option Blk} (h : loadA E t a B = some v) (j : Nat → RB) (w : World)
    (hB : ∀ b, ptrB a = some b → ∀ x, B = some x → BlkAt j (j b) w x) : (Instr.loadAt t (conc j a)).run E.P w = .ok (conc j v) w := by
  unfold loadA at h
  split at h
  · rename_i p
    split at h
    · rename_i b off s
      split at h
      · split at h
        · rename_i x
          split at h
          · rename_i rw g cs
            have hc := (hB b rfl _ rfl).1
            unfold part at h
            split at h
            · rename_i ha
              split at h
              · rename_i n hn
                split at h
                · rename_i l hl
                  cases h
                  have hl' : l.length = n := (cut_ok hl).2
                  have hr := run_loadCells_list (P := E.P) (w := w) ⟨(j b).blk, (j b).off + off, none⟩ (l.map (conc j)) (fun i u hu => by
                    simp only [List.getElem?_map, Option.map_eq_some_iff] at hu
                    obtain ⟨u', hu', rfl⟩ := hu
                    have := (hc _ _ (cut_get hl i u' hu')).1
                    simp only [Addr.add]
                    split
                    · subst_vars; simpa using this
                    · rw [show (j b).off + off + i = (j b).off + (off + i) by omega]; exact this)
                  rw [List.length_map, hl'] at hr
                  simp only [conc_ptr, Instr.loadAt, Instr.sureAddr, Sem.run_bind, Sem.run_pure, Result.andThen_ok, loadVar, agg_ok hE ha, if_true, size_ok hE hn, hr, conc_agg]
                · cases h
              · cases h
            · rename_i ha
              rw [nth_eq] at h
              have := (hc _ _ h).1
              simp [Instr.loadAt, Instr.sureAddr, loadVar, agg_ok hE ha, conc_ptr, ca, this]
            · cases h
          · cases h
        · cases h
      · cases h
    · cases h
  · cases h
omit hE in
theorem load_sc {t : TypeId} {a v : Value} {B : Option Blk} {n : Nat → Prop} (h : loadA E t a B = some v) (hB : ∀ x, B = some x → BlkSc n x) : Sc n v := by
  unfold loadA at h
  split at h
  · split at h
    · split at h
      · split at h
        · split at h
          · exact part_sc h (hB _ rfl)
          · cases h
        · cases h
      · cases h
    · cases h
  · cases h
omit hE in
theorem pureVal_run {α : Type} {P : Program} {s : Sem α} {a : α} (h : pureVal P s = some a) (w : World) : s.run P w = .ok a w := by
  induction s with
  | pure x => simp only [pureVal] at h; cases h; rfl
  | program k ih => simp only [pureVal] at h; simp only [Sem.run]; exact ih _ h
  | _ => simp [pureVal] at h
omit hE in
theorem pureV_run {P : Program} {s : Sem Value} {v : Value} (h : pureV P s = some v) (w : World) : s.run P w = .ok v w ∧ addrFree v = true := by
  unfold pureV at h
  split at h
  · rename_i x hx
    split at h
    · cases h; exact ⟨pureVal_run hx w, ‹_›⟩
    · cases h
  · cases h

theorem binNil_ok {op : BinOp} {t : TypeId} {xo yo : Operand} {x y v : Value} (h : binNil E op t x y = some v) (j : Nat → RB) (w : World) :
    (do eqGuard op t xo yo (conc j x) (conc j y); binOp op t (conc j x) (conc j y) : Sem Value).run E.P w = .ok (conc j v) w := by
  unfold binNil at h
  split at h
  · rename_i d hd
    split at h
    · rename_i b hb
      have key : ∀ op : BinOp, eqGuard op t xo yo (conc j x) (conc j y) = pure () ∧ (Op.equal t (conc j x) (conc j y)).run E.P w = .ok b w ∧
          binOp .eql t (conc j x) (conc j y) = (do pure (.bool (← Op.equal t (conc j x) (conc j y)))) ∧
          binOp .neq t (conc j x) (conc j y) = (do pure (.bool (!(← Op.equal t (conc j x) (conc j y))))) := by
        intro op
        unfold nilness at hb
        have hu := run_und hE hd w
        have he : ∀ x y, Op.equal t x y = Op.equalIn (9999 + 1) t x y := fun _ _ => rfl
        split at hb <;> cases hb <;>
          (refine ⟨by first | (simp [eqGuard_at_pointer]; done) | (simp [eqGuard_at_nilFunc]; done) | (simp [eqGuard_at_func]; done) | (simp [eqGuard_at_slice]; done) | (simp [eqGuard_at_map]; done), ?_, ?_, ?_⟩) <;>
          first
          | (simp [binOp]; done)
          | (rw [he]; unfold Op.equalIn; simp [hu, ca]; done)
          | (rename_i o; rw [he]; unfold Op.equalIn; cases o <;> simp [hu, ca]; done)
          | (rename_i b _ _; rw [he]; unfold Op.equalIn; cases b <;> simp [hu, ca]; done)
          | (rename_i b _ _; cases b <;> simp [binOp]; done)
          | (rename_i b; cases b <;> simp [binOp]; done)
      obtain ⟨h1, h2, h3, h4⟩ := key op
      split at h
      · cases h; simp [h1, h3, h2]
      · cases h; simp [h1, h4, h2]
      · cases h
    · cases h
  · cases h
end
end Go.Ai
namespace Go.Ai
noncomputable section
variable {E : Env} (hE : EnvOk E)
include hE

theorem binSlow_ok {op : BinOp} {t : TypeId} {xo yo : Operand} {x y v : Value} (h : binSlow E op t xo yo x y = some v) (j : Nat → RB) (w : World) :
    (do eqGuard op t xo yo (conc j x) (conc j y); binOp op t (conc j x) (conc j y) : Sem Value).run E.P w = .ok (conc j v) w := by
  unfold binSlow at h
  split at h
  · rename_i ha
    simp only [Bool.and_eq_true] at ha
    obtain ⟨h1, h2⟩ := pureV_run h w
    rw [conc_addrFree j ha.1, conc_addrFree j ha.2, conc_addrFree j h2]
    exact h1
  · exact binNil_ok hE h j w
theorem binII_ok {op : BinOp} {t : TypeId} {xo yo : Operand} {k k' : IntKind} {a b : Int} {v : Value} (h : binII E op t xo yo k k' a b = some v) (j : Nat → RB) (w : World) :
    (do eqGuard op t xo yo (.int k a) (.int k' b); binOp op t (.int k a) (.int k' b) : Sem Value).run E.P w = .ok (conc j v) w := by
  unfold binII at h
  split at h
  · rename_i hk
    rw [eqK_eq] at hk
    have hk : k = k' := by simpa using hk
    subst hk
    split at h
    · rename_i u hu
      cases h
      rw [eqGuard_at_int]
      unfold binInt at hu
      split at hu <;> cases hu <;> simp [binOp, Op.intArith, Op.intCmp, wrapI_eq, eqI_eq, ltI_eq] <;> first | rfl | (rw [Bool.eq_iff_iff]; simp [Int.not_lt]; done) | skip
    · exact binSlow_ok hE h j w
  · exact binSlow_ok hE h j w
theorem binA_ok {op : BinOp} {t : TypeId} {xo yo : Operand} {x y v : Value} (h : binA E op t xo yo x y = some v) (j : Nat → RB) (w : World) :
    (do eqGuard op t xo yo (conc j x) (conc j y); binOp op t (conc j x) (conc j y) : Sem Value).run E.P w = .ok (conc j v) w := by
  unfold binA at h
  split at h
  · split at h
    · exact binII_ok hE h j w
    · exact binSlow_ok hE h j w
  · exact binSlow_ok hE h j w
omit hE in
theorem pickA_ok {c a b v : Value} (h : pickA c a b = some v) (j : Nat → RB) (w : World) (P : Program) :
    (do pure (.value (if ← asBool (conc j c) then conc j a else conc j b)) : Sem Next).run P w = .ok (.value (conc j v)) w := by
  unfold pickA at h
  split at h
  · cases h; rename_i t; cases t <;> simp [asBool]
  · cases h
omit hE in
theorem unA_ok {op : UnOp} {x v : Value} (h : unA E op x = some v) (j : Nat → RB) (w : World) : (Op.unary op (conc j x)).run E.P w = .ok (conc j v) w := by
  unfold unA at h
  split at h
  · rename_i ha
    obtain ⟨h1, h2⟩ := pureV_run h w
    rw [conc_addrFree j ha, conc_addrFree j h2]; exact h1
  · cases h
theorem convertA_ok {src dst : TypeId} {x v : Value} (h : convertA E src dst x = some v) (j : Nat → RB) (w : World) : (convert src dst (conc j x)).run E.P w = .ok (conc j v) w := by
  unfold convertA at h
  split at h
  · split at h
    · rename_i d hd
      split at h
      · split at h
        · rename_i k d' hd'
          cases h
          simp [convert, run_und hE hd, run_und hE hd', Conv.intToInt, wrapI_eq]
        · cases h
      · cases h
    · cases h
  · cases h
omit hE in
theorem bound_ok {v : Value} {y i : Nat} (h : bound v y = some i) : ∃ k, v = .int k i ∧ i ≤ y := by
  unfold bound at h
  split at h
  · split at h
    · cases h; rename_i hb; exact ⟨_, rfl, by simpa using hb⟩
    · cases h
  · cases h
omit hE in
theorem sliceBound_ok {v : Value} {y i : Nat} (h : bound v y = some i) (code : BoundsCode) (j : Nat → RB) (P : Program) (w : World) {Y : Nat} (hY : y ≤ Y) :
    (Instr.sliceBound (conc j v) Y code).run P w = .ok i w := by
  obtain ⟨k, rfl, hi⟩ := bound_ok h
  simp only [Instr.sliceBound, conc_int, asIntOf, Sem.run_bind, Sem.run_pure, Result.andThen_ok]
  rw [if_pos ⟨by omega, by omega⟩]
  simp
omit hE in
theorem bounds_ok {len C l hh : Nat} {cap m : Option Nat} {lo hi mx : Option Value} (h : bounds len cap lo hi mx = some (l, hh, m)) (isS : Bool)
    (hC : ∀ c, cap = some c → C = c) (hN : cap = none → len ≤ C) (j : Nat → RB) (P : Program) (w : World) :
    (Instr.sliceBounds isS len C (lo.map (conc j)) (hi.map (conc j)) (mx.map (conc j))).run P w = .ok (l, hh, m.getD C) w ∧ l ≤ hh ∧
      (m = none → cap = none ∧ (hi = none → hh = len) ∧ (hh ≤ len)) ∧ (cap ≠ none → m ≠ none) := by
  unfold bounds at h
  split at h
  · cases h
  · rename_i m' hm
    split at h
    · cases h
    · rename_i h' hh'
      split at h
      · cases h
      · rename_i l' hl
        cases h
        have e1 : ∃ M, (match mx.map (conc j) with | some v => Instr.sliceBound v C (if isS then .slice3Acap else .slice3Alen) | none => pure C : Sem Nat).run P w = .ok M w ∧ M = m.getD C ∧ (m = none → cap = none ∧ mx = none) ∧ (cap ≠ none → m ≠ none) := by
          unfold boundMax at hm
          split at hm
          · rename_i v
            split at hm
            · rename_i mm hb
              cases hm
              refine ⟨mm, ?_, rfl, by simp, by simp⟩
              simp only [Option.map_some]
              refine sliceBound_ok hb _ j P w ?_
              cases cap with
              | some c => simp [hC c rfl]
              | none => exact hN rfl
            · cases hm
          · cases hm
            cases cap with
            | some c => exact ⟨C, by simp, by simp [hC c rfl], by simp, by simp⟩
            | none => exact ⟨C, by simp, by simp, by simp, by simp⟩
        obtain ⟨M, hM, hMe, hMn, hMc⟩ := e1
        have e2 : (match hi.map (conc j), mx.map (conc j) with
            | some v, some _ => Instr.sliceBound v M .slice3B
            | some v, none => Instr.sliceBound v M (if isS then .sliceAcap else .sliceAlen)
            | none, none => pure len
            | none, some _ => stuck "Slice: max without high" : Sem Nat).run P w = .ok hh w ∧ (m = none → (hi = none → hh = len) ∧ hh ≤ len) := by
          unfold boundHigh at hh'
          split at hh'
          · rename_i v
            have hle : (match (generalizing := false) m with | some c => c | none => len) ≤ M := by
              rw [hMe]
              cases hm' : m with
              | some c => simp
              | none => simp; exact hN (hMn hm').1
            have hb : m = none → hh ≤ len := fun e => by
              obtain ⟨_, _, hi⟩ := bound_ok hh'
              rw [e] at hi; exact hi
            cases mx with
            | some x => exact ⟨sliceBound_ok hh' _ j P w hle, fun e => ⟨by simp, hb e⟩⟩
            | none => exact ⟨sliceBound_ok hh' _ j P w hle, fun e => ⟨by simp, hb e⟩⟩
          · cases mx with
            | some x => simp at hh'
            | none => simp at hh'; subst hh'; exact ⟨by simp, fun _ => ⟨by simp, Nat.le_refl _⟩⟩
        obtain ⟨hH, hHn⟩ := e2
        have e3 : (match lo.map (conc j) with
            | some v => Instr.sliceBound v hh (if (mx.map (conc j)).isSome then .slice3C else .sliceB)
            | none => pure 0 : Sem Nat).run P w = .ok l w ∧ l ≤ hh := by
          unfold boundLow at hl
          split at hl
          · obtain ⟨_, _, hi⟩ := bound_ok hl
            exact ⟨sliceBound_ok hl _ j P w (Nat.le_refl _), hi⟩
          · cases hl; exact ⟨by simp, Nat.zero_le _⟩
        obtain ⟨hL, hLle⟩ := e3
        refine ⟨?_, hLle, fun e => ⟨(hMn e).1, hHn e⟩, hMc⟩
        clear hm hh' hl hMn hMc hHn
        rw [← hMe]
        clear hMe hC hN
        cases mx <;> cases hi <;> cases lo <;> simp only [Option.map_some, Option.map_none, Sem.run_pure, Result.ok.injEq, and_true, Option.isSome_some, Option.isSome_none, if_true, Bool.false_eq_true, if_false] at hM hH hL ⊢ <;>
          first
          | (simp only [Instr.sliceBounds, Sem.run_bind, Sem.run_pure, Option.map_some, Option.map_none, hM, hH, hL, Result.andThen_ok, Option.isSome_some, Option.isSome_none, if_true, Bool.false_eq_true, if_false]; done)
          | skip
omit hE in
theorem conc_sliceOf (j : Nat → RB) (b off size l h m : Nat) (hm : m - l < OPEN) :
    conc j (sliceOf b off size l h m) = .slice (some (if m = l then ⟨(j b).blk, (j b).off + off, none⟩ else ⟨(j b).blk, (j b).off + (off + l * size), none⟩)) (h - l) (m - l) := by
  unfold sliceOf
  cases hb : Nat.beq m l with
  | true =>
    have : m = l := Nat.eq_of_beq_eq_true hb
    subst this
    simp [conc_slice, ca, ccap, OPEN]
  | false =>
    have : ¬ m = l := fun e => by subst e; simp at hb
    simp only [conc_slice, ca, ccap, this, if_false]
    rw [if_pos (show m.sub l < OPEN from hm)]
    rfl
omit hE in
theorem bounds_le {len l hh m : Nat} {cap : Option Nat} {lo hi mx : Option Value} (hb : bounds len cap lo hi mx = some (l, hh, some m)) : m ≤ cap.getD len := by
  unfold bounds at hb
  split at hb
  · cases hb
  · rename_i m' hm'
    split at hb
    · cases hb
    · split at hb
      · cases hb
      · cases hb
        unfold boundMax at hm'
        split at hm'
        · split at hm'
          · rename_i q hq
            cases hm'
            obtain ⟨_, _, hi⟩ := bound_ok hq
            cases cap <;> simpa using hi
          · cases hm'
        · cases hm'; exact Nat.le_refl _
omit hE in
theorem add_off (b o n : Nat) : (⟨b, o, none⟩ : Addr).add n = ⟨b, o + n, none⟩ := by
  simp only [Addr.add]; split <;> simp_all
theorem sliceA_ok {t : TypeId} {x v : Value} {lo hi mx : Option Value} {B : Option Blk} (h : sliceA E t x lo hi mx B = some v) (j : Nat → RB) (w : World)
    (hB : ∀ b, openB x = some b → ∀ y, B = some y → BlkAt j (j b) w y) :
    (Instr.sliceAt t (conc j x) (lo.map (conc j)) (hi.map (conc j)) (mx.map (conc j))).run E.P w = .ok (conc j v) w := by
  unfold sliceA at h
  split at h
  · rename_i n elem b off hd
    split at h
    · rename_i size l hh m hsz hb hn
      cases h
      have hn : n < OPEN := by simpa [Nat.blt_eq] using hn
      obtain ⟨h1, h2, h3, h4⟩ := bounds_ok hb false (C := n) (fun c e => by cases e; rfl) (by simp) j E.P w
      have hm := bounds_le hb
      simp at hm
      rw [conc_sliceOf j b off size l hh m (by omega)]
      simp only [Instr.sliceAt, Sem.run_bind, run_und hE hd, Result.andThen_ok, conc_ptr, Instr.sureAddr, Sem.run_pure, h1, size_ok hE hsz, Option.getD_some]
      rw [add_off, Nat.add_assoc]
    · cases h
  · rename_i elem b off len cap hd
    split at h
    · rename_i size hsz hc
      have hc : cap < OPEN := by simpa [Nat.blt_eq] using hc
      split at h
      · rename_i l hh m hb
        cases h
        obtain ⟨h1, h2, h3, h4⟩ := bounds_ok hb true (C := cap) (fun c e => by cases e; rfl) (by simp) j E.P w
        have hm := bounds_le hb
        simp at hm
        rw [conc_sliceOf j b off size l hh m (by omega)]
        simp only [Instr.sliceAt, Instr.slice, Sem.run_bind, run_und hE hd, Result.andThen_ok, conc_slice, ca, ccap, if_pos hc, Sem.run_pure, h1, size_ok hE hsz, Option.getD_some, Option.map_some]
        rw [add_off, Nat.add_assoc]
        split <;> rfl
      · cases h
    · rename_i size hsz hc
      have hc : ¬ cap < OPEN := by
        intro hlt
        have : Nat.blt cap OPEN = true := by simpa [Nat.blt_eq] using hlt
        rw [this] at hc; cases hc
      have fits : openFits B size len cap = true → len ≤ (j b).cap - un cap := by
        intro hf
        unfold openFits at hf
        split at hf
        · rename_i rw_ g cs
          simp only [Bool.and_eq_true] at hf
          obtain ⟨⟨hg, hl⟩, h1⟩ := hf
          have hg : g = size + 1 := Nat.eq_of_beq_eq_true hg
          have hl : (un cap + len) * size ≤ cs.length := Nat.le_of_ble_eq_true hl
          have h1 : 1 ≤ size := Nat.le_of_ble_eq_true h1
          have hbl : Nat.blt cap OPEN = false := by cases hq : Nat.blt cap OPEN with | false => rfl | true => exact absurd (by simpa [Nat.blt_eq] using hq) hc
          have hb' := (hB b (by simp [openB, hbl]) _ rfl).2 size hg
          have := Nat.le_trans hl hb'.1
          have h2 : un cap + len ≤ (j b).cap := Nat.le_of_mul_le_mul_right this h1
          omega
        · cases hf
      split at h
      · rename_i l hh m hfit hb
        split at h
        · rename_i hmo
          cases h
          have hmo : m < OPEN := by simpa [Nat.blt_eq] using hmo
          have hC := fits hfit
          obtain ⟨h1, h2, h3, h4⟩ := bounds_ok hb true (C := ccap j b cap) (fun c e => by cases e) (fun _ => by simp only [ccap, if_neg hc]; exact hC) j E.P w
          rw [conc_sliceOf j b off size l hh m (by omega)]
          simp only [Instr.sliceAt, Instr.slice, Sem.run_bind, run_und hE hd, Result.andThen_ok, conc_slice, ca, Sem.run_pure, h1, size_ok hE hsz, Option.getD_some, Option.map_some]
          rw [add_off, Nat.add_assoc]
          split <;> rfl
        · cases h
      · rename_i l hh hfit hb
        split at h
        · rename_i hlt
          cases h
          have hlt : l < len := by simpa [Nat.blt_eq] using hlt
          have hC := fits hfit
          obtain ⟨h1, h2, h3, h4⟩ := bounds_ok hb true (C := ccap j b cap) (fun c e => by cases e) (fun _ => by simp only [ccap, if_neg hc]; exact hC) j E.P w
          have hcl : ¬ cap + l < OPEN := by omega
          have e0 : ccap j b cap = (j b).cap - un cap := by unfold ccap; rw [if_neg hc]
          have e1 : ccap j b (cap + l) = ccap j b cap - l := by
            rw [e0]; unfold ccap; rw [if_neg hcl, un_add hc]; omega
          rw [← e0] at hC
          generalize hCC : ccap j b cap = C at h1 hC e1
          have hne : ¬ (C = l) := by omega
          simp only [Instr.sliceAt, Instr.slice, Sem.run_bind, run_und hE hd, Result.andThen_ok, conc_slice, ca, Sem.run_pure, hCC, e1, h1, size_ok hE hsz, Option.getD_none, Option.map_some, if_neg hne]
          rw [add_off, Nat.add_assoc]
        · cases h
      · cases h
    · cases h
  · rename_i elem len cap hd
    split at h
    · rename_i hsz l hh m _ hs hb
      cases h
      obtain ⟨h1, h2, h3, h4⟩ := bounds_ok hb true (C := cap) (fun c e => by cases e; rfl) (by simp) j E.P w
      simp only [Instr.sliceAt, Instr.slice, Sem.run_bind, run_und hE hd, Result.andThen_ok, conc_nilslice, Sem.run_pure, h1, size_ok hE hs, Option.getD_some, Option.map_none]
      simp
    · cases h
  · cases h
end
end Go.Ai
namespace Go.Ai
noncomputable section
variable {E : Env} (hE : EnvOk E)
include hE

omit hE in
theorem nilCheckA_ok {x v : Value} (h : nilCheckA x = some v) (j : Nat → RB) (w : World) (P : Program) (o : Oper) (ρ : Operand → Value) (y : Operand)
    (ho : o.op = .nilCheck y) (hy : ρ y = x) : (execOp (fun x => conc j (ρ x)) o).run P w = .ok (.value (conc j v)) w := by
  unfold execOp
  rw [ho]
  simp only [hy]
  unfold nilCheckA at h
  split at h
  · split at h
    · cases h; simp
    · cases h
  · split at h
    · cases h; simp [cf]
    · cases h
  · cases h
theorem fieldsOf_ok {s : TypeId} {f : Nat} {fd : Field} (h : fieldsOf E s f = some fd) : ∃ fields, E.und s = some (.struct fields) ∧ fields[f]? = some fd := by
  unfold fieldsOf at h
  split at h
  · split at h
    · rename_i fields hd
      rw [nth_eq] at h
      exact ⟨fields, by assumption, by simpa using h⟩
    · cases h
  · cases h
theorem fieldAddrA_ok {s : TypeId} {x v : Value} {f : Nat} (h : fieldAddrA E s x f = some v) (j : Nat → RB) (w : World) :
    (Instr.fieldAt s (conc j x) f).run E.P w = .ok (conc j v) w := by
  unfold fieldAddrA at h
  split at h
  · rename_i fd hfd
    obtain ⟨fields, hu, hf⟩ := fieldsOf_ok hE hfd
    split at h
    · split at h
      · split at h
        · split at h
          · rename_i n hn
            split at h
            · cases h
            · cases h
              simp [Instr.fieldAt, run_und hE hu, hf, Instr.sureAddr, fieldPlace, size_ok hE hn, ca, add_off, Nat.add_assoc]
          · cases h
        · cases h
      · cases h
    · cases h
  · cases h
theorem fieldA_ok {s : TypeId} {x v : Value} {f : Nat} (h : fieldA E s x f = some v) (j : Nat → RB) (w : World) :
    (Instr.field s (conc j x) f).run E.P w = .ok (conc j v) w := by
  unfold fieldA at h
  split at h
  · rename_i fd hfd
    obtain ⟨fields, hu, hf⟩ := fieldsOf_ok hE hfd
    split at h
    · simp [Instr.field, run_und hE hu, hf, asAgg, part_ok hE h]
    · cases h
  · cases h
theorem indexPtr_ok {elem : TypeId} {b off len : Nat} {i : Int} {v : Value} (h : indexPtr E elem b off len i = some v) (j : Nat → RB) :
    ∃ s, E.size elem = some s ∧ 0 ≤ i ∧ i < len ∧ conc j v = .pointer (some ⟨(j b).blk, (j b).off + (off + i.toNat * s), none⟩) := by
  unfold indexPtr at h
  split at h
  · rename_i i
    split at h
    · rename_i hl
      split at h
      · rename_i s hs
        cases h
        have hl : i < len := by simpa [Nat.blt_eq] using hl
        exact ⟨s, hs, by simp, by simpa using hl, by simp [ca]⟩
      · cases h
    · cases h
  · cases h
theorem indexA_ok {t : TypeId} {x i v : Value} (h : indexA E t x i = some v) (j : Nat → RB) (w : World) :
    (Instr.indexAt t (conc j x) (conc j i)).run E.P w = .ok (conc j v) w := by
  unfold indexA at h
  split at h
  · rename_i hd
    obtain ⟨s, hs, h0, h1, e⟩ := indexPtr_ok hE h j
    rw [e]
    simp [Instr.indexAt, asIntOf, run_und hE hd, Instr.sureAddr, ca, h0, h1, size_ok hE hs, add_off, Nat.add_assoc]
  · rename_i hd
    obtain ⟨s, hs, h0, h1, e⟩ := indexPtr_ok hE h j
    rw [e]
    simp [Instr.indexAt, asIntOf, run_und hE hd, ca, h0, h1, size_ok hE hs, add_off, Nat.add_assoc]
  · cases h
theorem indexV_ok {t : TypeId} {x i v : Value} (h : indexV E t x i = some v) (j : Nat → RB) (w : World) :
    (Instr.index t (conc j x) (conc j i)).run E.P w = .ok (conc j v) w := by
  unfold indexV at h
  split at h
  · rename_i len elem cs k i hd
    split at h
    · rename_i s hl hs
      have hl : i < len := by simpa [Nat.blt_eq] using hl
      have := part_ok hE h j w
      simp only [Nat.mul_eq] at this
      simp [Instr.index, asIntOf, run_und hE hd, hl, size_ok hE hs, this]
    · cases h
  · obtain ⟨h1, h2⟩ := pureV_run h w
    rw [conc_addrFree j h2, conc_string, conc_int]; exact h1
  · cases h
omit hE in
theorem extractA_ok {t v : Value} {i : Nat} (h : extractA t i = some v) (j : Nat → RB) (w : World) (P : Program) : (Instr.extract (conc j t) i).run P w = .ok (conc j v) w := by
  unfold extractA at h
  split at h
  · rw [nth_eq] at h
    simp only [conc_tuple, Instr.extract]
    simp only [List.getElem?_toArray, List.getElem?_map]
    rw [h]
    simp
  · cases h
omit hE in
theorem makeFuncA_ok {fn : Fn} {first caps : List Value} {v : Value} (h : makeFuncA fn first caps = some v) (j : Nat → RB) :
    conc j v = .func fn ⟨first.map (conc j)⟩ ⟨caps.map (conc j)⟩ := by
  unfold makeFuncA at h
  split at h
  · cases h; simp [cf]
  · cases h
omit hE in
theorem splice_cons {cs cs' : List Value} {o : Nat} {r : Value} {rs : List Value} (h : splice cs o (r :: rs) = some cs') :
    o < cs.length ∧ splice (cs.set o r) (o + 1) rs = some cs' := by
  induction cs generalizing o cs' with
  | nil => simp [splice] at h
  | cons x l ih =>
    cases o with
    | zero =>
      simp only [splice, Option.map_eq_some_iff] at h
      obtain ⟨l', hl, rfl⟩ := h
      refine ⟨by simp, ?_⟩
      cases rs with
      | nil => simp [splice] at hl ⊢; exact hl
      | cons y ys => simp [splice, hl]
    | succ o =>
      simp only [splice, Option.map_eq_some_iff] at h
      obtain ⟨l', hl, rfl⟩ := h
      obtain ⟨h1, h2⟩ := ih hl
      refine ⟨by simpa using h1, ?_⟩
      cases rs with
      | nil => simp [splice] at h2 ⊢; exact h2
      | cons y ys => simp [splice, h2]
omit hE in
theorem splice_nil (cs : List Value) (o : Nat) : splice cs o [] = some cs := by cases cs <;> simp [splice]
omit hE in
theorem splice_map (f : Value → Value) {cs cs' : List Value} {o : Nat} {rs : List Value} (h : splice cs o rs = some cs') : splice (cs.map f) o (rs.map f) = some (cs'.map f) := by
  induction rs generalizing cs o with
  | nil => rw [splice_nil] at h; cases h; simp [splice_nil]
  | cons r rs ih =>
    clear ih
    induction cs generalizing o cs' rs r with
    | nil => simp [splice] at h
    | cons x l ih =>
      cases o with
      | zero =>
        simp only [splice, Option.map_eq_some_iff] at h
        obtain ⟨l', hl, rfl⟩ := h
        cases rs with
        | nil => rw [splice_nil] at hl; cases hl; simp [splice, splice_nil]
        | cons y ys => have := ih _ _ hl; simp [splice] at this ⊢; exact this
      | succ o =>
        simp only [splice, Option.map_eq_some_iff] at h
        obtain ⟨l', hl, rfl⟩ := h
        have := ih _ _ hl
        simp [splice] at this ⊢
        exact this
omit hE in
theorem splice_len {cs cs' : List Value} {o : Nat} {rs : List Value} (h : splice cs o rs = some cs') : cs'.length = cs.length ∧ (rs ≠ [] → o + rs.length ≤ cs.length) := by
  induction rs generalizing cs o with
  | nil => rw [splice_nil] at h; cases h; simp
  | cons r rs ih =>
    obtain ⟨h1, h2⟩ := splice_cons h
    obtain ⟨h3, h4⟩ := ih h2
    simp at h3 h4
    refine ⟨h3, fun _ => ?_⟩
    cases rs with
    | nil => simp; omega
    | cons y ys => have := h4 (by simp); simp at this ⊢; omega
omit hE in
theorem foldl_splice (off : Nat) {cs cs' rs : List Value} {k : Nat} (h : splice cs (off + k) rs = some cs') :
    (rs.zipIdx k).foldl (fun (a : Array Value) (p : Value × Nat) => a.setIfInBounds (off + p.2) p.1) ⟨cs⟩ = ⟨cs'⟩ := by
  induction rs generalizing cs k with
  | nil => rw [splice_nil] at h; cases h; simp
  | cons r rs ih =>
    obtain ⟨h1, h2⟩ := splice_cons h
    simp only [List.zipIdx_cons, List.foldl_cons]
    rw [show (⟨cs⟩ : Array Value).setIfInBounds (off + k) r = ⟨cs.set (off + k) r⟩ by simp]
    exact ih (by rw [← Nat.add_assoc]; exact h2)
omit hE in
theorem fill_ok (place : Nat → Option (Nat × Nat)) (j : Nat → RB) {cells l : List Value} {parts : List (Nat × Value)} (h : fillA place cells parts = some l) :
    Instr.fill place ⟨cells.map (conc j)⟩ (parts.map fun p => (p.1, conc j p.2)) = some ⟨l.map (conc j)⟩ := by
  induction parts generalizing cells with
  | nil => simp [fillA] at h; subst h; simp [Instr.fill]
  | cons p rest ih =>
    obtain ⟨i, v⟩ := p
    simp only [fillA] at h
    split at h
    · cases h
    · rename_i off size hp
      split at h
      · rename_i hs
        simp only [Bool.and_eq_true] at hs
        obtain ⟨hs, ho⟩ := hs
        have hs : (vcells v).length = size := Nat.eq_of_beq_eq_true hs
        have ho : off ≤ cells.length := Nat.le_of_ble_eq_true ho
        split at h
        · rename_i cells' hc
          have hc' := splice_map (conc j) hc
          obtain ⟨hl1, hl2⟩ := splice_len hc
          have hb : ¬ (((conc j v).cells.size ≠ size || decide (off + (conc j v).cells.size > (⟨cells.map (conc j)⟩ : Array Value).size)) = true) := by
            rw [cells_conc]
            by_cases he : vcells v = []
            · simp [he] at hs ⊢; omega
            · have := hl2 he; simp [hs]; omega
          simp only [List.map_cons, Instr.fill, hp]
          rw [if_neg hb, ← ih h]
          congr 1
          rw [cells_conc]
          have := foldl_splice off (k := 0) hc'
          simpa using this
        · cases h
      · cases h
end
end Go.Ai
namespace Go.Ai
noncomputable section
variable {E : Env} (hE : EnvOk E)
include hE

theorem places_ok {fs : List Field} {ps : List (Nat × Nat)} (h : placesA E fs = some ps) (w : World) :
    (fs.mapM fun f => do pure (f.offset, ← sizeOf f.type) : Sem (List (Nat × Nat))).run E.P w = .ok ps w := by
  induction fs generalizing ps with
  | nil => simp [placesA] at h; subst h; simp
  | cons f fs ih =>
    simp only [placesA] at h
    split at h
    · rename_i s hs
      split at h
      · rename_i l hl
        cases h
        simp only [List.mapM_cons, Sem.run_bind, size_ok hE hs, Result.andThen_ok, Sem.run_pure, ih hl]
      · cases h
    · cases h
theorem zero_cells {t : TypeId} {z : Value} (h : E.zero t = some z) (j : Nat → RB) (w : World) : (zeroValue t).run E.P w = .ok z w ∧ z.cells = ⟨(vcells z).map (conc j)⟩ ∧ conc j z = z := by
  obtain ⟨h1, h2⟩ := zero_ok hE h w
  refine ⟨h1, ?_, conc_addrFree j h2⟩
  rw [← cells_conc, conc_addrFree j h2]
theorem buildA_ok {t : TypeId} {parts : List (Nat × Value)} {v : Value} (h : buildA E t parts = some v) (j : Nat → RB) (w : World) (ps : Array (Nat × Value))
    (hp : ps.toList = parts.map fun p => (p.1, conc j p.2)) : (Instr.build t ps).run E.P w = .ok (conc j v) w := by
  unfold buildA at h
  split at h
  · rename_i fields z hd hz
    obtain ⟨h1, h2, _⟩ := zero_cells hE hz j w
    split at h
    · rename_i pl hpl
      split at h
      · rename_i l hl
        cases h
        have hf := fill_ok (nth pl) j hl
        have hm := places_ok hE hpl w
        simp only [Instr.build, Sem.run_bind, h1, Result.andThen_ok, run_und hE hd, Array.mapM_eq_mapM_toList, Sem.run_map, hm, hp, h2]
        have hn : (fun x => (⟨pl⟩ : Array (Nat × Nat))[x]?) = nth pl := by funext x; simp [nth_eq]
        rw [hn, hf]
        simp
      · cases h
    · cases h
  · rename_i n elem z hd hz
    obtain ⟨h1, h2, _⟩ := zero_cells hE hz j w
    split at h
    · rename_i s hs
      split at h
      · rename_i l hl
        cases h
        have hf := fill_ok (fun i => some (i * s, s)) j hl
        simp only [Instr.build, Sem.run_bind, h1, Result.andThen_ok, run_und hE hd, size_ok hE hs, hp, h2]
        rw [hf]
        simp
      · cases h
    · cases h
  · cases h
omit hE in
theorem maxA_ok {tys : Array TypeId} {t : TypeId} {args : List Value} {v : Value} (h : maxA E tys t args = some v) (j : Nat → RB) (w : World) :
    (Builtin.max_ tys t ⟨args.map (conc j)⟩).run E.P w = .ok (conc j v) w := by
  unfold maxA at h
  split at h
  · rename_i ha
    obtain ⟨h1, h2⟩ := pureV_run h w
    rw [conc_addrFree j h2]
    have : args.map (conc j) = args := by
      conv => rhs; rw [← List.map_id args]
      exact List.map_congr_left fun v hv => conc_addrFree j (List.all_eq_true.1 ha v hv)
    rw [this]; exact h1
  · cases h
omit hE in
theorem minA_ok {tys : Array TypeId} {t : TypeId} {args : List Value} {v : Value} (h : minA E tys t args = some v) (j : Nat → RB) (w : World) :
    (Builtin.min_ tys t ⟨args.map (conc j)⟩).run E.P w = .ok (conc j v) w := by
  unfold minA at h
  split at h
  · rename_i ha
    obtain ⟨h1, h2⟩ := pureV_run h w
    rw [conc_addrFree j h2]
    have : args.map (conc j) = args := by
      conv => rhs; rw [← List.map_id args]
      exact List.map_congr_left fun v hv => conc_addrFree j (List.all_eq_true.1 ha v hv)
    rw [this]; exact h1
  · cases h
theorem lenA_ok {tys : Array TypeId} {t : TypeId} {args : List Value} {v : Value} {B : Option Blk} (h : lenA E tys.toList args B = some v) (j : Nat → RB) (w : World)
    (hB : ∀ a b, args = [a] → mapB a = some b → ∀ x, B = some x → BlkAt j (j b) w x) :
    (Builtin.len_ tys t ⟨args.map (conc j)⟩).run E.P w = .ok (conc j v) w := by
  unfold lenA at h
  split at h
  · rename_i a t0 ts hts
    have ht0 : tys[0]? = some t0 := by rw [← Array.getElem?_toList, hts]; rfl
    split at h
    · rename_i p n c
      split at h
      · rename_i hd
        cases h
        cases p <;> simp [Builtin.len_, ht0, run_und hE hd, goInt]
      · cases h
    · split at h
      · rename_i hd _
        cases h
        simp [Builtin.len_, ht0, run_und hE hd, goInt]
      · rename_i hd _
        cases h
        simp [Builtin.len_, ht0, run_und hE hd, goInt]
      · rename_i hd _
        cases h
        simp [Builtin.len_, ht0, run_und hE hd, goInt]
      · rename_i r es c hd _
        cases h
        have := hB _ r rfl rfl _ rfl
        simp only [BlkAt] at this
        simp [Builtin.len_, ht0, run_und hE hd, goInt, getObj, Sem.run, this]
      · cases h
  · cases h
end
end Go.Ai
namespace Go.Ai
noncomputable section
variable {E : Env} (hE : EnvOk E)

def era (e : MapEntry) : MapEntry := { e with val := undef }
theorem findNow_era (kd : TypeDesc) (k : Value) (es : List MapEntry) (i : Nat) :
    match Instr.findNow kd k es i with
    | none => Instr.findNow kd k (es.map era) i = none
    | some none => Instr.findNow kd k (es.map era) i = some none
    | some (some (n, v)) => Instr.findNow kd k (es.map era) i = some (some (n, undef)) ∧ ∃ m e, n = i + m ∧ es[m]? = some e ∧ e.val = v := by
  induction es generalizing i with
  | nil => simp [Instr.findNow]
  | cons e es ih =>
    simp only [Instr.findNow, List.map_cons, era]
    cases hs : Instr.sameNow kd k e.key with
    | none => simp
    | some b =>
      cases b with
      | true => exact ⟨rfl, 0, e, by simp, by simp, rfl⟩
      | false =>
        have := ih (i + 1)
        show (match Instr.findNow kd k es (i + 1) with
          | none => Instr.findNow kd k (es.map era) (i + 1) = none
          | some none => Instr.findNow kd k (es.map era) (i + 1) = some none
          | some (some (n, v)) => Instr.findNow kd k (es.map era) (i + 1) = some (some (n, undef)) ∧ ∃ m e', n = i + m ∧ (e :: es)[m]? = some e' ∧ e'.val = v)
        split <;> rename_i h <;> rw [h] at this
        · exact this
        · exact this
        · obtain ⟨h1, m, e', h2, h3, h4⟩ := this
          exact ⟨h1, m + 1, e', by omega, by simpa using h3, h4⟩
theorem pureVal_bind {α β : Type} (P : Program) (s : Sem α) (f : α → Sem β) : pureVal P (s >>= f) = (pureVal P s).bind fun a => pureVal P (f a) := by
  show pureVal P (s.bind f) = _
  induction s with
  | pure a => rfl
  | program k ih => simp only [Sem.bind, pureVal]; exact ih P
  | _ => rfl
theorem findAsking_era (P : Program) (kt : TypeId) (k : Value) (es : List MapEntry) (i : Nat) (r : Option (Nat × Value))
    (h : pureVal P (Instr.findAsking kt k (es.map era) i) = some r) :
    (∃ m e, r = some (i + m, undef) ∧ es[m]? = some e ∧ pureVal P (Instr.findAsking kt k es i) = some (some (i + m, e.val))) ∨
    (r = none ∧ pureVal P (Instr.findAsking kt k es i) = some none) := by
  induction es generalizing i with
  | nil =>
    simp only [List.map_nil, Instr.findAsking] at h ⊢
    have : some none = some r := h
    cases this
    exact .inr ⟨rfl, rfl⟩
  | cons e es ih =>
    simp only [List.map_cons, Instr.findAsking, pureVal_bind] at h ⊢
    have he : (era e).key = e.key := rfl
    rw [he] at h
    cases hq : pureVal P (Op.equal kt k e.key) with
    | none => rw [hq] at h; cases h
    | some b =>
      rw [hq] at h
      simp only [Option.bind_some] at h ⊢
      cases b with
      | true =>
        have : some (some (i, undef)) = some r := h
        cases this
        exact .inl ⟨0, e, by simp, by simp, by simp; rfl⟩
      | false =>
        simp only [Bool.false_eq_true, if_false] at h ⊢
        rcases ih (i + 1) h with ⟨m, e', h1, h2, h3⟩ | h1
        · exact .inl ⟨m + 1, e', by rw [h1]; congr 2; omega, by simpa using h2, by rw [h3]; congr 3; omega⟩
        · exact .inr h1
/-- A key is found where it is found among the same keys without their values. -/
theorem findA_ok {kt : TypeId} {k : Value} {es : List MapEntry} {r : Option (Nat × MapEntry)} (h : findA E kt k es = some r) (j : Nat → RB) (w : World) :
    conc j k = k ∧ (Instr.checkKey (es.map (concE j)).isEmpty 10000 kt k).run E.P w = .ok () w ∧
    (Instr.findKey kt k (es.map (concE j))).run E.P w = .ok (r.map fun p => (p.1, conc j p.2.val)) w ∧
    (∀ p, r = some p → es[p.1]? = some p.2 ∧ conc j p.2.key = p.2.key) := by
  unfold findA at h
  split at h
  · rename_i ha
    simp only [Bool.and_eq_true] at ha
    obtain ⟨hk, hes⟩ := ha
    have hkeys : ∀ e ∈ es, conc j e.key = e.key := fun e he => conc_addrFree j (List.all_eq_true.1 hes e he)
    have hera : (es.map (concE j)).map era = es.map era := by
      rw [List.map_map]
      exact List.map_congr_left fun e he => by simp [era, concE, hkeys e he]
    refine ⟨conc_addrFree j hk, ?_⟩
    have main : ∀ r0, pureVal E.P (do Instr.checkKey es.isEmpty 10000 kt k; Instr.findKey kt k (es.map era)) = some r0 →
        (Instr.checkKey (es.map (concE j)).isEmpty 10000 kt k).run E.P w = .ok () w ∧
        ((∃ m e, r0 = some (m, undef) ∧ es[m]? = some e ∧ (Instr.findKey kt k (es.map (concE j))).run E.P w = .ok (some (m, conc j e.val)) w) ∨
         (r0 = none ∧ (Instr.findKey kt k (es.map (concE j))).run E.P w = .ok none w)) := by
      intro r0 h0
      rw [pureVal_bind] at h0
      cases hc : pureVal E.P (Instr.checkKey es.isEmpty 10000 kt k) with
      | none => rw [hc] at h0; cases h0
      | some u =>
        rw [hc] at h0
        simp only [Option.bind_some] at h0
        refine ⟨by rw [show (es.map (concE j)).isEmpty = es.isEmpty by cases es <;> rfl]; exact pureVal_run hc w, ?_⟩
        unfold Instr.findKey at h0 ⊢
        rw [pureVal_bind] at h0
        cases hu : pureVal E.P (underlying kt) with
        | none => rw [hu] at h0; cases h0
        | some d =>
          rw [hu] at h0
          simp only [Option.bind_some] at h0
          have hN := findNow_era d k (es.map (concE j)) 0
          rw [hera] at hN
          simp only [Sem.run_bind, pureVal_run hu w, Result.andThen_ok]
          cases hn : Instr.findNow d k (es.map (concE j)) 0 with
          | none =>
            rw [hn] at hN
            rw [hN] at h0
            simp only [] at h0 ⊢
            rw [← hera] at h0
            rcases findAsking_era E.P kt k (es.map (concE j)) 0 r0 h0 with ⟨m, e, h1, h2, h3⟩ | ⟨h1, h2⟩
            · rw [List.getElem?_map] at h2
              simp only [Option.map_eq_some_iff] at h2
              obtain ⟨e', h2, rfl⟩ := h2
              exact .inl ⟨m, e', by simpa using h1, h2, by have := pureVal_run h3 w; simpa [concE] using this⟩
            · exact .inr ⟨h1, pureVal_run h2 w⟩
          | some x =>
            cases x with
            | none =>
              rw [hn] at hN
              simp only [] at hN
              rw [hN] at h0
              have : some none = some r0 := h0
              cases this
              exact .inr ⟨rfl, rfl⟩
            | some p =>
              obtain ⟨n, v⟩ := p
              rw [hn] at hN
              obtain ⟨h1, m, e, h2, h3, h4⟩ := hN
              rw [h1] at h0
              have : some (some (n, undef)) = some r0 := h0
              cases this
              rw [List.getElem?_map] at h3
              simp only [Option.map_eq_some_iff] at h3
              obtain ⟨e', h3, rfl⟩ := h3
              refine .inl ⟨m, e', by simp [h2], h3, ?_⟩
              simp [h2, ← h4, concE]
    split at h
    · rename_i i x hp
      obtain ⟨h1, h2⟩ := main _ hp
      refine ⟨h1, ?_⟩
      split at h
      · rename_i e he
        cases h
        rcases h2 with ⟨m, e', h3, h4, h5⟩ | ⟨h3, _⟩
        · cases h3
          rw [he] at h4
          cases h4
          exact ⟨by rw [h5]; rfl, fun p hp => by cases hp; exact ⟨he, hkeys _ (List.mem_of_getElem? he)⟩⟩
        · cases h3
      · cases h
    · rename_i hp
      cases h
      obtain ⟨h1, h2⟩ := main _ hp
      rcases h2 with ⟨m, e', h3, _, _⟩ | ⟨_, h3⟩
      · cases h3
      · exact ⟨h1, by rw [h3]; rfl, fun p hp => by cases hp⟩
    · cases h
  · cases h
end
end Go.Ai
namespace Go.Ai
noncomputable section
variable {E : Env} (hE : EnvOk E)
include hE

theorem lookupA_ok {t : TypeId} {m k v : Value} {ok : Bool} {B : Option Blk} (h : lookupA E t m k ok B = some v) (j : Nat → RB) (w : World)
    (hB : ∀ b, ptrB m = some b → ∀ x, B = some x → BlkAt j (j b) w x) : (Instr.lookup t (conc j m) (conc j k) ok).run E.P w = .ok (conc j v) w := by
  unfold lookupA at h
  split at h
  · rename_i kt elem hd
    have main : ∀ (es : List MapEntry) (r : Option (Nat × MapEntry)), findA E kt k es = some r →
        ((conc j m = .map none ∧ es = []) ∨ ∃ r c, conc j m = .map (some r) ∧ w.heap[r]? = some (.map ⟨es.map (concE j)⟩ c)) →
        (match r with
          | some (_, e) => some (if ok then .tuple #[e.val, .bool true] else e.val)
          | none => match E.zero elem with
            | some z => some (if ok then .tuple #[z, .bool false] else z)
            | none => none) = some v →
        (Instr.lookup t (conc j m) (conc j k) ok).run E.P w = .ok (conc j v) w := by
      intro es r hf hes hv
      obtain ⟨h1, h2, h3, h4⟩ := findA_ok hf j w
      have h2' : Sem.run E.P (Instr.checkKey (⟨es.map (concE j)⟩ : Array MapEntry).isEmpty 10000 kt k) w = .ok () w := by
        rw [← h2]; congr 2; simp [Array.isEmpty, List.isEmpty_iff]
        cases es <;> simp
      rcases hes with ⟨hm, rfl⟩ | ⟨r', c', hm, hh⟩
      · rw [h1, hm]
        simp only [List.map_nil] at h3 h2'
        cases r with
        | some p =>
          obtain ⟨i, e⟩ := p
          simp only [Option.some.injEq] at hv
          subst hv
          simp only [Instr.lookup, Sem.run_bind, run_und hE hd, Result.andThen_ok, Sem.run_pure]
          rw [h2']
          simp only [Result.andThen_ok]
          rw [h3]
          cases ok <;> simp
        | none =>
          simp only [] at hv
          split at hv
          · rename_i z hz
            obtain ⟨h5, h6, h7⟩ := zero_cells hE hz j w
            simp only [Option.some.injEq] at hv
            subst hv
            simp only [Instr.lookup, Sem.run_bind, run_und hE hd, Result.andThen_ok, Sem.run_pure]
            rw [h2']
            simp only [Result.andThen_ok]
            rw [h3]
            cases ok <;> simp [h5, h7]
          · cases hv
      · rw [h1, hm]
        have hg : (getObj r').run E.P w = .ok (.map ⟨es.map (concE j)⟩ c') w := by simp [getObj, Sem.run, hh]
        cases r with
        | some p =>
          obtain ⟨i, e⟩ := p
          simp only [Option.some.injEq] at hv
          subst hv
          simp only [Instr.lookup, Sem.run_bind, run_und hE hd, Result.andThen_ok, Sem.run_pure, hg]
          rw [h2']
          simp only [Result.andThen_ok]
          rw [h3]
          cases ok <;> simp
        | none =>
          simp only [] at hv
          split at hv
          · rename_i z hz
            obtain ⟨h5, h6, h7⟩ := zero_cells hE hz j w
            simp only [Option.some.injEq] at hv
            subst hv
            simp only [Instr.lookup, Sem.run_bind, run_und hE hd, Result.andThen_ok, Sem.run_pure, hg]
            rw [h2']
            simp only [Result.andThen_ok]
            rw [h3]
            cases ok <;> simp [h5, h7]
          · cases hv
    cases m with
    | map r =>
      cases r with
      | none =>
        simp only [] at h
        cases hf : findA E kt k [] with
        | none => rw [hf] at h; cases h
        | some r =>
          rw [hf] at h
          refine main [] r hf (.inl ⟨rfl, rfl⟩) ?_
          cases r with
          | none => exact h
          | some p => exact h
      | some b =>
        cases B with
        | none => simp at h
        | some x =>
          cases x with
          | map es c =>
            simp only [] at h
            have hm : w.heap[(j b).blk]? = some (.map ⟨es.map (concE j)⟩ c) := hB b rfl _ rfl
            cases hf : findA E kt k es with
            | none => rw [hf] at h; cases h
            | some r =>
              rw [hf] at h
              refine main es r hf (.inr ⟨_, c, rfl, hm⟩) ?_
              cases r with
              | none => exact h
              | some p => exact h
          | _ => simp at h
    | _ => simp at h
  · cases h
/-- EVERY QUIET OPERATION: what the evaluator says, the machine computes. -/
theorem quiet_ok {o : Oper} {ρ : Operand → Value} {B : Option Blk} {v : Value} (h : quiet E o ρ B = some v) (j : Nat → RB) (w : World)
    (hB : ∀ b, reads ρ o.op = some b → ∀ x, B = some x → BlkAt j (j b) w x) :
    (execOp (fun x => conc j (ρ x)) o).run E.P w = .ok (.value (conc j v)) w := by
  obtain ⟨d, op, ty, pos, aft, gd⟩ := o
  cases op <;> simp only [quiet] at h <;> try (cases h; done)
  case move x => cases h; simp [execOp]
  case assign x => cases h; simp [execOp]
  case pick c a b => simpa [execOp] using pickA_ok h j w E.P
  case load t a => simp [execOp, load_ok hE h j w (fun b hb x hx => hB b hb x hx)]
  case nilCheck x => exact nilCheckA_ok h j w E.P _ ρ x rfl rfl
  case binOp op t x y yt =>
    have := binA_ok hE h j w
    simp only [execOp, Sem.run_bind] at this ⊢
    rw [this]; rfl
  case unOp op t x => simp [execOp, unA_ok h j w]
  case convert s d x => simp [execOp, convertA_ok hE h j w]
  case makeFunc fn first caps => simp [execOp, Instr.makeFunc, makeFuncA_ok h j, ← Array.toList_map, Function.comp_def]
  case slice t x lo hi mx =>
    have := sliceA_ok hE h j w (fun b hb y hy => hB b hb y hy)
    simp only [Option.map_map] at this
    simp [execOp, Function.comp_def] at this ⊢
    simp [this]
  case fieldAddr s x f => simp [execOp, fieldAddrA_ok hE h j w]
  case field s x f => simp [execOp, fieldA_ok hE h j w]
  case indexAddr t x i => simp [execOp, indexA_ok hE h j w]
  case index t x i => simp [execOp, indexV_ok hE h j w]
  case build t parts =>
    have := buildA_ok hE h j w (parts.map fun p => (p.1, conc j (ρ p.2))) (by simp [Function.comp_def])
    simp [execOp, this]
  case extract t i => simp [execOp, extractA_ok h j w]
  case lookup t m k ok => simp [execOp, lookupA_ok hE h j w (fun b hb x hx => hB b hb x hx)]
  case call c =>
    obtain ⟨callee, args, tys⟩ := c
    simp only [quietB] at h
    cases callee with
    | value f => simp at h
    | invoke r m => simp at h
    | builtin b =>
      have hargs : args.map (fun x => conc j (ρ x)) = ⟨(args.toList.map ρ).map (conc j)⟩ := by
        apply Array.ext'; simp
      cases b <;> simp at h
      case len =>
        have := lenA_ok hE (t := ty) h j w (by
          intro a b ha hm x hx
          refine hB b ?_ x hx
          cases hl : args.toList with
          | nil => rw [hl] at ha; simp at ha
          | cons y ys =>
            rw [hl] at ha
            simp at ha
            obtain ⟨h1, h2⟩ := ha
            subst h2
            simp [reads, readsB, hl, h1, hm])
        simp only [List.map_map] at this hargs
        simp [execOp, resolve, invoke, builtin, hargs, this]
      case max =>
        have := maxA_ok h j w
        simp only [List.map_map] at this hargs
        simp [execOp, resolve, invoke, builtin, hargs, this]
      case min =>
        have := minA_ok h j w
        simp only [List.map_map] at this hargs
        simp [execOp, resolve, invoke, builtin, hargs, this]
end
end Go.Ai
namespace Go.Ai
noncomputable section
variable {E : Env} (hE : EnvOk E)
include hE

omit hE in
theorem sc_lt_of {n : Nat → Prop} {b : Nat} {v : Value} (h : Sc n v) (hv : ∀ j j' : Nat → RB, conc j' v = conc j v → (j' b).blk = (j b).blk) : n b := by
  classical
  by_cases hb : n b
  · exact hb
  · have := hv (fun _ => ⟨0, 0, 0⟩) (fun x => if n x then ⟨0, 0, 0⟩ else ⟨1, 0, 0⟩) (h _ _ fun x hx => by simp [hx])
    simp [hb] at this
omit hE in
theorem sc_ptr_lt {n : Nat → Prop} {b o : Nat} {s : Option Nat} (h : Sc n (.pointer (some ⟨b, o, s⟩))) : n b :=
  sc_lt_of h fun j j' e => by simp [ca] at e; exact e.1
omit hE in
theorem sc_slice_lt {n : Nat → Prop} {b o l c : Nat} {s : Option Nat} (h : Sc n (.slice (some ⟨b, o, s⟩) l c)) : n b :=
  sc_lt_of h fun j j' e => by simp [ca] at e; exact e.1.1
omit hE in
theorem Sc.slice {n : Nat → Prop} {b o l c : Nat} (h : n b) : Sc n (.slice (some ⟨b, o, none⟩) l c) := fun j j' e => by simp [ca, ccap, e b h]
omit hE in
theorem Sc.tuple2 {n : Nat → Prop} {v : Value} {b : Bool} (h : Sc n v) : Sc n (.tuple #[v, .bool b]) := fun j j' e => by simp [h j j' e]
omit hE in
theorem slice_sc {t : TypeId} {x v : Value} {lo hi mx : Option Value} {B : Option Blk} {n : Nat → Prop} (h : sliceA E t x lo hi mx B = some v) (hx : Sc n x) : Sc n v := by
  unfold sliceA at h
  split at h
  · split at h
    · cases h; exact Sc.slice (sc_ptr_lt hx)
    · cases h
  · split at h
    · split at h
      · cases h; exact Sc.slice (sc_slice_lt hx)
      · cases h
    · split at h
      · split at h
        · cases h; exact Sc.slice (sc_slice_lt hx)
        · cases h
      · split at h
        · cases h; exact Sc.slice (sc_slice_lt hx)
        · cases h
      · cases h
    · cases h
  · split at h
    · cases h; exact fun j j' e => by simp
    · cases h
  · cases h
omit hE in
theorem findA_mem {kt : TypeId} {k : Value} {es : List MapEntry} {i : Nat} {e : MapEntry} (h : findA E kt k es = some (some (i, e))) : es[i]? = some e := by
  unfold findA at h
  split at h
  · split at h
    · split at h
      · rename_i e' he; cases h; exact he
      · cases h
    · cases h
    · cases h
  · cases h
theorem lookup_sc {t : TypeId} {m k v : Value} {ok : Bool} {B : Option Blk} {n : Nat → Prop} (h : lookupA E t m k ok B = some v) (hB : ∀ x, B = some x → BlkSc n x) : Sc n v := by
  unfold lookupA at h
  split at h
  · rename_i kt elem hd
    have key : ∀ es : List MapEntry, (∀ e ∈ es, Sc n e.val) → ∀ r, findA E kt k es = some r → (match r with
          | some (_, e) => some (if ok then .tuple #[e.val, .bool true] else e.val)
          | none => match E.zero elem with
            | some z => some (if ok then .tuple #[z, .bool false] else z)
            | none => none) = some v → Sc n v := by
      intro es hes r hr hv
      cases r with
      | some p =>
        obtain ⟨i, e⟩ := p
        have := hes e (List.mem_of_getElem? (findA_mem hr))
        simp only [Option.some.injEq] at hv
        subst hv
        cases ok
        · exact this
        · exact Sc.tuple2 this
      | none =>
        simp only [] at hv
        split at hv
        · rename_i z hz
          have := Sc.of_addrFree (D := n) (zero_ok hE hz default).2
          simp only [Option.some.injEq] at hv
          subst hv
          cases ok
          · exact this
          · exact Sc.tuple2 this
        · cases hv
    cases m with
    | map r =>
      cases r with
      | none =>
        simp only [] at h
        cases hf : findA E kt k [] with
        | none => rw [hf] at h; cases h
        | some r =>
          rw [hf] at h
          refine key [] (by simp) r hf ?_
          cases r <;> exact h
      | some b =>
        cases B with
        | none => simp at h
        | some x =>
          cases x with
          | map es c =>
            simp only [] at h
            have hm := hB _ rfl
            cases hf : findA E kt k es with
            | none => rw [hf] at h; cases h
            | some r =>
              rw [hf] at h
              refine key es (fun e he => (hm e he).2) r hf ?_
              cases r <;> exact h
          | _ => simp at h
    | _ => simp at h
  · cases h
omit hE in
theorem len_sc {tys : List TypeId} {args : List Value} {v : Value} {B : Option Blk} {n : Nat → Prop} (h : lenA E tys args B = some v) : Sc n v := by
  unfold lenA at h
  split at h
  · split at h
    · split at h
      · cases h; exact fun j j' e => by simp [goInt]
      · cases h
    · split at h <;> first | (cases h; exact fun j j' e => by simp [goInt]) | cases h
  · cases h
/-- What a quiet operation comes to speaks of no block that its operands and what it reads do not. -/
theorem quiet_sc {o : Oper} {ρ : Operand → Value} {B : Option Blk} {v : Value} {n : Nat → Prop} (h : quiet E o ρ B = some v) (hρ : ∀ x ∈ o.op.operands, Sc n (ρ x)) (hB : ∀ x, B = some x → BlkSc n x) : Sc n v := by
  cases hr : reads ρ o.op with
  | none =>
    intro j j' e
    have h1 := quiet_ok hE h j default (by simp [hr])
    have h2 := quiet_ok hE h j' default (by simp [hr])
    have hns : ∀ cs b, o.op ≠ .select cs b := fun cs b eo => by simp [quiet, eo] at h
    have : execOp (fun x => conc j' (ρ x)) o = execOp (fun x => conc j (ρ x)) o := execOp_congr o hns fun x hx => hρ x hx j j' e
    rw [this, h1] at h2
    simpa using h2.symm
  | some b =>
    obtain ⟨d, op, ty, pos, aft, gd⟩ := o
    cases op <;> simp [reads] at hr
    case load => exact load_sc h hB
    case slice t x lo hi mx => exact slice_sc h (hρ x (by simp [Op.operands]))
    case lookup => exact lookup_sc hE h hB
    case call c =>
      obtain ⟨callee, args, tys⟩ := c
      simp only [quiet, quietB] at h
      cases callee with
      | value f => simp at h
      | invoke r m => simp at h
      | builtin b =>
        cases b <;> simp at h <;> try (simp [readsB] at hr; done)
        exact len_sc h
end
end Go.Ai
namespace Go.Ai
noncomputable section

/-! ### Frames -/
structure FrAt (j : Nat → RB) (n : Nat → Prop) (fr : Fr) (a : Act) : Prop where
  tm : TmAt j fr.tm fr.sz a.tmps
  sc : ∀ t, Sc n (tmv fr.tm t)
  marks : a.defers = fr.marks.map fun b => ({ target := .collected (j b).blk, args := #[] } : Deferred)
  low : (∀ b ∈ fr.marks, n b) ∧ ∀ l, fr.round = some l → n l

theorem val_tmp (fr : Fr) (t : Tmp) : fr.val (.tmp t) = tmv fr.tm t := rfl
theorem val_ok {G : Nat} {j : Nat → RB} {n : Nat → Prop} {fr : Fr} {a : Act} (h : FrAt j n fr a) (hg : ∀ g, g < G → (j g).blk = g ∧ (j g).off = 0) {x : Operand} (hx : opndOk G x = true) :
    a.eval x = conc j (fr.val x) := by
  cases x with
  | tmp t => simpa [Act.eval, val_tmp] using h.tm.val t
  | const v => simp only [opndOk] at hx; simp [Act.eval, Fr.val, conc_addrFree j hx]
  | global g =>
    have hlt : g < G := by simpa [opndOk, Nat.blt_eq] using hx
    obtain ⟨h1, h2⟩ := hg g hlt
    simp [Act.eval, Fr.val, ca, h1, h2]
  | func f => simp [Act.eval, Fr.val, cf]
theorem val_sc {G : Nat} {j : Nat → RB} {n : Nat → Prop} {fr : Fr} {a : Act} (h : FrAt j n fr a) (hG : ∀ g, g < G → n g) {x : Operand} (hx : opndOk G x = true) : Sc n (fr.val x) := by
  cases x with
  | tmp t => exact h.sc t
  | const v => exact Sc.of_addrFree hx
  | global g =>
    have hlt : g < G := by simpa [opndOk, Nat.blt_eq] using hx
    exact Sc.ptr 0 (hG g hlt)
  | func f => intro j j' e; simp [Fr.val, cf]

def Fr.put (fr : Fr) (dst : Option Tmp) (v : Value) : Fr :=
  match dst with
  | none => fr
  | some d => ⟨Tr.set 32 fr.tm d (some v), fr.sz, fr.marks, fr.round⟩
theorem putK_some {β : Type} {fr : Fr} {dst : Option Tmp} {v : Value} {k : Fr → Option β} {r : β} (h : fr.putK dst v k = some r) :
    k (fr.put dst v) = some r ∧ ∀ d, dst = some d → d < fr.sz := by
  unfold Fr.putK at h
  split at h
  · exact ⟨h, by simp⟩
  · rename_i d
    split at h
    · rename_i hd
      rw [Tr.setK_eq] at h
      exact ⟨h, fun d' e => by cases e; simpa [Nat.blt_eq] using hd⟩
    · cases h
theorem tmv_put {fr : Fr} {d : Tmp} {v : Value} (hd : d + 1 < 2 ^ 32) (t : Nat) : tmv (fr.put (some d) v).tm t = if t = d then v else tmv fr.tm t := by
  simp only [tmv, Fr.put]
  rw [Tr.get_set 32 _ _ _ _ hd]
  by_cases h : t = d <;> simp [h]
theorem FrAt.put {j : Nat → RB} {n : Nat → Prop} {fr : Fr} {a : Act} (h : FrAt j n fr a) {dst : Option Tmp} {v : Value} (hv : Sc n v) (hd : ∀ d, dst = some d → d < fr.sz) :
    FrAt j n (fr.put dst v) (a.put dst (conc j v)) := by
  cases dst with
  | none => exact h
  | some d =>
    have hlt : (d : Nat) < fr.sz := hd d rfl
    have hsm := h.tm.small
    have hb' : ∀ m : Nat, m < fr.sz → m + 1 < 2 ^ 32 := fun m hm => by omega
    have hb := hb' d hlt
    refine ⟨⟨by simp [Act.put, Fr.put, h.tm.size], hsm, fun t => ?_⟩, fun t => ?_, h.marks, h.low⟩
    · rw [tmv_put hb]
      simp only [Act.put]
      have hs := h.tm.size
      by_cases e : t = d
      · subst e
        simp [Array.getD, hs, hlt]
      · rw [if_neg e, ← h.tm.val t]
        simp only [Array.getD_eq_getD_getElem?, Array.getElem?_setIfInBounds_ne (Ne.symm e)]
    · rw [tmv_put hb]
      split
      · exact hv
      · exact h.sc t
theorem FrAt.ext {j j' : Nat → RB} {n n' : Nat → Prop} {fr : Fr} {a : Act} (h : FrAt j n fr a) (e : ∀ b, n b → j' b = j b) (hn : ∀ b, n b → n' b) : FrAt j' n' fr a := by
  refine ⟨⟨h.tm.size, h.tm.small, fun t => by rw [h.tm.val t]; exact (h.sc t j j' e).symm⟩, fun t => (h.sc t).mono hn, ?_, fun b hb => hn _ (h.low.1 b hb), fun l hl => hn _ (h.low.2 l hl)⟩
  rw [h.marks]
  exact List.map_congr_left fun b hb => by rw [e b (h.low.1 b hb)]

/-! ### What a piece of a run leaves as it was -/
structure Evo (h h' : Hp) : Prop where
  next : h.next ≤ h'.next
  clk : h.clk ≤ h'.clk
  evo : ∀ b, h'.t.get b = h.t.get b ∨ ∃ v x, h'.t.get b = some (v, x) ∧ h.clk < v
  dead : ∀ b v x, h'.t.get b = some (v, x) → x.live → ∀ v' x', h.t.get b = some (v', x') → x'.live
structure Fp (j j' : Nat → RB) (h h' : Hp) (w w' : World) : Prop where
  os : w'.os = w.os
  tape : w'.tape = w.tape
  output : w'.output = w.output
  size : w.heap.size ≤ w'.heap.size
  ext : ∀ b, h.born b → j' b = j b
  frame : ∀ r, r < w.heap.size → (∀ b v x, h.t.get b = some (v, x) → x.live → (j b).blk = r → h'.t.get b = h.t.get b) → w'.heap[r]? = w.heap[r]?
  fresh : ∀ b, h'.born b → ¬ h.born b → w.heap.size ≤ (j' b).blk ∨ ∃ o v x, h.t.get o = some (v, x) ∧ x.live ∧ h'.t.get o ≠ h.t.get o ∧ (j o).blk = (j' b).blk

theorem Evo.refl (h : Hp) : Evo h h := ⟨Nat.le_refl _, Nat.le_refl _, fun _ => .inl rfl, fun b v x e l v' x' e' => by rw [e] at e'; cases e'; exact l⟩
theorem Evo.trans {h h1 h2 : Hp} (a : Evo h h1) (b : Evo h1 h2) : Evo h h2 := by
  refine ⟨Nat.le_trans a.next b.next, Nat.le_trans a.clk b.clk, fun x => ?_, fun x v y e l v' x' e' => ?_⟩
  rotate_left
  · rcases a.evo x with e1 | ⟨v1, y1, e1, _⟩
    · exact b.dead x v y e l v' x' (by rw [e1]; exact e')
    · exact a.dead x v1 y1 e1 (b.dead x v y e l v1 y1 e1) v' x' e'
  have hc := a.clk
  rcases b.evo x with e | ⟨v, y, e, hv⟩
  · rcases a.evo x with e' | ⟨v, y, e', hv⟩
    · exact .inl (e.trans e')
    · exact .inr ⟨v, y, e.trans e', hv⟩
  · exact .inr ⟨v, y, e, by omega⟩
theorem Evo.born {h h' : Hp} (a : Evo h h') {b : Nat} (hb : h.born b) : h'.born b := by
  unfold Hp.born at *
  rcases a.evo b with e | ⟨v, y, e, _⟩
  · rw [e]; exact hb
  · rw [e]; simp
/-- What has turned stays turned. -/
theorem Evo.turned {h h1 h2 : Hp} (a : Evo h h1) (b : Evo h1 h2) {x v : Nat} {y : Blk} (hl : h.t.get x = some (v, y)) (hv : v ≤ h.clk) (ht : h1.t.get x ≠ h.t.get x) :
    h2.t.get x ≠ h.t.get x := by
  intro e2
  have hc := a.clk
  rcases b.evo x with e | ⟨v', y', e, hv'⟩
  · exact ht (e ▸ e2)
  · rw [e, hl] at e2; cases e2; omega
/-- What is as it was at the end was so all the time. -/
theorem Evo.same {h h1 h2 : Hp} (a : Evo h h1) (b : Evo h1 h2) {x v : Nat} {y : Blk} (hl : h.t.get x = some (v, y)) (hv : v ≤ h.clk) (ht : h2.t.get x = h.t.get x) :
    h1.t.get x = h.t.get x := Classical.byContradiction fun e => a.turned b hl hv e ht
theorem Fp.refl (j : Nat → RB) (h : Hp) (w : World) : Fp j j h h w w :=
  ⟨rfl, rfl, rfl, Nat.le_refl _, fun _ _ => rfl, fun _ _ _ => rfl, fun _ h1 h2 => absurd h1 h2⟩
theorem Fp.trans {j j1 j2 : Nat → RB} {h h1 h2 : Hp} {w w1 w2 : World} (a : Fp j j1 h h1 w w1) (b : Fp j1 j2 h1 h2 w1 w2) (ea : Evo h h1) (eb : Evo h1 h2)
    (hv : ∀ b v x, h.t.get b = some (v, x) → v ≤ h.clk) : Fp j j2 h h2 w w2 := by
  have hdead := ea.dead
  refine ⟨b.os.trans a.os, b.tape.trans a.tape, b.output.trans a.output, Nat.le_trans a.size b.size, fun x hx => (b.ext x (ea.born hx)).trans (a.ext x hx), fun r hr hf => ?_, fun x h2x hx => ?_⟩
  · have f1 : w1.heap[r]? = w.heap[r]? := a.frame r hr fun x v y hx hlv hj => ea.same eb hx (hv _ _ _ hx) (hf x v y hx hlv hj)
    have f2 : w2.heap[r]? = w1.heap[r]? := b.frame r (Nat.lt_of_lt_of_le hr a.size) fun x v y hx hlv hj => by
      by_cases hx0 : h.born x
      · obtain ⟨⟨v0, y0⟩, h0⟩ := Option.ne_none_iff_exists'.1 hx0
        rw [a.ext x hx0] at hj
        have e2 := hf x v0 y0 h0 (hdead x v y hx hlv v0 y0 h0) hj
        rw [e2, ea.same eb h0 (hv _ _ _ h0) e2]
      · rcases a.fresh x (by simp [Hp.born, hx]) hx0 with hs | ⟨o, v0, y0, ho, hlo, ht, hjo⟩
        · omega
        · exact absurd (hf o v0 y0 ho hlo (by rw [hjo, hj])) (ea.turned eb ho (hv _ _ _ ho) ht)
    rw [f2, f1]
  · by_cases h1x : h1.born x
    · rw [b.ext x h1x]
      rcases a.fresh x h1x hx with hs | ⟨o, v0, y0, ho, hlo, ht, hjo⟩
      · exact .inl hs
      · exact .inr ⟨o, v0, y0, ho, hlo, ea.turned eb ho (hv _ _ _ ho) ht, hjo⟩
    · rcases b.fresh x h2x h1x with hs | ⟨o, v1, y1, ho, hlo, ht, hjo⟩
      · exact .inl (Nat.le_trans a.size hs)
      · by_cases ho0 : h.born o
        · obtain ⟨⟨v0, y0⟩, h0⟩ := Option.ne_none_iff_exists'.1 ho0
          refine .inr ⟨o, v0, y0, h0, hdead o v1 y1 ho hlo v0 y0 h0, fun e => ?_, by rw [← hjo, a.ext o ho0]⟩
          have := ea.same eb h0 (hv _ _ _ h0) e
          exact ht (by rw [e, this])
        · rcases a.fresh o (by simp [Hp.born, ho]) ho0 with hs | ⟨o', v0, y0, ho', hlo', ht', hjo'⟩
          · exact .inl (hjo ▸ hs)
          · exact .inr ⟨o', v0, y0, ho', hlo', ea.turned eb ho' (hv _ _ _ ho') ht', by rw [hjo', hjo]⟩
end
end Go.Ai
namespace Go.Ai
noncomputable section

theorem concE_ext {D : Nat → Prop} {j j' : Nat → RB} (e : ∀ b, D b → j' b = j b) {es : List MapEntry} (h : ∀ x ∈ es, Sc D x.key ∧ Sc D x.val) : es.map (concE j') = es.map (concE j) :=
  List.map_congr_left fun x hx => by simp [concE, (h x hx).1 j j' e, (h x hx).2 j j' e]
theorem BlkAt.move {D : Nat → Prop} {j j' : Nat → RB} {rb : RB} {w w' : World} {x : Blk} (h : BlkAt j rb w x) (hs : BlkSc D x) (e : ∀ b, D b → j' b = j b)
    (hw : x.live → w'.heap[rb.blk]? = w.heap[rb.blk]?) : BlkAt j' rb w' x := by
  cases x with
  | cells rw_ g cs =>
    have hw := hw trivial
    have hc : ∀ i, w'.cell? ⟨rb.blk, i, none⟩ = w.cell? ⟨rb.blk, i, none⟩ := fun i => World.cell?_of_block (w := w) hw
    have hf : ∀ i, w'.frozen? ⟨rb.blk, i, none⟩ = w.frozen? ⟨rb.blk, i, none⟩ := fun i => World.frozen?_of_block (w := w) hw
    refine ⟨fun i v hv => ?_, fun s hg => ?_⟩
    · rw [hc, hf, hs v (List.mem_of_getElem? hv) j j' e]
      exact h.1 i v hv
    · simp only [hc, hf]
      exact h.2 s hg
  | map es c =>
    show w'.heap[rb.blk]? = _
    rw [hw trivial, concE_ext e hs]
    exact h
  | loop st pd tm sz ps a b d =>
    obtain ⟨fn, tmps, h1, h2⟩ := h
    refine ⟨fn, tmps, ?_, h2.size, h2.small, fun t => ?_⟩
    · rw [hw trivial, h1, e d hs.2]
    · rw [h2.val t, hs.1 t j j' e]
  | defd => show w'.heap[rb.blk]? = _; rw [hw trivial]; exact h
  | dead => trivial
  | res k c => exact h

structure Grew (h h' : Hp) (b : Nat) (x : Blk) : Prop where
  next : h.next ≤ h'.next
  top : h'.next < 2 ^ 62
  lt : b < h'.next
  clk : h'.clk = h.clk + 1
  get : ∀ b', h'.t.get b' = if b' = b then some (h.clk + 1, x) else h.t.get b'
theorem Grew.born {h h' : Hp} {b : Nat} {x : Blk} (g : Grew h h' b x) {b' : Nat} (hb : h.born b') : h'.born b' := by
  unfold Hp.born at *
  rw [g.get]
  split
  · simp
  · exact hb
theorem Grew.put {h : Hp} {b nx : Nat} (x : Blk) (hn : h.next ≤ nx) (ht : nx < 2 ^ 62) (hb : b < nx) : Grew h ⟨nx, (h.put b x).clk, (h.put b x).t⟩ b x :=
  ⟨hn, ht, hb, rfl, fun b' => by simp only [Hp.put]; exact Tr.get_set 64 _ _ _ _ (by omega)⟩

def upd (j : Nat → RB) (b : Nat) (r : RB) : Nat → RB := fun x => if x = b then r else j x

/-- A new block. -/
theorem Inv.lay {G : Nat} {j : Nat → RB} {h h' : Hp} {w : World} (I : Inv G j h w) {b cap : Nat} {x : Blk} {o : Obj} (g : Grew h h' b x) (hb : ¬ h.born b)
    (hx : x.live) (hat : BlkAt (upd j b ⟨w.heap.size, 0, cap⟩) ⟨w.heap.size, 0, cap⟩ (w.alloc o) x) (hsc : BlkSc h'.born x) :
    Inv G (upd j b ⟨w.heap.size, 0, cap⟩) h' (w.alloc o) ∧ Evo h h' ∧ Fp j (upd j b ⟨w.heap.size, 0, cap⟩) h h' w (w.alloc o) := by
  have hnb : h.t.get b = none := by simpa [Hp.born] using hb
  have hj : ∀ b', h.born b' → upd j b ⟨w.heap.size, 0, cap⟩ b' = j b' := fun b' hb' => by
    unfold upd; rw [if_neg]; rintro rfl; exact hb hb'
  have hold : ∀ r, r < w.heap.size → (w.alloc o).heap[r]? = w.heap[r]? := fun r hr => RowKit.Below.heap_alloc w o r hr
  refine ⟨⟨g.top, fun q hq => ⟨g.born (I.glob q hq).1, by rw [hj q (I.glob q hq).1]; exact (I.glob q hq).2⟩, fun b' v y hy => ?_, fun b1 b2 v1 v2 x1 x2 h1 h2 l1 l2 hne => ?_⟩, ⟨g.next, by rw [g.clk]; omega, fun b' => ?_, fun b' v y hy l v' y' hy' => ?_⟩, ?_⟩
  · rw [g.get] at hy
    split at hy
    · rename_i e
      subst e
      cases hy
      refine ⟨g.lt, by rw [g.clk]; exact Nat.le_refl _, fun _ => by simp [upd], ?_, hsc⟩
      simpa [upd] using hat
    · obtain ⟨h1, h2, h3, h4, h5⟩ := I.low b' v y hy
      have hbn : h.born b' := by simp [Hp.born, hy]
      refine ⟨Nat.lt_of_lt_of_le h1 g.next, by rw [g.clk]; omega, fun l => ?_, ?_, h5.mono fun _ => g.born⟩
      · rw [hj b' hbn, World.size_alloc]; have := h3 l; omega
      · rw [hj b' hbn]
        exact h4.move h5 hj fun l => hold _ (h3 l)
  · rw [g.get] at h1 h2
    have key : ∀ c v y, (if c = b then some (h.clk + 1, x) else h.t.get c) = some (v, y) → y.live → (c = b ∧ upd j b ⟨w.heap.size, 0, cap⟩ c = ⟨w.heap.size, 0, cap⟩) ∨
        (h.t.get c = some (v, y) ∧ upd j b ⟨w.heap.size, 0, cap⟩ c = j c ∧ (j c).blk < w.heap.size) := by
      intro c v y hc l
      split at hc
      · rename_i e; exact .inl ⟨e, by simp [upd, e]⟩
      · exact .inr ⟨hc, hj c (by simp [Hp.born, hc]), (I.low c v y hc).2.2.1 l⟩
    rcases key _ _ _ h1 l1 with ⟨e1, u1⟩ | ⟨e1, u1, s1⟩ <;> rcases key _ _ _ h2 l2 with ⟨e2, u2⟩ | ⟨e2, u2, s2⟩
    · exact absurd (e1.trans e2.symm) hne
    · rw [u1, u2]; simp; omega
    · rw [u1, u2]; simp; omega
    · rw [u1, u2]; exact I.inj _ _ _ _ _ _ e1 e2 l1 l2 hne
  · rw [g.get]
    split
    · exact .inr ⟨_, _, rfl, by omega⟩
    · exact .inl rfl
  · rw [g.get] at hy
    split at hy
    · rename_i e; subst e; rw [hnb] at hy'; cases hy'
    · rw [hy] at hy'; cases hy'; exact l
  · refine ⟨rfl, rfl, rfl, by simp, hj, fun r hr _ => hold r hr, fun b' hb' hnb' => .inl ?_⟩
    have : b' = b := by
      unfold Hp.born at hb' hnb'
      rw [g.get] at hb'
      by_cases e : b' = b
      · exact e
      · rw [if_neg e] at hb'; exact absurd hb' hnb'
    subst this
    simp [upd]
/-- A block is written (or dies): one block of the heap turns, no other. -/
theorem Inv.write {G : Nat} {j : Nat → RB} {h h' : Hp} {w w' : World} (I : Inv G j h w) {b v : Nat} {x x' : Blk} (g : Grew h h' b x') (hb : h.t.get b = some (v, x))
    (hl : x'.live → x.live) (hat : BlkAt j (j b) w' x') (hsc : BlkSc h.born x') (hsz : w'.heap.size = w.heap.size) (hos : w'.os = w.os) (htp : w'.tape = w.tape) (hou : w'.output = w.output)
    (hoth : ∀ r, (x.live → r ≠ (j b).blk) → w'.heap[r]? = w.heap[r]?) :
    Inv G j h' w' ∧ Evo h h' ∧ Fp j j h h' w w' := by
  have hbn : h.born b := by simp [Hp.born, hb]
  have hborn : ∀ c, h'.born c → h.born c := fun c hc => by
    unfold Hp.born at hc
    rw [g.get] at hc
    by_cases e : c = b
    · subst e; exact hbn
    · rw [if_neg e] at hc; exact hc
  refine ⟨⟨g.top, fun q hq => ⟨g.born (I.glob q hq).1, (I.glob q hq).2⟩, fun b' v' y hy => ?_, fun b1 b2 v1 v2 x1 x2 h1 h2 l1 l2 hne => ?_⟩, ⟨g.next, by rw [g.clk]; omega, fun b' => ?_, fun b' v1 y hy l v' y' hy' => ?_⟩, ?_⟩
  · rw [g.get] at hy
    split at hy
    · rename_i e
      subst e
      cases hy
      refine ⟨g.lt, by rw [g.clk]; exact Nat.le_refl _, fun l => by rw [hsz]; exact (I.low _ _ _ hb).2.2.1 (hl l), hat, hsc.mono fun _ => g.born⟩
    · rename_i hne
      obtain ⟨h1, h2, h3, h4, h5⟩ := I.low b' v' y hy
      refine ⟨Nat.lt_of_lt_of_le h1 g.next, by rw [g.clk]; omega, fun l => by rw [hsz]; exact h3 l, ?_, h5.mono fun _ => g.born⟩
      exact h4.move h5 (fun _ _ => rfl) fun l => hoth _ fun lx => I.inj _ _ _ _ _ _ hy hb l lx hne
  · rw [g.get] at h1 h2
    have key : ∀ c v' y, (if c = b then some (h.clk + 1, x') else h.t.get c) = some (v', y) → y.live → ∃ v0 y0, h.t.get c = some (v0, y0) ∧ y0.live := by
      intro c v' y hc l
      split at hc
      · rename_i e; cases hc; subst e; exact ⟨v, x, hb, hl l⟩
      · exact ⟨v', y, hc, l⟩
    obtain ⟨a1, y1, e1, m1⟩ := key _ _ _ h1 l1
    obtain ⟨a2, y2, e2, m2⟩ := key _ _ _ h2 l2
    exact I.inj _ _ _ _ _ _ e1 e2 m1 m2 hne
  · rw [g.get]
    split
    · exact .inr ⟨_, _, rfl, by omega⟩
    · exact .inl rfl
  · rw [g.get] at hy
    split at hy
    · rename_i e; cases hy; subst e; rw [hb] at hy'; cases hy'; exact hl l
    · rw [hy] at hy'; cases hy'; exact l
  · refine ⟨hos, htp, hou, by rw [hsz]; exact Nat.le_refl _, fun _ _ => rfl, fun r hr hf => hoth r fun lx e => ?_, fun c hc hnc => absurd (hborn c hc) hnc⟩
    have := hf b v x hb lx e.symm
    rw [g.get, if_pos rfl, hb] at this
    cases this
    have := (I.low _ _ _ hb).2.1
    omega
end
end Go.Ai
namespace Go.Ai
noncomputable section
variable {E : Env} (hE : EnvOk E)

theorem cells_new {D : Nat → Prop} {j : Nat → RB} {b : Nat} {cs : List Value} (hcs : ∀ v ∈ cs, Sc D v) (hb : ¬ D b) (w : World) (t : TypeId) (rw_ : Bool) (cap : Nat) :
    BlkAt (upd j b ⟨w.heap.size, 0, cap⟩) ⟨w.heap.size, 0, cap⟩ (w.alloc (.cells ⟨cs.map (conc j)⟩ t)) (.cells rw_ 0 cs) := by
  have hj : ∀ b', D b' → upd j b ⟨w.heap.size, 0, cap⟩ b' = j b' := fun b' hb' => by
    unfold upd; rw [if_neg]; rintro rfl; exact hb hb'
  refine ⟨fun i v hv => ⟨?_, fun _ => ?_⟩, fun s hs => by simp at hs⟩
  · have := World.cell?_alloc_new w ⟨cs.map (conc j)⟩ t (0 + i)
    rw [this]
    simp only [Nat.zero_add, List.getElem?_toArray, List.getElem?_map, hv, Option.map_some]
    rw [hcs v (List.mem_of_getElem? hv) j _ hj]
  · have := World.frozen?_alloc_new w ⟨cs.map (conc j)⟩ t (0 + i)
    exact this
theorem upd_same (j : Nat → RB) (b : Nat) (r : RB) : upd j b r b = r := by simp [upd]
theorem run_newRow' (P : Program) (w : World) (t : TypeId) (cs : Array Value) : (newRow t cs).run P w = .ok ⟨w.heap.size, 0, none⟩ (w.alloc (.cells cs t)) := by
  simp [newRow, newObj, Sem.run]
theorem run_askRoom' (P : Program) (w : World) (n : Nat) : (askRoom n).run P w = .ok () w := by
  unfold askRoom; split <;> simp [mark, Sem.run]
theorem rep_len (n : Nat) (z : List Value) : (rep n z).length = n * z.length := by
  induction n with
  | zero => simp [rep]
  | succ n ih => simp [rep, ih, Nat.succ_mul]; omega
theorem rep_range (z : List Value) (n : Nat) : (List.range (n * z.length)).map (fun i => (⟨z⟩ : Array Value)[i % z.length]!) = rep n z := by
  induction n with
  | zero => simp [rep]
  | succ n ih =>
    rw [Nat.succ_mul, Nat.add_comm, List.range_add, List.map_append, List.map_map]
    simp only [rep]
    congr 1
    · apply List.ext_getElem
      · simp
      · intro i h1 h2
        simp at h1
        simp [Nat.mod_eq_of_lt h1, h1]
    · rw [← ih]
      apply List.map_congr_left
      intro i _
      simp
theorem rep_map (f : Value → Value) (n : Nat) (z : List Value) : (rep n z).map f = rep n (z.map f) := by
  induction n with
  | zero => simp [rep]
  | succ n ih => simp [rep, ih]
theorem rep_mem {n : Nat} {z : List Value} {v : Value} (h : v ∈ rep n z) : v ∈ z := by
  induction n with
  | zero => simp [rep] at h
  | succ n ih => simp [rep] at h; rcases h with h | h; exact h; exact ih h
theorem vcells_sc {D : Nat → Prop} {v : Value} (h : Sc D v) : ∀ c ∈ vcells v, Sc D c := by
  cases v with
  | agg cs =>
    intro c hc j j' e
    have := h j j' e
    simp only [conc_agg, Value.agg.injEq, Array.mk.injEq] at this
    obtain ⟨i, hi, rfl⟩ := List.getElem_of_mem hc
    have := congrArg (fun l => l[i]?) this
    simp only [vcells] at hi ⊢
    simp only [List.getElem?_map] at this
    rw [List.getElem?_eq_getElem hi] at this
    simpa using this
  | _ => intro c hc; simp [vcells] at hc; subst hc; exact h
theorem splice_mem {cs cs' rs : List Value} {o : Nat} (h : splice cs o rs = some cs') {v : Value} (hv : v ∈ cs') : v ∈ cs ∨ v ∈ rs := by
  induction rs generalizing cs o with
  | nil => rw [splice_nil] at h; cases h; exact .inl hv
  | cons r rs ih =>
    obtain ⟨h1, h2⟩ := splice_cons h
    rcases ih h2 with h | h
    · rcases List.mem_or_eq_of_mem_set h with h | h
      · exact .inl h
      · exact .inr (by simp [h])
    · exact .inr (by simp [h])
theorem fillA_sc {D : Nat → Prop} {place : Nat → Option (Nat × Nat)} {cells l : List Value} {parts : List (Nat × Value)} (h : fillA place cells parts = some l)
    (hc : ∀ v ∈ cells, Sc D v) (hp : ∀ p ∈ parts, Sc D p.2) : ∀ v ∈ l, Sc D v := by
  induction parts generalizing cells with
  | nil => simp [fillA] at h; subst h; exact hc
  | cons p rest ih =>
    obtain ⟨i, v⟩ := p
    simp only [fillA] at h
    split at h
    · cases h
    · split at h
      · split at h
        · rename_i cells' hs
          refine ih h (fun u hu => ?_) (fun p hp' => hp p (by simp [hp']))
          rcases splice_mem hs hu with hu | hu
          · exact hc u hu
          · exact vcells_sc (hp (i, v) (by simp)) u hu
        · cases h
      · cases h
include hE
set_option maxRecDepth 100000 in
/-- Laying a block. -/
theorem laid_ok {o : Oper} {ρ : Operand → Value} {B : Blk} {f : Nat → Value} (h : laid E o.op ρ = some (B, f)) {D : Nat → Prop} (hρ : ∀ x ∈ o.op.operands, Sc D (ρ x)) (j : Nat → RB) (w : World) :
    ∃ ob V, (execOp (fun x => conc j (ρ x)) o).run E.P w = .ok (.value V) (w.alloc ob) ∧ B.live ∧ BlkSc D B ∧
      ∀ b, ¬ D b → V = conc (upd j b ⟨w.heap.size, 0, 0⟩) (f b) ∧ BlkAt (upd j b ⟨w.heap.size, 0, 0⟩) ⟨w.heap.size, 0, 0⟩ (w.alloc ob) B ∧ Sc (fun x => D x ∨ x = b) (f b) := by
  obtain ⟨d, op, ty, pos, aft, gd⟩ := o
  have hbox : ∀ (t : TypeId) (x : Value), Sc D x → ∃ ob V, (do pure (.value (.pointer (some (← newVar t (conc j x))))) : Sem Next).run E.P w = .ok (.value V) (w.alloc ob) ∧ (Blk.cells true 0 (vcells x)).live ∧ BlkSc D (.cells true 0 (vcells x)) ∧
      ∀ b, ¬ D b → V = conc (upd j b ⟨w.heap.size, 0, 0⟩) (ptrTo b) ∧ BlkAt (upd j b ⟨w.heap.size, 0, 0⟩) ⟨w.heap.size, 0, 0⟩ (w.alloc ob) (.cells true 0 (vcells x)) ∧ Sc (fun x => D x ∨ x = b) (ptrTo b) := by
    intro t x hx
    refine ⟨.cells ⟨(vcells x).map (conc j)⟩ t, .pointer (some ⟨w.heap.size, 0, none⟩), ?_, trivial, vcells_sc hx, fun b hb => ⟨?_, cells_new (vcells_sc hx) hb w t true 0, Sc.ptr 0 (.inr rfl)⟩⟩
    · simp [newVar, cells_conc, run_newRow']
    · simp [ptrTo, ca, upd_same]
  cases op <;> simp only [laid] at h <;> try (cases h; done)
  case alloc t =>
    unfold allocA at h
    split at h
    · rename_i z hz
      simp only [boxA, Option.some.injEq, Prod.mk.injEq] at h
      obtain ⟨rfl, rfl⟩ := h
      obtain ⟨h1, h2, h3⟩ := zero_cells hE hz j w
      have := hbox t z (Sc.of_addrFree (zero_ok hE hz w).2)
      rw [h3] at this
      obtain ⟨ob, V, hr, rest⟩ := this
      refine ⟨ob, V, ?_, rest⟩
      simp only [execOp, Instr.alloc, Sem.run_bind, h1, Result.andThen_ok, Sem.run_pure] at hr ⊢
      cases hv : (newVar t z).run E.P w with
      | ok a w' => rw [hv] at hr; simpa using hr
      | halt a w' => rw [hv] at hr; simp at hr
    · cases h
  case box t x =>
    simp only [boxA, Option.some.injEq, Prod.mk.injEq] at h
    obtain ⟨rfl, rfl⟩ := h
    obtain ⟨ob, V, hr, rest⟩ := hbox t (ρ x) (hρ x (by simp [Op.operands]))
    refine ⟨ob, V, ?_, rest⟩
    simp only [execOp, Instr.box, Sem.run_bind, Sem.run_pure] at hr ⊢
    cases hv : (newVar t (conc j (ρ x))).run E.P w with
    | ok a w' => rw [hv] at hr; simpa using hr
    | halt a w' => rw [hv] at hr; simp at hr
  case makeMap t r =>
    split at h
    · simp only [Option.some.injEq, Prod.mk.injEq] at h
      obtain ⟨rfl, rfl⟩ := h
      refine ⟨.map #[] 0, .map (some w.heap.size), by simp [execOp, Instr.makeMap, newObj, Sem.run], trivial, by intro e he; simp at he, fun b hb => ⟨by simp [mapTo, upd_same], ?_, fun j j' e => by simp [mapTo, e b (.inr rfl)]⟩⟩
      show (w.alloc _).heap[w.heap.size]? = _
      rw [World.alloc_heap_new]; rfl
    · cases h
  case buildSlice t len parts =>
    unfold buildSliceA at h
    split at h
    · rename_i elem hd
      split at h
      · rename_i s z hs hz
        split at h
        · rename_i hc
          split at h
          · rename_i l hl
            simp only [Option.some.injEq, Prod.mk.injEq] at h
            obtain ⟨rfl, rfl⟩ := h
            simp only [Bool.and_eq_true] at hc
            have hc1 : len * s ≤ 2 ^ 24 := Nat.le_of_ble_eq_true hc.1.1
            have hc2 : (vcells z).length = s := Nat.eq_of_beq_eq_true hc.1.2
            have hc3 : len ≤ 2 ^ 24 := Nat.le_of_ble_eq_true hc.2
            have hc4 : len < OPEN := by unfold OPEN; omega
            obtain ⟨h1, h2, h3⟩ := zero_cells hE hz j w
            have hzz : (vcells z).map (conc j) = vcells z := by
              have := vcells_conc j z
              rw [h3, h2] at this
              have h4 := vcells_conc j z
              rw [h3] at h4
              have h5 : z.cells.toList = vcells z := by cases z <;> simp [Value.cells, vcells]
              rw [← h4, h5]
            have hsc : ∀ v ∈ l, Sc D v := fillA_sc hl (fun v hv => vcells_sc (Sc.of_addrFree (zero_ok hE hz w).2) v (rep_mem hv)) (fun p hp => by
              simp only [List.mem_map] at hp
              obtain ⟨q, hq, rfl⟩ := hp
              refine hρ _ ?_
              simp only [Op.operands, List.mem_toArray, List.mem_map]
              exact ⟨q, hq, rfl⟩)
            refine ⟨.cells ⟨l.map (conc j)⟩ elem, .slice (some ⟨w.heap.size, 0, none⟩) len len, ?_, trivial, hsc, fun b hb => ⟨?_, cells_new hsc hb w elem true 0, Sc.slice (.inr rfl)⟩⟩
            · have hf := fill_ok (fun i => some (i * s, s)) j hl
              have hcells : (if len * s = 0 then pure #[] else do pure (← zeroValue elem).cells : Sem (Array Value)).run E.P w = .ok (if len * s = 0 then #[] else z.cells) w := by
                split <;> simp [h1]
              have harr : (Array.range (len * s)).map (fun i => (if len * s = 0 then #[] else z.cells)[i % (if len * s = 0 then (#[] : Array Value) else z.cells).size]!) = ⟨(rep len (vcells z)).map (conc j)⟩ := by
                apply Array.ext'
                by_cases h0 : len * s = 0
                · have : rep len (vcells z) = [] := by
                    apply List.eq_nil_of_length_eq_zero; rw [rep_len, hc2, h0]
                  simp [h0, this]
                · rw [if_neg h0, rep_map, hzz, ← rep_range, hc2]
                  have h5 : z.cells = ⟨vcells z⟩ := by rw [h2, hzz]
                  simp [h5, hc2]
              have hps : (parts.map fun p => (p.1, conc j (ρ p.2))).toList = (parts.toList.map fun p => (p.1, ρ p.2)).map fun p => (p.1, conc j p.2) := by simp [Function.comp_def]
              simp only [execOp, Instr.buildSlice, Sem.run_bind, run_und hE hd, Result.andThen_ok, size_ok hE hs]
              rw [if_neg (by omega)]
              by_cases h0 : len * s = 0
              · simp only [h0, if_true] at harr ⊢
                simp only [Sem.run_bind, Sem.run_pure, Result.andThen_ok, harr, hps, hf, run_newRow']
              · simp only [h0, if_false] at harr ⊢
                simp only [Sem.run_bind, Sem.run_pure, Result.andThen_ok, h1, harr, hps, hf, run_newRow']
            · simp [sliceTo, ca, ccap, upd_same, hc4]
          · cases h
        · cases h
      · cases h
    · cases h
  case makeSlice t l c =>
    unfold makeSliceA at h
    split at h
    · rename_i elem k1 lv k2 cv hd hlv hcv
      split at h
      · rename_i s z by_ hs hz hb
        split at h
        · rename_i hc
          simp only [Option.some.injEq, Prod.mk.injEq] at h
          obtain ⟨rfl, rfl⟩ := h
          simp only [Bool.and_eq_true] at hc
          have hc1 : lv ≤ cv := Nat.le_of_ble_eq_true hc.1.1.1
          have hc2 : cv ≤ 2 ^ 24 := Nat.le_of_ble_eq_true hc.1.1.2
          have hc3 : by_ ≤ 2 ^ 16 := Nat.le_of_ble_eq_true hc.1.2
          have hc4 : (vcells z).length = s := Nat.eq_of_beq_eq_true hc.2
          have hc5 : cv < OPEN := by unfold OPEN; omega
          obtain ⟨h1, h2, h3⟩ := zero_cells hE hz j w
          have hzz : (vcells z).map (conc j) = vcells z := by
            have h4 := vcells_conc j z
            rw [h3] at h4
            have h5 : z.cells.toList = vcells z := by cases z <;> simp [Value.cells, vcells]
            rw [← h4, h5]
          have hsc : ∀ v ∈ rep cv (vcells z), Sc D v := fun v hv => vcells_sc (Sc.of_addrFree (zero_ok hE hz w).2) v (rep_mem hv)
          obtain ⟨i, hi, hib⟩ := bytes_ok hE hb
          refine ⟨.cells ⟨(rep cv (vcells z)).map (conc j)⟩ elem, .slice (some ⟨w.heap.size, 0, none⟩) lv cv, ?_, trivial, hsc, fun b hb' => ⟨?_, cells_new hsc hb' w elem true 0, Sc.slice (.inr rfl)⟩⟩
          · have harr : (Array.range (cv * s)).map (fun i => (if cv * s = 0 then #[] else z.cells)[i % (if cv * s = 0 then (#[] : Array Value) else z.cells).size]!) = ⟨(rep cv (vcells z)).map (conc j)⟩ := by
              apply Array.ext'
              by_cases h0 : cv * s = 0
              · have : rep cv (vcells z) = [] := by
                  apply List.eq_nil_of_length_eq_zero; rw [rep_len, hc4, h0]
                simp [h0, this]
              · rw [if_neg h0, rep_map, hzz, ← rep_range, hc4]
                have h5 : z.cells = ⟨vcells z⟩ := by rw [h2, hzz]
                simp [h5, hc4]
            have hw1 : IntKind.i64.wrap (cv : Int) = cv := IntWalk.i64_in _ ⟨by omega, by omega⟩
            have hw2 : IntKind.i64.wrap (lv : Int) = lv := IntWalk.i64_in _ ⟨by omega, by omega⟩
            have hby : (by_ : Int) * cv ≤ 1099511627776 := by
              have h5 : by_ * cv ≤ 1099511627776 := Nat.le_trans (Nat.mul_le_mul hc3 hc2) (by decide)
              have h6 : ((by_ * cv : Nat) : Int) ≤ 1099511627776 := by omega
              rwa [Int.natCast_mul] at h6
            have hti : (typeInfo elem).run E.P w = .ok i w := by simp [typeInfo, hi]
            have ht1 : (decide ((cv : Int) < 0) || decide ((i.bytes : Int) * (cv : Int) > 2 ^ 48)) = false := by
              rw [hib]; simp; omega
            have hml : (Instr.makeSlice t (.int k1 lv) (.int k2 cv)).run E.P w = .ok (.slice (some ⟨w.heap.size, 0, none⟩) lv cv) (w.alloc (.cells ⟨(rep cv (vcells z)).map (conc j)⟩ elem)) := ?_
            · show (do pure (.value (← Instr.makeSlice t (conc j (ρ l)) (conc j (ρ c)))) : Sem Next).run E.P w = _
              rw [hlv, hcv]
              simp only [Sem.run_bind]
              rw [show (Instr.makeSlice t (conc j (.int k1 (Int.ofNat lv))) (conc j (.int k2 (Int.ofNat cv)))).run E.P w = _ from hml]
              rfl
            unfold Instr.makeSlice
            rw [Sem.run_bind, run_und hE hd]
            simp only [Result.andThen_ok]
            rw [Sem.run_bind]
            simp only [asInt, asIntOf, Sem.run_bind, Sem.run_pure, Result.andThen_ok]
            rw [hti]
            simp only [Result.andThen_ok]
            rw [hw1, hw2]
            rw [if_neg (by rw [ht1]; simp; omega)]
            simp only [Sem.run_bind, run_askRoom', Result.andThen_ok, size_ok hE hs, Int.toNat_natCast]
            by_cases h0 : cv * s = 0
            · simp only [h0, if_true] at harr ⊢
              simp only [Sem.run_bind, Sem.run_pure, Result.andThen_ok, harr, run_newRow']
            · simp only [h0, if_false] at harr ⊢
              simp only [Sem.run_bind, Sem.run_pure, Result.andThen_ok, h1, harr, run_newRow']
          · simp [sliceTo, ca, ccap, upd_same, hc5]
        · cases h
      · cases h
    · cases h
end
end Go.Ai
namespace Go.Ai
noncomputable section
variable {E : Env} (hE : EnvOk E)

theorem splice_get {cs cs' rs : List Value} {o : Nat} (h : splice cs o rs = some cs') (i : Nat) :
    cs'[i]? = if o ≤ i ∧ i < o + rs.length then rs[i - o]? else cs[i]? := by
  induction rs generalizing cs o with
  | nil => rw [splice_nil] at h; cases h; rw [if_neg (by rintro ⟨a, b⟩; simp at b; omega)]
  | cons r rs ih =>
    obtain ⟨h1, h2⟩ := splice_cons h
    rw [ih h2]
    by_cases e : i = o
    · subst e
      rw [if_neg (by omega), if_pos (by simp)]
      simp [h1]
    · rw [List.getElem?_set_ne (Ne.symm e)]
      by_cases e2 : o + 1 ≤ i ∧ i < o + 1 + rs.length
      · rw [if_pos e2, if_pos (by simp; omega)]
        rw [show i - o = (i - (o + 1)) + 1 by omega]
        rfl
      · rw [if_neg e2, if_neg (by simp; omega)]
theorem setCells_heap (b : Nat) : ∀ (vs : List Value) (o : Nat) (w : World) (r : Nat), r ≠ b → (w.setCells b o vs).heap[r]? = w.heap[r]?
  | [], _, _, _, _ => rfl
  | v :: vs, o, w, r, h => by rw [World.setCells, setCells_heap b vs _ _ r h]; exact RowKit.Below.heap_setCell _ _ _ _ h
theorem setCells_same (b : Nat) : ∀ (vs : List Value) (o : Nat) (w : World), (w.setCells b o vs).heap.size = w.heap.size ∧ (w.setCells b o vs).os = w.os ∧ (w.setCells b o vs).tape = w.tape ∧ (w.setCells b o vs).output = w.output
  | [], _, _ => ⟨rfl, rfl, rfl, rfl⟩
  | v :: vs, o, w => by
    obtain ⟨h1, h2, h3, h4⟩ := setCells_same b vs (o + 1) (w.setCell ⟨b, o, none⟩ v)
    rw [World.setCells]
    exact ⟨h1.trans (by simp), h2, h3, h4⟩
theorem conc_one {j : Nat → RB} {v : Value} (h : v.oneCell' = true) : (conc j v).oneCell' = true := by
  cases v with
  | agg cs => simp [Value.oneCell'] at h
  | tuple cs => simp [Value.oneCell'] at h
  | pointer a => cases a <;> rfl
  | slice a l c => cases a <;> rfl
  | map r => cases r <;> rfl
  | func f a b => simp [Value.oneCell']
  | chan r => cases r <;> rfl
  | _ => rfl
/-- Cells are written. -/
theorem cells_written {j : Nat → RB} {rb : RB} {w : World} {g : Nat} {cs cs' vs : List Value} {off : Nat} (h : BlkAt j rb w (.cells true g cs)) (hs : splice cs off vs = some cs')
    (h1 : ∀ v ∈ vs, v.oneCell' = true) (P : Program) :
    (storeCells ⟨rb.blk, rb.off + off, none⟩ (vs.map (conc j))).run P w = .ok () (w.setCells rb.blk (rb.off + off) (vs.map (conc j))) ∧
    BlkAt j rb (w.setCells rb.blk (rb.off + off) (vs.map (conc j))) (.cells true g cs') := by
  obtain ⟨hl1, hl2⟩ := splice_len hs
  have hin : ∀ i, i < vs.length → ∃ v, cs[off + i]? = some v := fun i hi => by
    have hne : vs ≠ [] := by intro e; subst e; simp at hi
    have := hl2 hne
    exact ⟨_, List.getElem?_eq_getElem (by omega)⟩
  have hcell : ∀ i, i < (vs.map (conc j)).length → (w.cell? ⟨rb.blk, rb.off + off + i, none⟩).isSome = true := fun i hi => by
    obtain ⟨v, hv⟩ := hin i (by simpa using hi)
    have := (h.1 _ _ hv).1
    rw [show rb.off + off + i = rb.off + (off + i) by omega, this]; rfl
  have hfro : ∀ i, i < (vs.map (conc j)).length → w.frozen? ⟨rb.blk, rb.off + off + i, none⟩ = false := fun i hi => by
    obtain ⟨v, hv⟩ := hin i (by simpa using hi)
    have := (h.1 _ _ hv).2 rfl
    rw [show rb.off + off + i = rb.off + (off + i) by omega, this]
  refine ⟨?_, fun i v hv => ⟨?_, fun _ => ?_⟩, fun s hg => ?_⟩
  · have := run_storeCells_cells (P := P) rb.blk (rb.off + off) (vs.map (conc j)) 0 w (by simpa using hcell) (by simpa using hfro)
      (fun v hv => by simp only [List.mem_map] at hv; obtain ⟨u, hu, rfl⟩ := hv; exact conc_one (h1 u hu))
    simpa using this
  · rw [splice_get hs] at hv
    split at hv
    · rename_i hr
      have hlt : i - off < (vs.map (conc j)).length := by simp; omega
      have := World.cell?_setCells_in rb.blk (vs.map (conc j)) (rb.off + off) w hcell (i - off) hlt
      rw [show rb.off + off + (i - off) = rb.off + i by omega] at this
      rw [this]
      have hg := List.getElem?_eq_some_iff.1 hv
      obtain ⟨_, e⟩ := hg
      simp [e]
    · rename_i hr
      rw [World.cell?_setCells_out _ _ _ _ _ (fun _ _ => by simp; omega)]
      exact (h.1 i v hv).1
  · rw [World.frozen?_setCells]
    have : i < cs.length := by
      rw [← hl1]
      exact (List.getElem?_eq_some_iff.1 hv).1
    exact (h.1 i _ (List.getElem?_eq_getElem this)).2 rfl
  · obtain ⟨h2, h3⟩ := h.2 s hg
    refine ⟨by rw [hl1]; exact h2, fun i hi hc => ?_⟩
    rw [hl1] at hi
    rw [World.frozen?_setCells, World.cell?_setCells_out _ _ _ _ _ (fun _ _ => by
      by_cases hne : vs = []
      · simp [hne]; omega
      · have := hl2 hne; simp; omega)]
    exact h3 i hi hc

theorem modify_map (f : MapEntry → MapEntry) (es : List MapEntry) (i : Nat) (k v k' v' : Value) (hf : ∀ e : MapEntry, (f { e with key := k, val := v }) = { f e with key := k', val := v' }) :
    (modify es i k v).map f = modify (es.map f) i k' v' := by
  induction es generalizing i with
  | nil => rfl
  | cons e es ih => cases i with
    | zero => simp [modify, hf]
    | succ i => simp [modify, ih]
theorem modify_eq (es : List MapEntry) (i : Nat) (k v : Value) : (⟨es⟩ : Array MapEntry).modify i (fun e => { e with key := k, val := v }) = ⟨modify es i k v⟩ := by
  apply Array.ext'
  simp only [Array.toList_modify]
  induction es generalizing i with
  | nil => simp [modify]
  | cons e es ih => cases i with
    | zero => simp [modify]
    | succ i => simpa [modify] using ih i
theorem modify_mem {es : List MapEntry} {i : Nat} {k v : Value} {e : MapEntry} (h : e ∈ modify es i k v) : e ∈ es ∨ (e.key = k ∧ e.val = v) := by
  induction es generalizing i with
  | nil => simp [modify] at h
  | cons x es ih => cases i with
    | zero => simp [modify] at h; rcases h with h | h; exact .inr (by simp [h]); exact .inl (by simp [h])
    | succ i => simp [modify] at h; rcases h with h | h; exact .inl (by simp [h]); rcases ih h with h | h; exact .inl (by simp [h]); exact .inr h
/-- What a write leaves. -/
structure Wrote (j : Nat → RB) (D : Nat → Prop) (rb : RB) (w w' : World) (B B' : Blk) : Prop where
  live : B.live ∧ B'.live
  at' : BlkAt j rb w' B'
  sc : BlkSc D B'
  size : w'.heap.size = w.heap.size
  os : w'.os = w.os
  tape : w'.tape = w.tape
  output : w'.output = w.output
  oth : ∀ r, r ≠ rb.blk → w'.heap[r]? = w.heap[r]?
theorem Wrote.cells {j : Nat → RB} {D : Nat → Prop} {rb : RB} {w : World} {g : Nat} {cs cs' vs : List Value} {off : Nat} (h : BlkAt j rb w (.cells true g cs)) (hsc : BlkSc D (.cells true g cs)) (hs : splice cs off vs = some cs')
    (h1 : ∀ v ∈ vs, v.oneCell' = true) (hv : ∀ v ∈ vs, Sc D v) (P : Program) :
    (storeCells ⟨rb.blk, rb.off + off, none⟩ (vs.map (conc j))).run P w = .ok () (w.setCells rb.blk (rb.off + off) (vs.map (conc j))) ∧
    Wrote j D rb w (w.setCells rb.blk (rb.off + off) (vs.map (conc j))) (.cells true g cs) (.cells true g cs') := by
  obtain ⟨a, b⟩ := cells_written h hs h1 P
  obtain ⟨c1, c2, c3, c4⟩ := setCells_same rb.blk (vs.map (conc j)) (rb.off + off) w
  exact ⟨a, ⟨trivial, trivial⟩, b, fun v hv' => (splice_mem hs hv').elim (hsc v) (hv v), c1, c2, c3, c4, fun r hr => setCells_heap _ _ _ _ _ hr⟩
theorem Wrote.putObj {j : Nat → RB} {D : Nat → Prop} {rb : RB} {w : World} {B B' : Blk} (o : Obj) (hl : B.live ∧ B'.live) (hlt : rb.blk < w.heap.size)
    (hat : BlkAt j rb (w.putObj rb.blk o) B') (hsc : BlkSc D B') : Wrote j D rb w (w.putObj rb.blk o) B B' :=
  ⟨hl, hat, hsc, World.putObj_size, rfl, rfl, rfl, fun _ hr => World.putObj_heap_other hr⟩
include hE
theorem store_ok {t : TypeId} {a x : Value} {B B' : Blk} {D : Nat → Prop} {j : Nat → RB} {w : World} {b : Nat} (h : storeA E t a x (some B) = some B') (ha : ptrB a = some b) (hx : Sc D x)
    (hat : BlkAt j (j b) w B) (hsc : BlkSc D B) : ∃ w', (Instr.storeAt t (conc j a) (conc j x)).run E.P w = .ok () w' ∧ Wrote j D (j b) w w' B B' := by
  unfold storeA at h
  split at h
  · split at h
    · rename_i b' off s
      split at h
      · split at h
        · rename_i B0 hB0
          cases hB0
          split at h
          · rename_i rw_ g cs
            split at h
            · split at h
              · rename_i s hs
                split at h
                · rename_i hc
                  split at h
                  · rename_i cs' hsp
                    cases h
                    simp only [Bool.and_eq_true] at hc
                    have hlen : (vcells x).length = s := Nat.eq_of_beq_eq_true hc.1
                    have hb : b' = b := by simpa [ptrB] using ha
                    subst hb
                    obtain ⟨hr, hw⟩ := Wrote.cells hat hsc hsp (fun v hv => List.all_eq_true.1 hc.2 v hv) (vcells_sc hx) E.P
                    refine ⟨_, ?_, hw⟩
                    simp only [conc_ptr, Instr.storeAt, Instr.sureAddr, Sem.run_bind, Sem.run_pure, Result.andThen_ok, storeVar, size_ok hE hs]
                    rw [if_neg (by simp [cells_conc, hlen])]
                    simp only [Sem.run_bind, Sem.run_pure, Result.andThen_ok, vcells_conc]
                    exact hr
                  · cases h
                · cases h
              · cases h
            · cases h
          · cases h
        · cases h
      · cases h
    · cases h
  · cases h
theorem update_ok {t : TypeId} {m k x : Value} {B B' : Blk} {D : Nat → Prop} {j : Nat → RB} {w : World} {b : Nat} (h : updateA E t m k x (some B) = some B') (ha : ptrB m = some b) (hk : Sc D k) (hx : Sc D x)
    (hat : BlkAt j (j b) w B) (hsc : BlkSc D B) (hlt : (j b).blk < w.heap.size) : ∃ w', (Instr.mapUpdate t (conc j m) (conc j k) (conc j x)).run E.P w = .ok () w' ∧ Wrote j D (j b) w w' B B' := by
  unfold updateA at h
  split at h
  · rename_i kt elem r es c hd hB
    cases hB
    have hb : r = b := by simpa [ptrB] using ha
    subst hb
    have hm : w.heap[(j r).blk]? = some (.map ⟨es.map (concE j)⟩ c) := hat
    have hg : (getObj (j r).blk).run E.P w = .ok (.map ⟨es.map (concE j)⟩ c) w := by simp [getObj, Sem.run, hm]
    have hset : ∀ o, (setObj (j r).blk o).run E.P w = .ok () (w.putObj (j r).blk o) := fun o => by simp [setObj, Sem.run, hm, World.putObj]
    have hput : ∀ o, (w.putObj (j r).blk o).heap[(j r).blk]? = some o := fun o => World.putObj_heap_same hlt
    have hne : ∀ es' : List MapEntry, es' = es → Sem.run E.P (Instr.checkKey false 10000 kt k) w = .ok () w → True := fun _ _ _ => trivial
    split at h
    · rename_i i e hf
      split at h
      · rename_i hbits
        cases h
        obtain ⟨h1, h2, h3, h4⟩ := findA_ok hf j w
        obtain ⟨h5, h6⟩ := h4 _ rfl
        have hck : (Instr.checkKey false 10000 kt k).run E.P w = .ok () w := by
          have : (es.map (concE j)).isEmpty = false := by cases es with
            | nil => simp at h5
            | cons _ _ => rfl
          rw [this] at h2; exact h2
        have hget : (⟨es.map (concE j)⟩ : Array MapEntry)[i]? = some (concE j e) := by simp at h5; simp [h5]
        have hmod : (⟨es.map (concE j)⟩ : Array MapEntry).modify i (fun y => { y with key := k, val := conc j x }) = ⟨(modify es i k x).map (concE j)⟩ := by
          rw [modify_eq, modify_map (concE j) es i k x k (conc j x) (fun y => by simp [concE, h1])]
        refine ⟨_, ?_, Wrote.putObj (.map ⟨(modify es i k x).map (concE j)⟩ c) ⟨trivial, trivial⟩ hlt (hput _) (fun y hy => ?_)⟩
        · simp only [Instr.mapUpdate, conc_map, h1, Sem.run_bind, run_und hE hd, Result.andThen_ok, hg, hck]
          rw [h3]
          simp only [Option.map_some, Result.andThen_ok, Sem.run_bind, hget, Option.getD_some, concE, h6]
          simp only [Instr.keyThatStays, hbits, if_true, Sem.run_pure, Result.andThen_ok]
          rw [hmod, hset]
        · rcases modify_mem hy with hy | ⟨e1, e2⟩
          · exact hsc y hy
          · rw [e1, e2]; exact ⟨hk, hx⟩
      · cases h
    · rename_i hf
      split at h
      · rename_i u hu
        cases h
        obtain ⟨h1, h2, h3, h4⟩ := findA_ok hf j w
        have hck : (Instr.checkKey false 10000 kt k).run E.P w = .ok () w := pureVal_run hu w
        have hpush : (⟨es.map (concE j)⟩ : Array MapEntry).push { key := k, val := conc j x, born := c } = ⟨(es ++ [({ key := k, val := x, born := c } : MapEntry)]).map (concE j)⟩ := by
          simp [concE, h1]
        refine ⟨_, ?_, Wrote.putObj (.map ⟨(es ++ [({ key := k, val := x, born := c } : MapEntry)]).map (concE j)⟩ (c + 1)) ⟨trivial, trivial⟩ hlt (hput _) (fun y hy => ?_)⟩
        · simp only [Instr.mapUpdate, conc_map, h1, Sem.run_bind, run_und hE hd, Result.andThen_ok, hg, hck]
          rw [h3]
          simp only [Option.map_none, Result.andThen_ok]
          rw [hpush, hset]
        · rcases List.mem_append.1 hy with hy | hy
          · exact hsc y hy
          · simp only [List.mem_singleton] at hy; subst hy; exact ⟨hk, hx⟩
      · cases h
    · cases h
  · cases h
omit hE in
theorem setBorn_ok {n : Int} {x : Value} (j : Nat → RB) : ∀ {es es' : List MapEntry}, setBorn es n x = some es' → ∃ i, (es.map (concE j)).findIdx? (fun e => (e.born : Int) == n) = some i ∧ (es.map (concE j)).modify i (fun e => { e with val := conc j x }) = es'.map (concE j) := by
  intro es
  induction es with
  | nil => intro es' h; cases h
  | cons e es ih =>
    intro es' h
    simp only [setBorn] at h
    split at h
    · rename_i hb
      cases h
      rw [eqI_eq] at hb
      have hb : ((e.born : Int) == n) = true := hb
      refine ⟨0, ?_, rfl⟩
      rw [List.map_cons, List.findIdx?_cons]
      simp only [concE, hb, if_true]
    · rename_i hb
      rw [eqI_eq] at hb
      have hb : ((e.born : Int) == n) = false := hb
      split at h
      · rename_i r hr
        cases h
        obtain ⟨i, h1, h2⟩ := ih hr
        refine ⟨i + 1, ?_, ?_⟩
        · rw [List.map_cons, List.findIdx?_cons]
          simp only [concE, hb, Bool.false_eq_true, if_false]
          rw [show (es.map (concE j)).findIdx? (fun e => (e.born : Int) == n) = some i from h1]
          rfl
        · rw [List.map_cons, List.modify_succ_cons, h2]
          rfl
      · cases h
omit hE in
theorem setBorn_mem {n : Int} {x : Value} : ∀ {es es' : List MapEntry}, setBorn es n x = some es' → ∀ y ∈ es', y ∈ es ∨ ∃ e ∈ es, y.key = e.key ∧ y.val = x := by
  intro es
  induction es with
  | nil => intro es' h; cases h
  | cons e es ih =>
    intro es' h y hy
    simp only [setBorn] at h
    split at h
    · cases h
      rcases List.mem_cons.1 hy with rfl | hy
      · exact .inr ⟨e, by simp, rfl, rfl⟩
      · exact .inl (by simp [hy])
    · split at h
      · rename_i r hr
        cases h
        rcases List.mem_cons.1 hy with rfl | hy
        · exact .inl (by simp)
        · rcases ih hr y hy with h | ⟨e', he', h⟩
          · exact .inl (by simp [h])
          · exact .inr ⟨e', by simp [he'], h⟩
      · cases h
theorem entry_ok {t : TypeId} {m s x : Value} {B B' : Blk} {D : Nat → Prop} {j : Nat → RB} {w : World} {b : Nat} (h : entryA m s x (some B) = some B') (ha : ptrB m = some b) (hx : Sc D x)
    (hat : BlkAt j (j b) w B) (hsc : BlkSc D B) (hlt : (j b).blk < w.heap.size) : ∃ w', (Instr.entryStore t (conc j m) (conc j s) (conc j x)).run E.P w = .ok () w' ∧ Wrote j D (j b) w w' B B' := by
  unfold entryA at h
  split at h
  · rename_i r k n es c hB
    cases hB
    have hb : r = b := by simpa [ptrB] using ha
    subst hb
    split at h
    · rename_i es' hs
      cases h
      have hm : w.heap[(j r).blk]? = some (.map ⟨es.map (concE j)⟩ c) := hat
      have hg : (getObj (j r).blk).run E.P w = .ok (.map ⟨es.map (concE j)⟩ c) w := by simp [getObj, Sem.run, hm]
      have hset : ∀ o, (setObj (j r).blk o).run E.P w = .ok () (w.putObj (j r).blk o) := fun o => by simp [setObj, Sem.run, hm, World.putObj]
      have hput : ∀ o, (w.putObj (j r).blk o).heap[(j r).blk]? = some o := fun o => World.putObj_heap_same hlt
      obtain ⟨i, h1, h2⟩ := setBorn_ok j hs
      have h1' : (⟨es.map (concE j)⟩ : Array MapEntry).findIdx? (fun e => (e.born : Int) == n) = some i := by rw [List.findIdx?_toArray]; exact h1
      have h2' : (⟨es.map (concE j)⟩ : Array MapEntry).modify i (fun e => { e with val := conc j x }) = ⟨es'.map (concE j)⟩ := by rw [List.modify_toArray, h2]
      refine ⟨_, ?_, Wrote.putObj (.map ⟨es'.map (concE j)⟩ c) ⟨trivial, trivial⟩ hlt (hput _) (fun y hy => ?_)⟩
      · simp only [Instr.entryStore, conc_map, conc_int, Sem.run_bind, Sem.run_pure, Result.andThen_ok, hg, asInt, asIntOf, h1', h2', hset]
      · rcases setBorn_mem hs y hy with h | ⟨e, he, e1, e2⟩
        · exact hsc y h
        · rw [e1, e2]; exact ⟨(hsc e he).1, hx⟩
    · cases h
  · cases h
omit hE in
theorem conc_writeVal (j : Nat → RB) (op : Op) : conc j (writeVal op) = writeVal op := by
  unfold writeVal; split <;> simp
/-- EVERY OPERATION THAT WRITES A BLOCK. -/
theorem written_ok {o : Oper} {ρ : Operand → Value} {B B' : Blk} {D : Nat → Prop} {j : Nat → RB} {w : World} {b : Nat} (h : written E o.op ρ (some B) = some B') (hb : writes ρ o.op = some b) (hρ : ∀ x ∈ o.op.operands, Sc D (ρ x))
    (hat : BlkAt j (j b) w B) (hsc : BlkSc D B) (hlt : B.live → (j b).blk < w.heap.size) : ∃ w' N, (execOp (fun x => conc j (ρ x)) o).run E.P w = .ok N w' ∧ (N = .skip ∧ writeVal o.op = undef ∨ N = .value (writeVal o.op)) ∧ Wrote j D (j b) w w' B B' := by
  obtain ⟨d, op, ty, pos, aft, gd⟩ := o
  cases op <;> simp only [written] at h <;> try (cases h; done)
  case store t a x =>
    obtain ⟨w', hr, hw⟩ := store_ok hE h hb (hρ x (by simp [Op.operands])) hat hsc
    exact ⟨w', .skip, by simp [execOp, hr], .inl ⟨rfl, rfl⟩, hw⟩
  case mapUpdate t m k x =>
    have hlt' : (j b).blk < w.heap.size := by
      cases B with
      | map es c => exact hlt trivial
      | _ => simp [updateA] at h
    obtain ⟨w', hr, hw⟩ := update_ok hE h hb (hρ k (by simp [Op.operands])) (hρ x (by simp [Op.operands])) hat hsc hlt'
    exact ⟨w', .skip, by simp [execOp, hr], .inl ⟨rfl, rfl⟩, hw⟩
  case insert t m k x =>
    have hlt' : (j b).blk < w.heap.size := by
      cases B with
      | map es c => exact hlt trivial
      | _ => simp [updateA] at h
    obtain ⟨w', hr, hw⟩ := update_ok hE h hb (hρ k (by simp [Op.operands])) (hρ x (by simp [Op.operands])) hat hsc hlt'
    exact ⟨w', .skip, by simp [execOp, hr], .inl ⟨rfl, rfl⟩, hw⟩
  case entryStore t m s x =>
    have hlt' : (j b).blk < w.heap.size := by
      cases B with
      | map es c => exact hlt trivial
      | _ => simp [entryA] at h
    obtain ⟨w', hr, hw⟩ := entry_ok hE (t := t) h hb (hρ x (by simp [Op.operands])) hat hsc hlt'
    exact ⟨w', .skip, by simp [execOp, hr], .inl ⟨rfl, rfl⟩, hw⟩
  case call c =>
    obtain ⟨callee, args, tys⟩ := c
    cases callee with
    | value f => simp [writtenB] at h
    | invoke r m => simp [writtenB] at h
    | builtin bi =>
      cases bi <;> simp only [writtenB] at h <;> try (cases h; done)
      case clear =>
        unfold clearA at h
        split at h
        · rename_i b' off n cp t ts ha ht
          split at h
          · rename_i elem g cs hd hB
            cases hB
            split at h
            · rename_i s z hs hz
              split at h
              · rename_i hc
                obtain ⟨hc1, hc2, hc3⟩ := hc
                split at h
                · rename_i cs' hsp
                  cases h
                  have hargs : ∃ a, args.toList = [a] ∧ ρ a = .slice (some ⟨b', off, none⟩) n cp := by
                    cases hl : args.toList with
                    | nil => rw [hl] at ha; simp at ha
                    | cons y ys => rw [hl] at ha; simp at ha; exact ⟨y, by simp [ha.2], ha.1⟩
                  obtain ⟨a, hl, hra⟩ := hargs
                  have hbb : b' = b := by simpa [writes, writesB, hl, hra, ptrB] using hb
                  subst hbb
                  have ht0 : tys[0]? = some t := by rw [← Array.getElem?_toList, ht]; rfl
                  have ha0 : (args.map fun x => conc j (ρ x))[0]? = some (conc j (.slice (some ⟨b', off, none⟩) n cp)) := by
                    have : args[0]? = some a := by rw [← Array.getElem?_toList, hl]; rfl
                    simp [this, hra]
                  obtain ⟨z1, z2, z3⟩ := zero_cells hE hz j w
                  have hzsc := Sc.of_addrFree (D := D) (zero_ok hE hz w).2
                  obtain ⟨hr, hw⟩ := Wrote.cells hat hsc hsp (fun v hv => List.all_eq_true.1 hc3 v (rep_mem hv)) (fun v hv => vcells_sc hzsc v (rep_mem hv)) E.P
                  refine ⟨_, .value (.tuple #[]), ?_, .inr rfl, hw⟩
                  have hzc : (Builtin.zeroCells z.cells n).toList = (rep n (vcells z)).map (conc j) := by
                    have hzz : (vcells z).map (conc j) = vcells z := by
                      have h4 := vcells_conc j z
                      rw [z3] at h4
                      have h5 : z.cells.toList = vcells z := by cases z <;> simp [Value.cells, vcells]
                      rw [← h4, h5]
                    rw [rep_map, hzz, ← rep_range]
                    have h5 : z.cells = ⟨vcells z⟩ := by rw [z2, hzz]
                    simp [Builtin.zeroCells, h5]
                  cases n with
                  | zero => exact absurd rfl hc2
                  | succ n =>
                    simp only [execOp, resolve, invoke, builtin, Sem.run_bind, Sem.run_pure, Result.andThen_ok, Builtin.clear_, ht0, ha0, run_und hE hd, conc_slice, ca, z1, hzc, hr]
                · cases h
              · cases h
            · cases h
          · cases h
        · cases h
/-- The entry of a key, made if it is not there. -/
theorem mapEntry_ok {t : TypeId} {m k v : Value} {B B' : Blk} {D : Nat → Prop} {j : Nat → RB} {w : World} {b : Nat} (h : mapEntryA E t m k (some B) = some (B', v)) (ha : ptrB m = some b) (hk : Sc D k)
    (hat : BlkAt j (j b) w B) (hsc : BlkSc D B) (hlt : (j b).blk < w.heap.size) : ∃ w', (Instr.mapEntry t (conc j m) (conc j k)).run E.P w = .ok (conc j v) w' ∧ Wrote j D (j b) w w' B B' ∧ Sc D v := by
  unfold mapEntryA at h
  split at h
  · rename_i kt elem r es c hd hB
    cases hB
    have hb : r = b := by simpa [ptrB] using ha
    subst hb
    have hm : w.heap[(j r).blk]? = some (.map ⟨es.map (concE j)⟩ c) := hat
    have hg : (getObj (j r).blk).run E.P w = .ok (.map ⟨es.map (concE j)⟩ c) w := by simp [getObj, Sem.run, hm]
    have hset : ∀ o, (setObj (j r).blk o).run E.P w = .ok () (w.putObj (j r).blk o) := fun o => by simp [setObj, Sem.run, hm, World.putObj]
    have hput : ∀ o, (w.putObj (j r).blk o).heap[(j r).blk]? = some o := fun o => World.putObj_heap_same hlt
    have tup : ∀ u : Value, ∀ n : Nat, Sc D u → Sc D (.tuple ⟨[u, goInt n]⟩) := fun u n hu j1 j2 e => by simp [hu j1 j2 e, goInt]
    split at h
    · rename_i i e hf
      split at h
      · rename_i hbits
        cases h
        obtain ⟨h1, h2, h3, h4⟩ := findA_ok hf j w
        obtain ⟨h5, h6⟩ := h4 _ rfl
        have hck : (Instr.checkKey false 10000 kt k).run E.P w = .ok () w := by
          have : (es.map (concE j)).isEmpty = false := by cases es with
            | nil => simp at h5
            | cons _ _ => rfl
          rw [this] at h2; exact h2
        have hget : (⟨es.map (concE j)⟩ : Array MapEntry)[i]? = some (concE j e) := by simp at h5; simp [h5]
        have hsame : (⟨es.map (concE j)⟩ : Array MapEntry).modify i (fun y => { y with key := k }) = (⟨es.map (concE j)⟩ : Array MapEntry).modify i (fun y => { y with key := k, val := conc j e.val }) := by
          apply Array.ext_getElem?
          intro n
          rw [Array.getElem?_modify, Array.getElem?_modify]
          split
          · rename_i hn
            subst hn
            rw [hget]
            rfl
          · rfl
        have hmod : (⟨es.map (concE j)⟩ : Array MapEntry).modify i (fun y => { y with key := k }) = ⟨(modify es i k e.val).map (concE j)⟩ := by
          rw [hsame, modify_eq, modify_map (concE j) es i k e.val k (conc j e.val) (fun y => by simp [concE, h1])]
        have hmem : e ∈ es := List.mem_of_getElem? h5
        refine ⟨_, ?_, Wrote.putObj (.map ⟨(modify es i k e.val).map (concE j)⟩ c) ⟨trivial, trivial⟩ hlt (hput _) (fun y hy => ?_), tup _ _ (hsc e hmem).2⟩
        · simp only [Instr.mapEntry, conc_map, h1, Sem.run_bind, run_und hE hd, Result.andThen_ok, hg, hck]
          rw [h3]
          simp only [Option.map_some, Result.andThen_ok, Sem.run_bind, hget, Option.getD_some, concE, h6]
          simp only [Instr.keyThatStays, hbits, if_true, Sem.run_pure, Result.andThen_ok]
          rw [hmod, hset]
          simp [goInt]
        · rcases modify_mem hy with hy | ⟨e1, e2⟩
          · exact hsc y hy
          · rw [e1, e2]; exact ⟨hk, (hsc e hmem).2⟩
      · cases h
    · rename_i hf
      split at h
      · rename_i u z hu hz
        cases h
        obtain ⟨h1, h2, h3, h4⟩ := findA_ok hf j w
        obtain ⟨hz1, hz2⟩ := zero_ok hE hz w
        have hck : (Instr.checkKey false 10000 kt k).run E.P w = .ok () w := pureVal_run hu w
        have hpush : (⟨es.map (concE j)⟩ : Array MapEntry).push { key := k, val := z, born := c } = ⟨(es ++ [({ key := k, val := z, born := c } : MapEntry)]).map (concE j)⟩ := by
          simp [concE, h1, conc_addrFree j hz2]
        refine ⟨_, ?_, Wrote.putObj (.map ⟨(es ++ [({ key := k, val := z, born := c } : MapEntry)]).map (concE j)⟩ (c + 1)) ⟨trivial, trivial⟩ hlt (hput _) (fun y hy => ?_), tup _ _ (Sc.of_addrFree hz2)⟩
        · simp only [Instr.mapEntry, conc_map, h1, Sem.run_bind, run_und hE hd, Result.andThen_ok, hg, hck]
          rw [h3]
          simp only [Option.map_none, Result.andThen_ok, Sem.run_bind, hz1]
          rw [hpush, hset]
          simp [goInt, conc_addrFree j hz2]
        · rcases List.mem_append.1 hy with hy | hy
          · exact hsc y hy
          · simp only [List.mem_singleton] at hy; subst hy; exact ⟨hk, Sc.of_addrFree hz2⟩
      · cases h
    · cases h
  · cases h
end
end Go.Ai
