/- Regions that draw their order, in any frame: where each operation's value and the world are known for each set of operations that are over. No conditions. -/
import Derived.Test.YtcllfjjhijkakaaGreatDoorGC
import Derived.Test.YtcllfjjhijkakaaGreatDoorST
import Derived.Test.YtcllfjjhijkakaaGreatDoorGB
import Derived.Sort.QuietTacIn
set_option linter.all false
namespace Go.Rg
open Go Go.Sort Go.RowKit
section
variable {F : Fence} {n : Nat} {P : Program} {md : Region.Mode}
structure AtSt (ops : Array Oper) (vs : Nat → Value) (a0 : Act) (listed : Array Bool) (a : Act) : Prop where
 defers : a.defers = a0.defers
 size : a.tmps.size = a0.tmps.size
 done : ∀ (j : Nat) (o : Oper) (d : Tmp), listed.getD j false = true → ops[j]? = some o → o.dst = some d → a.tmps.getD d undef = if d < a0.tmps.size then vs j else undef
 other : ∀ t, (∀ (j : Nat) (o : Oper), listed.getD j false = true → ops[j]? = some o → o.dst ≠ some t) → a.tmps.getD t undef = a0.tmps.getD t undef
theorem AtSt.put {ops : Array Oper} {vs : Nat → Value} {a0 a : Act} {listed : Array Bool} {i : Nat} {o : Oper} (h : AtSt ops vs a0 listed a) (ho : ops[i]? = some o) (hi : listed.getD i true = false) (hdist : ∀ (j k : Nat) (x y : Oper) (d : Tmp), ops[j]? = some x → ops[k]? = some y → x.dst = some d → y.dst = some d → j = k) :
  AtSt ops vs a0 (listed.setIfInBounds i true) (a.put o.dst (vs i)) := by
 have hil : i < listed.size := by
  rcases Nat.lt_or_ge i listed.size with h | h
  ·exact h
  ·simp [Array.getD_eq_getD_getElem?, Array.getElem?_eq_none h] at hi
 have lst : ∀ j, (listed.setIfInBounds i true).getD j false = true ↔ j = i ∨ listed.getD j false = true := fun j => by
  by_cases e : j = i
  ·subst e; simp [Array.getD_eq_getD_getElem?, hil]
  ·simp [Array.getD_eq_getD_getElem?, Array.getElem?_setIfInBounds_ne (Ne.symm e), e]
 have hput : (a.put o.dst (vs i)).defers = a.defers ∧ (a.put o.dst (vs i)).tmps.size = a.tmps.size ∧ ∀ t, (a.put o.dst (vs i)).tmps.getD t undef = if o.dst = some t ∧ t < a.tmps.size then vs i else a.tmps.getD t undef := by
  cases hd : o.dst with
  | none => exact ⟨rfl, rfl, fun t => by simp [Act.put]⟩
  | some d =>
   refine ⟨rfl, by simp [Act.put], fun t => ?_⟩
   by_cases e : d = t
   ·subst e
    by_cases hz : d < a.tmps.size
    ·simp [Act.put, Array.getD_eq_getD_getElem?, hz]
    ·simp [Act.put, Array.getD_eq_getD_getElem?, hz]
   ·simp [Act.put, Array.getD_eq_getD_getElem?, Array.getElem?_setIfInBounds_ne e, e]
 obtain ⟨p1, p2, p3⟩ := hput
 refine ⟨p1.trans h.defers, p2.trans h.size, fun j x d hj hx hd => ?_, fun t ht => ?_⟩
 ·rw [p3]
  by_cases e : j = i
  ·subst e
   rw [ho] at hx; cases hx
   rw [← h.size]
   by_cases hz : d < a.tmps.size
   ·simp [hd, hz]
   ·simp [hd, hz, Array.getD_eq_getD_getElem?]
  ·have : ¬ (o.dst = some d ∧ d < a.tmps.size) := fun h1 => e (hdist j i x o d hx ho hd h1.1)
   rw [if_neg this]
   exact h.done j x d (((lst j).1 hj).resolve_left e) hx hd
 ·rw [p3, if_neg (fun h1 => ht i o ((lst i).2 (.inl rfl)) ho h1.1)]
  exact h.other t fun j x hj hx => ht j x ((lst j).2 (.inr hj)) hx
theorem countP_set : ∀ (l : List Bool) (i : Nat), l[i]? = some false → (l.set i true).countP (· == false) + 1 = l.countP (· == false) := by
 intro l
 induction l with
 | nil => intro i h; simp at h
 | cons b l ihl =>
  intro i h
  cases i with
  | zero =>
   simp only [List.getElem?_cons_zero, Option.some.injEq] at h
   subst h; simp
  | succ i =>
   have := ihl i (by simpa using h)
   simp only [List.set_cons_succ, List.countP_cons]
   omega
theorem wpAnyIn_inv {ops : Array Oper} {St : Array Bool → Act → World → Prop} {Q : Exit → Act → World → Prop} (hlow : ∀ (i : Nat) (x : Oper), ops[i]? = some x → ∀ e ∈ x.after, Region.binds md e = true → e.on < i)
  (hop : ∀ (i : Nat) (o : Oper) (listed : Array Bool) (a : Act) (w : World), listed.size = ops.size → ops[i]? = some o → listed.getD i true = false → (∀ e ∈ o.after, Region.binds md e = true → listed.getD e.on false = true) → St listed a w →
   if Region.wanted o (yielded ops a.tmps) then o.wpIn F n P a w (fun a' w' => St (listed.setIfInBounds i true) a' w') Q else (∀ f, o.about P w a.eval = some f → F.fn f) ∧ St (listed.setIfInBounds i true) (a.put o.dst undef) w)
  (hend : ∀ (listed : Array Bool) (a : Act) (w : World), (∀ i, i < ops.size → listed.getD i false = true) → St listed a w → Q .normal a w) :
  ∀ (fuel : Nat) (listed : Array Bool) (a : Act) (w : World), listed.size = ops.size → (listed.toList.countP (· == false)) ≤ fuel → St listed a w → wpAnyIn F n P md ops Q fuel listed a w := by
 have full : ∀ listed : Array Bool, listed.size = ops.size → Region.ready md ops listed = [] → ∀ i, i < ops.size → listed.getD i false = true := by
  intro listed hl hr i
  induction i using Nat.strongRecOn with
  | _ i ih =>
   intro hi
   cases hb : listed.getD i true with
   | true =>
    have : i < listed.size := by omega
    simpa [Array.getD_eq_getD_getElem?, this] using hb
   | false =>
    have : i ∈ Region.ready md ops listed := mem_ready.2 ⟨hb, ops[i], by simp [hi], fun e he hbb => by
     have := hlow i ops[i] (by simp [hi]) e he hbb
     exact ih e.on this (by omega)⟩
    rw [hr] at this; cases this
 intro fuel
 induction fuel with
 | zero =>
  intro listed a w hl hc hw
  have hall : ∀ i, i < ops.size → listed.getD i false = true := fun i hi => by
   have hc0 : listed.toList.countP (· == false) = 0 := by omega
   rw [List.countP_eq_zero] at hc0
   have hil : i < listed.size := by omega
   have := hc0 listed[i] (by simp)
   simpa [Array.getD_eq_getD_getElem?, hil] using this
  refine ⟨?_, hend listed a w hall hw⟩
  rw [List.eq_nil_iff_forall_not_mem]
  intro j hj
  obtain ⟨h1, x, hx, _⟩ := mem_ready.1 hj
  have hjz := (Array.getElem?_eq_some_iff.1 hx).1
  have h2 := hall j hjz
  have : j < listed.size := by omega
  simp [Array.getD_eq_getD_getElem?, this] at h1 h2
  rw [h1] at h2; cases h2
 | succ fuel ih =>
  intro listed a w hl hc hw
  refine ⟨fun h0 => hend listed a w (full listed hl h0) hw, fun i hi => ?_⟩
  obtain ⟨h1, o, ho, h2⟩ := mem_ready.1 hi
  unfold wpOpIn
  simp only [ho]
  have hil : i < listed.size := by
   rcases Nat.lt_or_ge i listed.size with h | h
   ·exact h
   ·simp [Array.getD_eq_getD_getElem?, Array.getElem?_eq_none h] at h1
  have hlf : listed.toList[i]? = some false := by
   have : listed[i] = false := by simpa [Array.getD_eq_getD_getElem?, hil] using h1
   simp [hil, this]
  have hcnt : (listed.setIfInBounds i true).toList.countP (· == false) ≤ fuel := by
   have := countP_set listed.toList i hlf
   rw [Array.toList_setIfInBounds]
   omega
  have hh := hop i o listed a w hl ho h1 h2 hw
  split
  ·rename_i hwt
   rw [if_pos hwt] at hh
   exact Oper.wpIn_mono (fun a' w' hq => ih _ _ _ (by simpa using hl) hcnt hq) hh
  ·rename_i hwt
   rw [if_neg hwt] at hh
   exact ⟨hh.1, ih _ _ _ (by simpa using hl) hcnt hh.2⟩
end
def distFrom : List Oper → Bool
 | [] => true
 | o :: l => (match o.dst with | none => true | some d => l.all fun p => match p.dst with | none => true | some e => !Nat.beq d e) && distFrom l
theorem distFrom_get : ∀ (l : List Oper), distFrom l = true → ∀ (j k : Nat) (x y : Oper) (d : Tmp), l[j]? = some x → l[k]? = some y → x.dst = some d → y.dst = some d → j = k
 | [], _, j, k, x, y, d, hj, _, _, _ => by simp at hj
 | o :: l, h, j, k, x, y, d, hj, hk, hx, hy => by
  simp only [distFrom, Bool.and_eq_true] at h
  have no : ∀ {i : Nat} {z : Oper}, o.dst = some d → l[i]? = some z → z.dst = some d → False := fun {i z} ho hz hzd => by
   rw [ho] at h
   have := List.all_eq_true.1 h.1 z (List.mem_of_getElem? hz)
   rw [hzd] at this
   simp at this
  match j, k, hj, hk with
  | 0, 0, _, _ => rfl
  | 0, k + 1, hj, hk =>
   simp only [List.getElem?_cons_zero, Option.some.injEq] at hj
   subst hj
   exact (no hx (by simpa using hk) hy).elim
  | j + 1, 0, hj, hk =>
   simp only [List.getElem?_cons_zero, Option.some.injEq] at hk
   subst hk
   exact (no hy (by simpa using hj) hx).elim
  | j + 1, k + 1, hj, hk =>
   have := distFrom_get l h.2 j k x y d (by simpa using hj) (by simpa using hk) hx hy
   omega
theorem AtSt.old {l : List Oper} {vs : Nat → Value} {a0 a : Act} {listed : Array Bool} (h : AtSt l.toArray vs a0 listed a) (t : Tmp) (ht : l.all (fun o => match o.dst with | some d => !Nat.beq d t | none => true) = true) : a.tmps.getD t undef = a0.tmps.getD t undef :=
 h.other t fun j o _ ho hd => by
  have := List.all_eq_true.1 ht o (List.mem_of_getElem? (by simpa using ho))
  rw [hd] at this
  simp at this
theorem AtSt.new {l : List Oper} {vs : Nat → Value} {a0 a : Act} {listed : Array Bool} (h : AtSt l.toArray vs a0 listed a) (j : Nat) (hj : listed.getD j false = true) {o : Oper} {d : Tmp} (ho : l[j]? = some o) (hd : o.dst = some d) (hz : d < a0.tmps.size) : a.tmps.getD d undef = vs j := by
 have := h.done j o d hj (by simpa using ho) hd
 rwa [if_pos hz] at this
def on (listed : Array Bool) (i : Nat) : Bool := listed.getD i false
theorem on_set {listed : Array Bool} {i j : Nat} (h : j ≠ i) : on (listed.setIfInBounds i true) j = on listed j := by
 unfold on; simp [Array.getD_eq_getD_getElem?, Array.getElem?_setIfInBounds_ne (Ne.symm h)]
theorem on_self {listed : Array Bool} {i : Nat} (h : i < listed.size) : on (listed.setIfInBounds i true) i = true := by
 unfold on; simp [Array.getD_eq_getD_getElem?, h]
theorem on_no {listed : Array Bool} {i : Nat} (h : listed.getD i true = false) : on listed i = false := by
 unfold on
 simp only [Array.getD_eq_getD_getElem?] at *
 cases hx : listed[i]? with
 | none => rw [hx] at h; cases h
 | some b => rw [hx] at h; simpa using h
theorem AtSt.swap {l : Array Oper} {vs vs' : Nat → Value} {a0 a : Act} {listed : Array Bool} (h : AtSt l vs a0 listed a) (hs : ∀ j, listed.getD j false = true → vs j = vs' j) : AtSt l vs' a0 listed a :=
 ⟨h.defers, h.size, fun j o d hj ho hd => by rw [← hs j hj]; exact h.done j o d hj ho hd, h.other⟩
def Closed (l : List Oper) (listed : Array Bool) : Prop := ∀ (j : Nat) (o : Oper), l[j]? = some o → on listed j = true → ∀ e ∈ o.after, Region.binds .any e = true → on listed e.on = true
theorem on_set_mono {listed : Array Bool} {i j : Nat} (h : on listed j = true) : on (listed.setIfInBounds i true) j = true := by
 by_cases e : j = i
 ·subst e
  refine on_self ?_
  unfold on at h
  rcases Nat.lt_or_ge j listed.size with h1 | h1
  ·exact h1
  ·simp [Array.getD_eq_getD_getElem?, Array.getElem?_eq_none h1] at h
 ·rw [on_set e]; exact h
theorem Closed.set {l : List Oper} {listed : Array Bool} {i : Nat} {o : Oper} (h : Closed l listed) (ho : l[i]? = some o) (h2 : ∀ e ∈ o.after, Region.binds .any e = true → listed.getD e.on false = true) : Closed l (listed.setIfInBounds i true) := fun j x hx hj e he hb => by
 by_cases e1 : j = i
 ·subst e1
  rw [ho] at hx; cases hx
  exact on_set_mono (h2 e he hb)
 ·rw [on_set e1] at hj
  exact on_set_mono (h j x hx hj e he hb)
theorem wpIn_region_inv {F : Fence} {n : Nat} {P : Program} {id : Nat} {Q : Exit → Act → World → Prop} {a0 : Act} {w : World} {l : List Oper} (St : Array Bool → Act → World → Prop) (hm : P.follows .mixedOrders = true) (hlow : lowFrom 0 l = true)
  (h0 : St (Array.replicate l.length false) a0 { w with drawn := w.drawn + 1 })
  (hop : ∀ (i : Nat) (o : Oper) (listed : Array Bool) (a : Act) (w : World), listed.size = l.length → l[i]? = some o → listed.getD i true = false → (∀ e ∈ o.after, Region.binds .any e = true → listed.getD e.on false = true) → Closed l listed → St listed a w →
   if Region.wanted o (yielded l.toArray a.tmps) then o.wpIn F n P a w (fun a' w' => St (listed.setIfInBounds i true) a' w') Q else (∀ f, o.about P w a.eval = some f → F.fn f) ∧ St (listed.setIfInBounds i true) (a.put o.dst undef) w)
  (hend : ∀ (listed : Array Bool) (a : Act) (w : World), (∀ i, i < l.length → listed.getD i false = true) → St listed a w → Q .normal a w) : (Code.region id l.toArray true).wpIn F n P Q a0 w := by
 refine wpIn_region_any hm ?_
 have low : ∀ (i : Nat) (x : Oper), l.toArray[i]? = some x → ∀ e ∈ x.after, Region.binds .any e = true → e.on < i := fun i x hx e he hb => by have := lowFrom_get 0 l hlow i x (by simpa using hx) e he hb; omega
 refine wpAnyIn_inv (ops := l.toArray) (St := fun listed a w => Closed l listed ∧ St listed a w) low (fun i o listed a w hl ho h1 h2 hw => ?_) (fun listed a w hall hw => hend listed a w (by simpa using hall) hw.2) _ _ _ _ (by simp) ?_ ⟨fun j o ho hj => ?_, by simpa using h0⟩
 ·have ho' : l[i]? = some o := by simpa using ho
  have hc := hw.1.set ho' h2
  have := hop i o listed a w (by simpa using hl) ho' h1 h2 hw.1 hw.2
  split
  ·rename_i hwt
   rw [if_pos hwt] at this
   exact Oper.wpIn_mono (fun a' w' hq => ⟨hc, hq⟩) this
  ·rename_i hwt
   rw [if_neg hwt] at this
   exact ⟨this.1, hc, this.2⟩
 ·simp [List.countP_replicate]
 ·unfold on at hj
  simp only [Array.getD_eq_getD_getElem?, Array.getElem?_replicate] at hj
  split at hj <;> simp at hj
theorem wpIn_region_invL {F : Fence} {n : Nat} {P : Program} {id : Nat} {Q : Exit → Act → World → Prop} {a0 : Act} {w : World} {l : List Oper} (St : List Oper → Act → Array Bool → Act → World → Prop) (hm : P.follows .mixedOrders = true) (hlow : lowFrom 0 l = true)
  (h0 : St l a0 (Array.replicate l.length false) a0 { w with drawn := w.drawn + 1 })
  (hop : ∀ (i : Nat) (o : Oper) (listed : Array Bool) (a : Act) (w : World), listed.size = l.length → l[i]? = some o → listed.getD i true = false → (∀ e ∈ o.after, Region.binds .any e = true → listed.getD e.on false = true) → Closed l listed → St l a0 listed a w →
   if Region.wanted o (yielded l.toArray a.tmps) then o.wpIn F n P a w (fun a' w' => St l a0 (listed.setIfInBounds i true) a' w') Q else (∀ f, o.about P w a.eval = some f → F.fn f) ∧ St l a0 (listed.setIfInBounds i true) (a.put o.dst undef) w)
  (hend : ∀ (listed : Array Bool) (a : Act) (w : World), (∀ i, i < l.length → listed.getD i false = true) → St l a0 listed a w → Q .normal a w) : (Code.region id l.toArray true).wpIn F n P Q a0 w :=
 wpIn_region_inv (St l a0) hm hlow h0 hop hend
theorem arr_range (t : Array Value) : t = ((List.range t.size).map fun i => t.getD i undef).toArray := by
 apply Array.ext'
 apply List.ext_getElem?
 intro i
 rcases Nat.lt_or_ge i t.size with h | h
 ·simp [h, Array.getD_eq_getD_getElem?]
 ·simp [h]
theorem AtSt.lit {l : Array Oper} {vs : Nat → Value} {a0 a : Act} {listed : Array Bool} (h : AtSt l vs a0 listed a) {n : Nat} (hn : a0.tmps.size = n) : ∃ y : Nat → Value, (∀ t, a.tmps.getD t undef = y t) ∧ a = { tmps := ((List.range n).map y).toArray, defers := a0.defers } := by
 refine ⟨fun t => a.tmps.getD t undef, fun _ => rfl, ?_⟩
 have := arr_range a.tmps
 rw [h.size, hn] at this
 obtain ⟨tm, df⟩ := a
 simp only at this ⊢
 rw [← this, ← h.defers]
end Go.Rg
namespace Go.Proofs.YtcllfjjhijkakaaGreatDoor
open Go.RowKit Go.Sort Go.Rg
set_option maxRecDepth 100000
attribute [local go_sem] Oper.semAt_some
structure Tells (c : Choir) (boy : Nat) (x : Boy) (W : World) (g : Nat) (caps : Array Value) (f : List Int → Int × Bool) : Prop where
 enter : ∀ args w, (callFunc g args).run Tryz.prog w = .ok (.enter g args) w
 call : ∀ A n, Kept W A → n ∈ c.B.truths boy x → Calls Tryz.prog g (#[encT c boy n] ++ caps) A fun e B => e = .returned (.tuple #[.int .i64 (f n).1, .bool (f n).2]) ∧ Kept A B
end Go.Proofs.YtcllfjjhijkakaaGreatDoor
namespace Go.Proofs.YtcllfjjhijkakaaGreatDoor
open Go.RowKit Go.Sort Go.Rg
set_option maxRecDepth 100000
attribute [local go_sem] Oper.semAt_some
end Go.Proofs.YtcllfjjhijkakaaGreatDoor
namespace Go.Proofs.YtcllfjjhijkakaaGreatDoor
open Go.RowKit Go.Sort Go.Rg
set_option maxRecDepth 100000
attribute [local go_sem] Oper.semAt_some
def ErrP (B : Book) (cond : Bool) (err : Int) : Prop := (err = 20 ∧ B.okB = false) ∨ (err = 21 ∧ B.okB = true ∧ cond = false) ∨ (err = 22 ∧ B.okB = true ∧ cond = true ∧ ¬ Can B)
structure OpenReg (W0 : World) (B : Book) (cond : Bool) (v : Value) (err : Int) (p : Nat) (o4 o8 o9 : Bool) (w : World) : Prop where
 kept : Kept W0 w
 box : o8 = true → W0.heap.size ≤ p ∧ (∃ f0 f1 f2 f3, w.cell? ⟨p, 0, none⟩ = some f0 ∧ w.cell? ⟨p, 1, none⟩ = some f1 ∧ w.cell? ⟨p, 2, none⟩ = some f2 ∧ w.cell? ⟨p, 3, none⟩ = some f3) ∧ ∀ i, w.frozen? ⟨p, i, none⟩ = false
 res : o4 = true → (err = 0 ∧ B.okB = true ∧ cond = true ∧ Can B ∧ ∃ (c : Choir) (S : Nat → Prop), c.B = B ∧ v = c.val ∧ ChoirAt S w c ∧ (∀ b, S b → b < w.heap.size) ∧ (o8 = true → ¬ S p)) ∨ (v = zeroChoir ∧ ErrP B cond err)
 put : o9 = true → o8 = true ∧ ∃ x0 x1 x2 x3, v = .agg #[x0, x1, x2, x3] ∧ w.cell? ⟨p, 0, none⟩ = some x0 ∧ w.cell? ⟨p, 1, none⟩ = some x1 ∧ w.cell? ⟨p, 2, none⟩ = some x2 ∧ w.cell? ⟨p, 3, none⟩ = some x3
section
variable {W0 : World} {B : Book} {cond : Bool} {v : Value} {err : Int} {p : Nat} {o4 o8 o9 : Bool} {w w' : World}
theorem OpenReg.go (h : OpenReg W0 B cond v err p o4 o8 o9 w) (k : Kept w w') : OpenReg W0 B cond v err p o4 o8 o9 w' where
 kept := kept_trans h.kept k
 box := fun e => by
  obtain ⟨h1, ⟨f0, f1, f2, f3, a0, a1, a2, a3⟩, h3⟩ := h.box e
  exact ⟨h1, ⟨f0, f1, f2, f3, kcell k a0, kcell k a1, kcell k a2, kcell k a3⟩, fun i => ((kturns k (fun _ => False)).frozen (Go.Ai.lt_of_cell a0) (fun h => h)).trans (h3 i)⟩
 res := fun e => (h.res e).imp (fun ⟨h1, h2, h3, h4, c, S, h5, h6, h7, h8, h9⟩ => ⟨h1, h2, h3, h4, c, S, h5, h6, h7.turns (kturns k (fun _ => False)) (fun _ _ h => h), fun b hb => Nat.lt_of_lt_of_le (h8 b hb) k.size, h9⟩) id
 put := fun e => by
  obtain ⟨h0, x0, x1, x2, x3, e1, a0, a1, a2, a3⟩ := h.put e
  exact ⟨h0, x0, x1, x2, x3, e1, kcell k a0, kcell k a1, kcell k a2, kcell k a3⟩
theorem OpenReg.opened (h : OpenReg W0 B cond v err p o4 o8 o9 w) (n0 : Nat) (hn : n0 ≤ W0.heap.size) (h9 : o9 = false) {e : Ending} (ho : OpenP B cond n0 w e w') :
  ∃ v' err', e = .returned (.tuple #[v', .int .i64 err']) ∧ OpenReg W0 B cond v' err' p true o8 o9 w' := by
 obtain ⟨v', err', rfl, k, hr⟩ := ho
 have hb := (h.go k).box
 refine ⟨v', err', rfl, kept_trans h.kept k, hb, fun _ => ?_, fun e => by rw [h9] at e; cases e⟩
 rcases hr with ⟨h1, h2, h3, h4, c, h5, h6, h7⟩ | hz
 ·refine .inl ⟨h1, h2, h3, h4, c, _, h5, h6, h7, fun b hb => hb.1, fun e8 hS => ?_⟩
  obtain ⟨b1, ⟨f0, _, _, _, a0, _⟩, _⟩ := h.box e8
  have := Go.Ai.lt_of_cell a0
  have := hS.2
  omega
 ·exact .inr hz
theorem OpenReg.boxed (h : OpenReg W0 B cond v err p o4 false o9 w) (h9 : o9 = false) :
  OpenReg W0 B cond v err w.heap.size o4 true o9 (w.alloc (Obj.cells #[.slice none 0 0, .int .i64 0, .slice none 0 0, .map none] 83)) := by
 have k : Kept w (w.alloc (Obj.cells #[.slice none 0 0, .int .i64 0, .slice none 0 0, .map none] 83)) := kept_alloc (kept_refl _) _
 refine ⟨kept_trans h.kept k, fun _ => ⟨h.kept.size, ⟨.slice none 0 0, .int .i64 0, .slice none 0 0, .map none, by go_simp, by go_simp, by go_simp, by go_simp⟩, fun i => by go_simp⟩, fun e4 => ?_, fun e => by rw [h9] at e; cases e⟩
 ·rcases h.res e4 with ⟨h1, h2, h3, h4, c, S, h5, h6, h7, h8, _⟩ | hz
  ·exact .inl ⟨h1, h2, h3, h4, c, S, h5, h6, h7.turns (kturns k (fun _ => False)) (fun _ _ h => h), fun b hb => Nat.lt_of_lt_of_le (h8 b hb) k.size, fun _ hS => by have := h8 _ hS; omega⟩
  ·exact .inr hz
theorem OpenReg.stored {x0 x1 x2 x3 : Value} (h : OpenReg W0 B cond v err p o4 true false w) (hv : v = .agg #[x0, x1, x2, x3]) :
  OpenReg W0 B cond v err p o4 true true ((((w.setCell ⟨p, 0, none⟩ x0).setCell ⟨p, 1, none⟩ x1).setCell ⟨p, 2, none⟩ x2).setCell ⟨p, 3, none⟩ x3) := by
 obtain ⟨hb, ⟨f0, f1, f2, f3, a0, a1, a2, a3⟩, hf⟩ := h.box rfl
 have hT : Turns (fun b => b = p) w ((((w.setCell ⟨p, 0, none⟩ x0).setCell ⟨p, 1, none⟩ x1).setCell ⟨p, 2, none⟩ x2).setCell ⟨p, 3, none⟩ x3) := Turns.setCell (T := fun b => b = p) (Turns.setCell (T := fun b => b = p) (Turns.setCell (T := fun b => b = p) (Turns.setCell (T := fun b => b = p) (Turns.refl _ _) rfl _ _) rfl _ _) rfl _ _) rfl _ _
 have c0 : ((((w.setCell ⟨p, 0, none⟩ x0).setCell ⟨p, 1, none⟩ x1).setCell ⟨p, 2, none⟩ x2).setCell ⟨p, 3, none⟩ x3).cell? ⟨p, 0, none⟩ = some x0 := by
  rw [cell_set_ne (by omega), cell_set_ne (by omega), cell_set_ne (by omega), cell_set_eq a0]
 have c1 : ((((w.setCell ⟨p, 0, none⟩ x0).setCell ⟨p, 1, none⟩ x1).setCell ⟨p, 2, none⟩ x2).setCell ⟨p, 3, none⟩ x3).cell? ⟨p, 1, none⟩ = some x1 := by
  rw [cell_set_ne (by omega), cell_set_ne (by omega)]; exact cell_set_eq ((cell_set_ne (by omega)).trans a1)
 have c2 : ((((w.setCell ⟨p, 0, none⟩ x0).setCell ⟨p, 1, none⟩ x1).setCell ⟨p, 2, none⟩ x2).setCell ⟨p, 3, none⟩ x3).cell? ⟨p, 2, none⟩ = some x2 := by
  rw [cell_set_ne (by omega)]; exact cell_set_eq ((cell_set_ne (by omega)).trans ((cell_set_ne (by omega)).trans a2))
 have c3 : ((((w.setCell ⟨p, 0, none⟩ x0).setCell ⟨p, 1, none⟩ x1).setCell ⟨p, 2, none⟩ x2).setCell ⟨p, 3, none⟩ x3).cell? ⟨p, 3, none⟩ = some x3 :=
  cell_set_eq ((cell_set_ne (by omega)).trans ((cell_set_ne (by omega)).trans ((cell_set_ne (by omega)).trans a3)))
 refine ⟨Below.trans h.kept (hT.toBelow (n := W0.heap.size) (by rintro b rfl; exact hb) h.kept.size), fun _ => ⟨hb, ⟨_, _, _, _, c0, c1, c2, c3⟩, fun i => ?_⟩, fun e4 => ?_, fun _ => ⟨rfl, _, _, _, _, hv, c0, c1, c2, c3⟩⟩
 ·rw [World.frozen?_setCell, World.frozen?_setCell, World.frozen?_setCell, World.frozen?_setCell]; exact hf i
 ·rcases h.res e4 with ⟨h1, h2, h3, h4, c, S, h5, h6, h7, h8, h9⟩ | hz
  ·exact .inl ⟨h1, h2, h3, h4, c, S, h5, h6, h7.turns hT (fun b hb e => h9 rfl (e ▸ hb)), fun b hb => Nat.lt_of_lt_of_le (h8 b hb) hT.size, fun _ => h9 rfl⟩
  ·exact .inr hz
theorem OpenReg.start (W0 : World) (B : Book) (cond : Bool) : OpenReg W0 B cond undef 0 0 false false false W0.drew :=
 ⟨kept_drew (kept_refl _), (fun e => nomatch e), (fun e => nomatch e), (fun e => nomatch e)⟩
end
def openVs (O : Nat) (pre : Nat → Value) (v : Value) (err : Int) (p : Nat) (j : Nat) : Value :=
 if j < O then pre j else match j - O with
 | 0 => .tuple #[v, .int .i64 err]
 | 1 => .tuple #[v, .int .i64 err]
 | 2 => v
 | 3 => .int .i64 err
 | 4 => .pointer (some ⟨p, 0, none⟩)
 | 6 => .int .i64 err
 | _ => undef
def StO (O : Nat) (pre : Nat → Value) (W0 : World) (B : Book) (cond : Bool) (l : List Oper) (a0 : Act) (listed : Array Bool) (a : Act) (w : World) : Prop :=
 ∃ v err p, AtSt l.toArray (openVs O pre v err p) a0 listed a ∧ OpenReg W0 B cond v err p (on listed O) (on listed (O + 4)) (on listed (O + 5)) w
section
variable {l : List Oper} {a0 a : Act} {O : Nat} {pre : Nat → Value} {W0 w w' : World} {B : Book} {cond : Bool} {listed : Array Bool} {v : Value} {err : Int} {p i : Nat} {o : Oper}
theorem dist_arr (hd : distFrom l = true) : ∀ (j k : Nat) (x y : Oper) (d : Tmp), l.toArray[j]? = some x → l.toArray[k]? = some y → x.dst = some d → y.dst = some d → j = k :=
 fun j k x y d hj hk hx hy => distFrom_get l hd j k x y d (by simpa using hj) (by simpa using hk) hx hy
theorem StO.start : StO O pre W0 B cond l a0 (Array.replicate l.length false) a0 W0.drew := by
 have no : ∀ j, on (Array.replicate l.length false) j = false := fun j => by
  unfold on
  simp only [Array.getD_eq_getD_getElem?, Array.getElem?_replicate]
  split <;> simp
 refine ⟨undef, 0, 0, ⟨rfl, rfl, fun j o d hj => ?_, fun t _ => rfl⟩, by rw [no, no, no]; exact OpenReg.start W0 B cond⟩
 have := no j
 unfold on at this
 rw [this] at hj; cases hj
theorem StO.same (hd : distFrom l = true) (ha : AtSt l.toArray (openVs O pre v err p) a0 listed a) (hw : OpenReg W0 B cond v err p (on listed O) (on listed (O + 4)) (on listed (O + 5)) w) (ho : l[i]? = some o) (h1 : listed.getD i true = false)
  (i4 : i ≠ O) (i8 : i ≠ O + 4) (i9 : i ≠ O + 5) (k : Kept w w') : StO O pre W0 B cond l a0 (listed.setIfInBounds i true) (a.put o.dst (openVs O pre v err p i)) w' :=
 ⟨v, err, p, ha.put (by simpa using ho) h1 (dist_arr hd), by rw [on_set (Ne.symm i4), on_set (Ne.symm i8), on_set (Ne.symm i9)]; exact hw.go k⟩
theorem StO.sm (hd : distFrom l = true) (ha : AtSt l.toArray (openVs O pre v err p) a0 listed a) (hw : OpenReg W0 B cond v err p (on listed O) (on listed (O + 4)) (on listed (O + 5)) w) (ho : l[i]? = some o) (h1 : listed.getD i true = false)
  (ii : i ≠ O ∧ i ≠ O + 4 ∧ i ≠ O + 5) : Hid (StO O pre W0 B cond l a0 (listed.setIfInBounds i true) (a.put o.dst (openVs O pre v err p i)) w) := Lib.hid (StO.same hd ha hw ho h1 ii.1 ii.2.1 ii.2.2 (kept_refl w))
theorem StO.opened (hd : distFrom l = true) (ha : AtSt l.toArray (openVs O pre v err p) a0 listed a) (hl : listed.size = l.length) (ho : l[O]? = some o) (h1 : listed.getD O true = false)
  (h5 : on listed (O + 1) = false) (h6 : on listed (O + 2) = false) (h7 : on listed (O + 3) = false) (h9 : on listed (O + 5) = false) (h10 : on listed (O + 6) = false) {v' : Value} {err' : Int} (hw' : OpenReg W0 B cond v' err' p true (on listed (O + 4)) (on listed (O + 5)) w') :
  StO O pre W0 B cond l a0 (listed.setIfInBounds O true) (a.put o.dst (.tuple #[v', .int .i64 err'])) w' := by
 have hs : ∀ j, listed.getD j false = true → openVs O pre v err p j = openVs O pre v' err' p j := fun j hj => by
  have h4 := on_no h1
  unfold on at h4 h5 h6 h7 h9 h10
  unfold openVs
  by_cases hjo : j < O
  ·rw [if_pos hjo, if_pos hjo]
  ·rw [if_neg hjo, if_neg hjo]
   obtain ⟨k, rfl⟩ : ∃ k, j = O + k := ⟨j - O, by omega⟩
   rw [Nat.add_sub_cancel_left]
   match k with
   | 0 => rw [Nat.add_zero, h4] at hj; cases hj
   | 1 => rw [h5] at hj; cases hj
   | 2 => rw [h6] at hj; cases hj
   | 3 => rw [h7] at hj; cases hj
   | 4 => rfl
   | 5 => rfl
   | 6 => rw [h10] at hj; cases hj
   | n + 7 => rfl
 have hz : O < listed.size := by rw [hl]; exact (List.getElem?_eq_some_iff.1 ho).1
 have hv : openVs O pre v' err' p O = .tuple #[v', .int .i64 err'] := by simp [openVs]
 have := (ha.swap hs).put (i := O) (by simpa using ho) h1 (dist_arr hd)
 rw [hv] at this
 exact ⟨v', err', p, this, by rw [on_self hz, on_set (by omega), on_set (by omega)]; exact hw'⟩
theorem StO.boxed (hd : distFrom l = true) (ha : AtSt l.toArray (openVs O pre v err p) a0 listed a) (hw : OpenReg W0 B cond v err p (on listed O) (on listed (O + 4)) (on listed (O + 5)) w) (hl : listed.size = l.length) (ho : l[O + 4]? = some o) (h1 : listed.getD (O + 4) true = false) (h9 : on listed (O + 5) = false) :
  StO O pre W0 B cond l a0 (listed.setIfInBounds (O + 4) true) (a.put o.dst (.pointer (some ⟨w.heap.size, 0, none⟩))) (w.alloc (Obj.cells #[.slice none 0 0, .int .i64 0, .slice none 0 0, .map none] 83)) := by
 have hs : ∀ j, listed.getD j false = true → openVs O pre v err p j = openVs O pre v err w.heap.size j := fun j hj => by
  have h8 := on_no h1
  unfold on at h8
  by_cases e : j = O + 4
  ·subst e; rw [h8] at hj; cases hj
  ·unfold openVs
   by_cases hjo : j < O
   ·rw [if_pos hjo, if_pos hjo]
   ·rw [if_neg hjo, if_neg hjo]
    split <;> first | rfl | (exfalso; omega)
 have hz : O + 4 < listed.size := by rw [hl]; exact (List.getElem?_eq_some_iff.1 ho).1
 have h8 := on_no h1
 rw [h8] at hw
 have hv : openVs O pre v err w.heap.size (O + 4) = .pointer (some ⟨w.heap.size, 0, none⟩) := by
  unfold openVs
  rw [if_neg (by omega), Nat.add_sub_cancel_left]
  rfl
 have := (ha.swap hs).put (i := O + 4) (by simpa using ho) h1 (dist_arr hd)
 rw [hv] at this
 exact ⟨v, err, w.heap.size, this, by rw [on_self hz, on_set (by omega), on_set (by omega)]; exact hw.boxed h9⟩
theorem StO.stored (hd : distFrom l = true) (ha : AtSt l.toArray (openVs O pre v err p) a0 listed a) (hw : OpenReg W0 B cond v err p (on listed O) (on listed (O + 4)) (on listed (O + 5)) w) (hl : listed.size = l.length) (ho : l[O + 5]? = some o) (hno : o.dst = none) (h1 : listed.getD (O + 5) true = false) (h8 : on listed (O + 4) = true)
  {x0 x1 x2 x3 : Value} (hv : v = .agg #[x0, x1, x2, x3]) :
  StO O pre W0 B cond l a0 (listed.setIfInBounds (O + 5) true) a ((((w.setCell ⟨p, 0, none⟩ x0).setCell ⟨p, 1, none⟩ x1).setCell ⟨p, 2, none⟩ x2).setCell ⟨p, 3, none⟩ x3) := by
 have hz : O + 5 < listed.size := by rw [hl]; exact (List.getElem?_eq_some_iff.1 ho).1
 have h9 := on_no h1
 rw [h8, h9] at hw
 have := ha.put (i := O + 5) (by simpa using ho) h1 (dist_arr hd)
 rw [hno] at this
 exact ⟨v, err, p, this, by rw [on_self hz, on_set (by omega), on_set (by omega), h8]; exact hw.stored hv⟩
theorem open_first (hcl : Closed l listed) (h1 : listed.getD O true = false)
  (e1 : ∃ x, l[O + 1]? = some x ∧ ∃ e ∈ x.after, Region.binds .any e = true ∧ e.on = O) (e2 : ∃ x, l[O + 2]? = some x ∧ ∃ e ∈ x.after, Region.binds .any e = true ∧ e.on = O + 1) (e3 : ∃ x, l[O + 3]? = some x ∧ ∃ e ∈ x.after, Region.binds .any e = true ∧ e.on = O + 1)
  (e5 : ∃ x, l[O + 5]? = some x ∧ ∃ e ∈ x.after, Region.binds .any e = true ∧ e.on = O + 2) (e6 : ∃ x, l[O + 6]? = some x ∧ ∃ e ∈ x.after, Region.binds .any e = true ∧ e.on = O + 3) :
  on listed (O + 1) = false ∧ on listed (O + 2) = false ∧ on listed (O + 3) = false ∧ on listed (O + 5) = false ∧ on listed (O + 6) = false := by
 have step : ∀ {j k : Nat}, (∃ x, l[j]? = some x ∧ ∃ e ∈ x.after, Region.binds .any e = true ∧ e.on = k) → on listed k = false → on listed j = false := by
  rintro j k ⟨x, hx, e, he, hb, rfl⟩ hk
  cases h : on listed j with
  | false => rfl
  | true => rw [hcl j x hx h e he hb] at hk; cases hk
 have n0 := on_no h1
 have n1 := step e1 n0
 have n2 := step e2 n1
 have n3 := step e3 n1
 exact ⟨n1, n2, n3, step e5 n2, step e6 n3⟩
end
end Go.Proofs.YtcllfjjhijkakaaGreatDoor
namespace Go.Proofs.YtcllfjjhijkakaaGreatDoor
open Go.RowKit Go.Sort Go.Rg
set_option maxRecDepth 100000
end Go.Proofs.YtcllfjjhijkakaaGreatDoor
namespace Go.Proofs.YtcllfjjhijkakaaGreatDoor
open Go.RowKit Go.Sort Go.Rg
set_option maxRecDepth 100000
attribute [local go_sem] Oper.semAt_some
end Go.Proofs.YtcllfjjhijkakaaGreatDoor
namespace Go.Proofs.YtcllfjjhijkakaaGreatDoor
open Go.RowKit Go.Sort Go.Rg
set_option maxRecDepth 100000
theorem getD_bool {x : Option Value} {b : Bool} (h : x.getD undef = .bool b) : x = some (.bool b) := by
 cases x with
 | none => exact absurd h (by simp [undef])
 | some v => exact congrArg some h
def singsN (B : Book) (wk lo hi : Int) (boy : Nat) (n : List Int) : Bool := singsB (n.getD 0 0) (n.getD 1 0) (n.getD 2 0) (n.getD 3 0) (n.getD 4 0) ((B.boys[boy]?.map Boy.ls).getD 0) wk lo hi
set_option maxHeartbeats 2000000 in
theorem sings1_any (c : Choir) (boy : Nat) (wk note n0 n1 n2 n3 n4 loss : Int) (bw bn : Nat) (w : World) (hwc : w.cell? ⟨bw, 0, none⟩ = some (.int .i64 wk)) (hnc : w.cell? ⟨bn, 0, none⟩ = some (.int .i64 note))
  (hb : boy < c.B.boys.length) (hl : c.B.boys.length ≤ 4) (hc : w.cell? ⟨c.bb, c.ob + boy * 11 + 8, none⟩ = some (.int .i64 loss)) (hin : c.bb < w.heap.size)
  (h1 : 0 ≤ n1 ∧ n1 ≤ 100) (h2 : 0 ≤ n2 ∧ n2 ≤ 100) (h3 : 0 ≤ n3 ∧ n3 ≤ 100) (h4 : 0 ≤ wk ∧ wk ≤ 100) (h5 : 0 ≤ loss ∧ loss ≤ 100) :
  Calls Tryz.prog 116 #[encT c boy [n0, n1, n2, n3, n4], .pointer (some ⟨bw, 0, none⟩), .pointer (some ⟨bn, 0, none⟩)] w fun e w' => e = .returned (.bool (singsB n0 n1 n2 n3 n4 loss wk note note)) ∧ Kept w w' := by
 simp only [encT, List.map_cons, List.map_nil, List.append_toArray, List.cons_append, List.nil_append, Choir.k0, Choir.k2, Choir.m]
 have hzw := Go.Ai.lt_of_cell hwc
 have hzn := Go.Ai.lt_of_cell hnc
 have c0 : ∀ d os, (grow (redrawn (w.alloc (Obj.cells #[Value.slice (some ⟨c.bb, c.ob, none⟩) c.B.boys.length c.capb, Value.int IntKind.i64 c.B.weeks, Value.slice c.q c.B.trials.length c.capt, Value.map (some c.bm), Value.int IntKind.i64 ↑boy, Value.int IntKind.i64 n0, Value.int IntKind.i64 n1, Value.int IntKind.i64 n2, Value.int IntKind.i64 n3, Value.int IntKind.i64 n4] 142)) d) os).cell? ⟨w.heap.size, 0, none⟩ = some (Value.slice (some ⟨c.bb, c.ob, none⟩) c.B.boys.length c.capb) := cell_regrown (by go_simp)
 have c1 : ∀ d os, (grow (redrawn (w.alloc (Obj.cells #[Value.slice (some ⟨c.bb, c.ob, none⟩) c.B.boys.length c.capb, Value.int IntKind.i64 c.B.weeks, Value.slice c.q c.B.trials.length c.capt, Value.map (some c.bm), Value.int IntKind.i64 ↑boy, Value.int IntKind.i64 n0, Value.int IntKind.i64 n1, Value.int IntKind.i64 n2, Value.int IntKind.i64 n3, Value.int IntKind.i64 n4] 142)) d) os).cell? ⟨w.heap.size, 1, none⟩ = some (Value.int IntKind.i64 c.B.weeks) := cell_regrown (by go_simp)
 have c2 : ∀ d os, (grow (redrawn (w.alloc (Obj.cells #[Value.slice (some ⟨c.bb, c.ob, none⟩) c.B.boys.length c.capb, Value.int IntKind.i64 c.B.weeks, Value.slice c.q c.B.trials.length c.capt, Value.map (some c.bm), Value.int IntKind.i64 ↑boy, Value.int IntKind.i64 n0, Value.int IntKind.i64 n1, Value.int IntKind.i64 n2, Value.int IntKind.i64 n3, Value.int IntKind.i64 n4] 142)) d) os).cell? ⟨w.heap.size, 2, none⟩ = some (Value.slice c.q c.B.trials.length c.capt) := cell_regrown (by go_simp)
 have c3 : ∀ d os, (grow (redrawn (w.alloc (Obj.cells #[Value.slice (some ⟨c.bb, c.ob, none⟩) c.B.boys.length c.capb, Value.int IntKind.i64 c.B.weeks, Value.slice c.q c.B.trials.length c.capt, Value.map (some c.bm), Value.int IntKind.i64 ↑boy, Value.int IntKind.i64 n0, Value.int IntKind.i64 n1, Value.int IntKind.i64 n2, Value.int IntKind.i64 n3, Value.int IntKind.i64 n4] 142)) d) os).cell? ⟨w.heap.size, 3, none⟩ = some (Value.map (some c.bm)) := cell_regrown (by go_simp)
 have c4 : ∀ d os, (grow (redrawn (w.alloc (Obj.cells #[Value.slice (some ⟨c.bb, c.ob, none⟩) c.B.boys.length c.capb, Value.int IntKind.i64 c.B.weeks, Value.slice c.q c.B.trials.length c.capt, Value.map (some c.bm), Value.int IntKind.i64 ↑boy, Value.int IntKind.i64 n0, Value.int IntKind.i64 n1, Value.int IntKind.i64 n2, Value.int IntKind.i64 n3, Value.int IntKind.i64 n4] 142)) d) os).cell? ⟨w.heap.size, 4, none⟩ = some (Value.int IntKind.i64 ↑boy) := cell_regrown (by go_simp)
 have c5 : ∀ d os, (grow (redrawn (w.alloc (Obj.cells #[Value.slice (some ⟨c.bb, c.ob, none⟩) c.B.boys.length c.capb, Value.int IntKind.i64 c.B.weeks, Value.slice c.q c.B.trials.length c.capt, Value.map (some c.bm), Value.int IntKind.i64 ↑boy, Value.int IntKind.i64 n0, Value.int IntKind.i64 n1, Value.int IntKind.i64 n2, Value.int IntKind.i64 n3, Value.int IntKind.i64 n4] 142)) d) os).cell? ⟨w.heap.size, 5, none⟩ = some (Value.int IntKind.i64 n0) := cell_regrown (by go_simp)
 have c6 : ∀ d os, (grow (redrawn (w.alloc (Obj.cells #[Value.slice (some ⟨c.bb, c.ob, none⟩) c.B.boys.length c.capb, Value.int IntKind.i64 c.B.weeks, Value.slice c.q c.B.trials.length c.capt, Value.map (some c.bm), Value.int IntKind.i64 ↑boy, Value.int IntKind.i64 n0, Value.int IntKind.i64 n1, Value.int IntKind.i64 n2, Value.int IntKind.i64 n3, Value.int IntKind.i64 n4] 142)) d) os).cell? ⟨w.heap.size, 6, none⟩ = some (Value.int IntKind.i64 n1) := cell_regrown (by go_simp)
 have c7 : ∀ d os, (grow (redrawn (w.alloc (Obj.cells #[Value.slice (some ⟨c.bb, c.ob, none⟩) c.B.boys.length c.capb, Value.int IntKind.i64 c.B.weeks, Value.slice c.q c.B.trials.length c.capt, Value.map (some c.bm), Value.int IntKind.i64 ↑boy, Value.int IntKind.i64 n0, Value.int IntKind.i64 n1, Value.int IntKind.i64 n2, Value.int IntKind.i64 n3, Value.int IntKind.i64 n4] 142)) d) os).cell? ⟨w.heap.size, 7, none⟩ = some (Value.int IntKind.i64 n2) := cell_regrown (by go_simp)
 have c8 : ∀ d os, (grow (redrawn (w.alloc (Obj.cells #[Value.slice (some ⟨c.bb, c.ob, none⟩) c.B.boys.length c.capb, Value.int IntKind.i64 c.B.weeks, Value.slice c.q c.B.trials.length c.capt, Value.map (some c.bm), Value.int IntKind.i64 ↑boy, Value.int IntKind.i64 n0, Value.int IntKind.i64 n1, Value.int IntKind.i64 n2, Value.int IntKind.i64 n3, Value.int IntKind.i64 n4] 142)) d) os).cell? ⟨w.heap.size, 8, none⟩ = some (Value.int IntKind.i64 n3) := cell_regrown (by go_simp)
 have c9 : ∀ d os, (grow (redrawn (w.alloc (Obj.cells #[Value.slice (some ⟨c.bb, c.ob, none⟩) c.B.boys.length c.capb, Value.int IntKind.i64 c.B.weeks, Value.slice c.q c.B.trials.length c.capt, Value.map (some c.bm), Value.int IntKind.i64 ↑boy, Value.int IntKind.i64 n0, Value.int IntKind.i64 n1, Value.int IntKind.i64 n2, Value.int IntKind.i64 n3, Value.int IntKind.i64 n4] 142)) d) os).cell? ⟨w.heap.size, 9, none⟩ = some (Value.int IntKind.i64 n4) := cell_regrown (by go_simp)
 have kW : Kept w (w.alloc (Obj.cells #[Value.slice (some ⟨c.bb, c.ob, none⟩) c.B.boys.length c.capb, Value.int IntKind.i64 c.B.weeks, Value.slice c.q c.B.trials.length c.capt, Value.map (some c.bm), Value.int IntKind.i64 ↑boy, Value.int IntKind.i64 n0, Value.int IntKind.i64 n1, Value.int IntKind.i64 n2, Value.int IntKind.i64 n3, Value.int IntKind.i64 n4] 142)) := kept_alloc (kept_refl _) _
 have cw : ∀ d os, (grow (redrawn (w.alloc (Obj.cells #[Value.slice (some ⟨c.bb, c.ob, none⟩) c.B.boys.length c.capb, Value.int IntKind.i64 c.B.weeks, Value.slice c.q c.B.trials.length c.capt, Value.map (some c.bm), Value.int IntKind.i64 ↑boy, Value.int IntKind.i64 n0, Value.int IntKind.i64 n1, Value.int IntKind.i64 n2, Value.int IntKind.i64 n3, Value.int IntKind.i64 n4] 142)) d) os).cell? ⟨bw, 0, none⟩ = some (.int .i64 wk) := cell_regrown (((bcell kW).1 bw _ hzw).trans hwc)
 have cn : ∀ d os, (grow (redrawn (w.alloc (Obj.cells #[Value.slice (some ⟨c.bb, c.ob, none⟩) c.B.boys.length c.capb, Value.int IntKind.i64 c.B.weeks, Value.slice c.q c.B.trials.length c.capt, Value.map (some c.bm), Value.int IntKind.i64 ↑boy, Value.int IntKind.i64 n0, Value.int IntKind.i64 n1, Value.int IntKind.i64 n2, Value.int IntKind.i64 n3, Value.int IntKind.i64 n4] 142)) d) os).cell? ⟨bn, 0, none⟩ = some (.int .i64 note) := cell_regrown (((bcell kW).1 bn _ hzn).trans hnc)
 have cL : ∀ d os, (grow (redrawn (w.alloc (Obj.cells #[Value.slice (some ⟨c.bb, c.ob, none⟩) c.B.boys.length c.capb, Value.int IntKind.i64 c.B.weeks, Value.slice c.q c.B.trials.length c.capt, Value.map (some c.bm), Value.int IntKind.i64 ↑boy, Value.int IntKind.i64 n0, Value.int IntKind.i64 n1, Value.int IntKind.i64 n2, Value.int IntKind.i64 n3, Value.int IntKind.i64 n4] 142)) d) os).cell? ⟨c.bb, c.ob + boy * 11 + 8, none⟩ = some (.int .i64 loss) := cell_regrown (((bcell kW).1 c.bb _ hin).trans hc)
 have sW : w.heap.size ≤ (w.alloc (Obj.cells #[Value.slice (some ⟨c.bb, c.ob, none⟩) c.B.boys.length c.capb, Value.int IntKind.i64 c.B.weeks, Value.slice c.q c.B.trials.length c.capt, Value.map (some c.bm), Value.int IntKind.i64 ↑boy, Value.int IntKind.i64 n0, Value.int IntKind.i64 n1, Value.int IntKind.i64 n2, Value.int IntKind.i64 n3, Value.int IntKind.i64 n4] 142)).heap.size := by simp
 go_enter Tryz.func116, Tryz.ntmps116
 go_wp2_with fail
 generalize w.alloc (Obj.cells #[Value.slice (some ⟨c.bb, c.ob, none⟩) c.B.boys.length c.capb, Value.int IntKind.i64 c.B.weeks, Value.slice c.q c.B.trials.length c.capt, Value.map (some c.bm), Value.int IntKind.i64 ↑boy, Value.int IntKind.i64 n0, Value.int IntKind.i64 n1, Value.int IntKind.i64 n2, Value.int IntKind.i64 n3, Value.int IntKind.i64 n4] 142) = W at *
 have zL : ∀ d os, c.bb < (grow (redrawn W d) os).heap.size := fun d os => Nat.lt_of_lt_of_le (Nat.lt_of_lt_of_le hin sW) (below_regrown W d os).size
 have HL := Lib.hid cL
 have HZ := Lib.hid zL
 clear cL zL hc hwc hnc
 refine wp_region_quiet_below (by kernel_rfl) (by kernel_rfl) ?_
 repeat (any_goals (quiet_step (first | exact Calls.regrown_of (just_any _ _) | exact Calls.regrown_of (sings_any _ _ _ _ _ _ _ _ _ _ _ _ _ _ _ _ _ _ hb hl (HL.out _ _) (HZ.out _ _) h1 h2 h3 h4 h5))))
 refine wpQuiet_nil ?_
 rintro _ ⟨⟨dq, osq⟩, rfl⟩
 have kW2 := kept_trans kW (below_regrown W dq osq)
 go_wp2_with fail
 go_ret
 exact ⟨rfl, kW2⟩
theorem sings_asks (S : Nat → Prop) (c : Choir) (boy : Nat) (wk note : Int) (x : Boy) (hx : c.B.boys[boy]? = some x) (bw bn : Nat) (W : World) (hat : ChoirAt S W c) (h4 : 0 ≤ wk ∧ wk ≤ 100) (hwc : W.cell? ⟨bw, 0, none⟩ = some (.int .i64 wk)) (hnc : W.cell? ⟨bn, 0, none⟩ = some (.int .i64 note)) :
  Asks c boy x W 116 #[.pointer (some ⟨bw, 0, none⟩), .pointer (some ⟨bn, 0, none⟩)] (singsN c.B wk note note boy) := by
 have hok := hat.ok
 have hlen : c.B.boys.length ≤ 4 := by
  have := hok
  simp only [Book.okB, inB, Bool.and_eq_true, decide_eq_true_eq] at this
  omega
 have hbl : boy < c.B.boys.length := (List.getElem?_eq_some_iff.1 hx).1
 have hxok : x.okB = true := by
  simp only [Book.okB, Bool.and_eq_true, List.all_eq_true] at hok
  exact hok.1.2 x (List.mem_of_getElem? hx)
 obtain ⟨hsp, hls⟩ := spanAt_ok x hxok
 refine ⟨enters_of Tryz.func116 (by kernel_rfl) rfl, fun A n hA hn => ?_⟩
 obtain ⟨_, _, _, _, _, _, _, _, c8, _⟩ := hat.boys.2 boy x hx
 have hr := truths_rng hn
 obtain ⟨n0, n1, n2, n3, n4, rfl⟩ := truths_len hn
 have r1 := hr 1 n1 rfl
 have r2 := hr 2 n2 rfl
 have r3 := hr 3 n3 rfl
 have s1 := hsp 1 (by omega)
 have s2 := hsp 2 (by omega)
 have s3 := hsp 3 (by omega)
 have := sings1_any c boy wk note n0 n1 n2 n3 n4 x.ls bw bn A (kcell hA hwc) (kcell hA hnc) hbl hlen (kcell hA c8) (Nat.lt_of_lt_of_le hat.boys.1 hA.size) (by omega) (by omega) (by omega) h4 (by omega)
 simpa [singsN, hx] using this
def SingP (B : Book) (boy : Nat) (week note : Int) (W : World) (e : Ending) (C : World) : Prop :=
 ∃ v err, e = .returned (.tuple #[.int .i64 v, .int .i64 err]) ∧ Kept W C ∧
  ((err = 0 ∧ Can B ∧ ∃ x, B.boys[boy]? = some x ∧ v = oftenOf (B.truths boy x) (singsN B week note note boy)) ∨ (err = 22 ∧ ¬ Can B ∧ v = 0))
set_option maxHeartbeats 4000000 in
theorem sings_all (p q : Option Addr) (cap capt : Nat) (B : Book) (boy : Nat) (week note : Int) (W : World) (h : BookAt W p q cap capt B) (hg : Nothing W) (hok0 : B.okB = true) (hb : boy < B.boys.length) (hwk0 : 0 ≤ week ∧ week < B.weeks) (hnt0 : 0 ≤ note ∧ note ≤ 40) :
  Calls Tryz.prog 100 #[B.val p q cap capt, .int .i64 (boy : Int), .int .i64 week, .int .i64 note] W (SingP B boy week note W) := by
 have hwk : 0 ≤ B.weeks ∧ B.weeks ≤ 1000 := by
  have := hok0
  simp only [Book.okB, inB, Bool.and_eq_true, decide_eq_true_eq] at this
  omega
 have hwk1 : 0 ≤ week ∧ week ≤ 100 := by
  have := hok0
  simp only [Book.okB, inB, Bool.and_eq_true, decide_eq_true_eq] at this
  omega
 have hnb := h.nb
 have hboyT : inB (boy : Int) 0 (B.boys.length - 1) = true := by simp [inB]; omega
 have hweekT : inB week 0 (B.weeks - 1) = true := by simp [inB]; omega
 have hnoteT : inB note 0 40 = true := by simp [inB]; omega
 refine callsIn_wide.1 (callsIn_of_wp (n := 0) Tryz.func100 rfl trivial ?_ rfl)
 simp only [Tryz.ntmps100, List.size_toArray, List.length_cons, List.length_nil, Nat.reduceAdd, Nat.reduceSub, Array.replicate_succ, Array.replicate_zero, List.push_toArray, List.append_toArray, List.nil_append, List.cons_append]
 unfold Book.val
 gi_wp2_with fail
 obtain ⟨hk0, a0c, a1c, a2c⟩ := bk2 W p q cap capt B (Obj.cells #[.int .i64 week] 3) (Obj.cells #[.int .i64 note] 3)
 have ZZ : ∀ Z, Z = (((W.alloc (Obj.cells #[.slice p B.boys.length cap, .int .i64 B.weeks, .slice q B.trials.length capt] 25)).alloc (Obj.cells #[.int .i64 week] 3)).alloc (Obj.cells #[.int .i64 note] 3)) → Z.cell? ⟨W.heap.size + 1, 0, none⟩ = some (.int .i64 week) ∧ Z.cell? ⟨W.heap.size + 1 + 1, 0, none⟩ = some (.int .i64 note) := by rintro _ rfl; refine ⟨?_, ?_⟩ <;> go_simp
 obtain ⟨wc, nc⟩ := ZZ _ rfl; clear ZZ
 generalize (((W.alloc (Obj.cells #[.slice p B.boys.length cap, .int .i64 B.weeks, .slice q B.trials.length capt] 25)).alloc (Obj.cells #[.int .i64 week] 3)).alloc (Obj.cells #[.int .i64 note] 3)) = W0 at *
 refine wpIn_region_invL (StO 13 (fun j => match j with | 0 => (.agg #[.slice p B.boys.length cap, .int .i64 B.weeks, .slice q B.trials.length capt]) | 1 => (.agg #[.slice p B.boys.length cap, .int .i64 B.weeks, .slice q B.trials.length capt]) | 2 => .int .i64 (boy : Int) | 5 => (.agg #[.slice p B.boys.length cap, .int .i64 B.weeks, .slice q B.trials.length capt]) | 6 => .int .i64 week | 10 => .int .i64 note | _ => .bool true) W0 B true) (by kernel_rfl) (by kernel_rfl) StO.start ?hop ?hend
 case hop =>
  rintro i o listed a w hl ho h1 h2 hcl ⟨v, err, pp, ha, hw⟩
  have hi11 : i < 20 := (List.getElem?_eq_some_iff.1 ho).1
  match i, ho with
  | 0, ho =>
   have ST := StO.sm (by kernel_rfl) ha hw ho h1 (by decide)
   cases ho
   rw [if_pos (by rfl)]
   have t4 := ha.old 4 (by kernel_rfl)
   simp at t4
   have r0 := kcell hw.kept a0c
   have r1 := kcell hw.kept a1c
   have r2 := kcell hw.kept a2c
   go_simp
   exact ST.out
  | 1, ho =>
   have ST := StO.sm (by kernel_rfl) ha hw ho h1 (by decide)
   cases ho
   rw [if_pos (by rfl)]
   have t4 := ha.old 4 (by kernel_rfl)
   simp at t4
   have r0 := kcell hw.kept a0c
   have r1 := kcell hw.kept a1c
   have r2 := kcell hw.kept a2c
   go_simp
   exact ST.out
  | 2, ho =>
   have ST := StO.sm (by kernel_rfl) ha hw ho h1 (by decide)
   cases ho
   rw [if_pos (by rfl)]
   have t1 := ha.old 1 (by kernel_rfl)
   simp at t1
   go_simp
   exact ST.out
  | 3, ho =>
   have st := fun w' (k : Kept w w') => StO.same (by kernel_rfl) ha hw ho h1 (by omega) (by omega) (by omega) k
   have ST := Lib.hid st; clear st
   cases ho
   rw [if_pos (by rfl)]
   have t14 := ha.new 1 (h2 ⟨1, .data⟩ (by simp) rfl) (d := 14) rfl rfl (by simp)
   simp [openVs] at t14
   have t15 := ha.new 2 (h2 ⟨2, .data⟩ (by simp) rfl) (d := 15) rfl rfl (by simp)
   simp [openVs] at t15
   have hcall := isBoy_any p B.boys.length cap (.int .i64 B.weeks) (.slice q B.trials.length capt) (boy : Int) w hnb
   rw [hboyT] at hcall
   go_simp
   refine ⟨trivial, rfl, (callsIn_wide.2 hcall).mono ?_⟩
   rintro e w' ⟨rfl, hk⟩
   exact ST.out _ hk
  | 4, ho =>
   have ST := StO.sm (by kernel_rfl) ha hw ho h1 (by decide)
   cases ho
   rw [if_pos (by rfl)]
   have t16 := ha.new 3 (h2 ⟨3, .data⟩ (by simp) rfl) (d := 16) rfl rfl (by simp)
   simp [openVs] at t16
   go_simp
   exact ST.out
  | 5, ho =>
   have ST := StO.sm (by kernel_rfl) ha hw ho h1 (by decide)
   cases ho
   have t17 := ha.new 4 (h2 ⟨4, .guard⟩ (by simp) rfl) (d := 17) rfl rfl (by simp)
   simp [openVs] at t17
   rw [if_pos (by simp [Region.wanted, yielded, getD_bool t17])]
   have t4 := ha.old 4 (by kernel_rfl)
   simp at t4
   have r0 := kcell hw.kept a0c
   have r1 := kcell hw.kept a1c
   have r2 := kcell hw.kept a2c
   go_simp
   exact ST.out
  | 6, ho =>
   have ST := StO.sm (by kernel_rfl) ha hw ho h1 (by decide)
   cases ho
   have t17 := ha.new 4 (h2 ⟨4, .guard⟩ (by simp) rfl) (d := 17) rfl rfl (by simp)
   simp [openVs] at t17
   rw [if_pos (by simp [Region.wanted, yielded, getD_bool t17])]
   have t6 := ha.old 6 (by kernel_rfl)
   simp at t6
   have rw0 := kcell hw.kept wc
   go_simp
   exact ST.out
  | 7, ho =>
   have st := fun w' (k : Kept w w') => StO.same (by kernel_rfl) ha hw ho h1 (by omega) (by omega) (by omega) k
   have ST := Lib.hid st; clear st
   cases ho
   have t17 := ha.new 4 (h2 ⟨4, .guard⟩ (by simp) rfl) (d := 17) rfl rfl (by simp)
   simp [openVs] at t17
   rw [if_pos (by simp [Region.wanted, yielded, getD_bool t17])]
   have t18 := ha.new 5 (h2 ⟨5, .data⟩ (by simp) rfl) (d := 18) rfl rfl (by simp)
   simp [openVs] at t18
   have t19 := ha.new 6 (h2 ⟨6, .data⟩ (by simp) rfl) (d := 19) rfl rfl (by simp)
   simp [openVs] at t19
   have hcall := isWeek_any (.slice p B.boys.length cap) (.slice q B.trials.length capt) B.weeks week w hwk.1 hwk.2
   rw [hweekT] at hcall
   go_simp
   refine ⟨trivial, rfl, (callsIn_wide.2 hcall).mono ?_⟩
   rintro e w' ⟨rfl, hk⟩
   exact ST.out _ hk
  | 8, ho =>
   have ST := StO.sm (by kernel_rfl) ha hw ho h1 (by decide)
   cases ho
   rw [if_pos (by rfl)]
   have t17 := ha.new 4 (h2 ⟨4, .data⟩ (by simp) rfl) (d := 17) rfl rfl (by simp)
   simp [openVs] at t17
   have t20 := ha.new 7 (h2 ⟨7, .data⟩ (by simp) rfl) (d := 20) rfl rfl (by simp)
   simp [openVs] at t20
   go_simp
   exact ST.out
  | 9, ho =>
   have ST := StO.sm (by kernel_rfl) ha hw ho h1 (by decide)
   cases ho
   rw [if_pos (by rfl)]
   have t21 := ha.new 8 (h2 ⟨8, .data⟩ (by simp) rfl) (d := 21) rfl rfl (by simp)
   simp [openVs] at t21
   go_simp
   exact ST.out
  | 10, ho =>
   have ST := StO.sm (by kernel_rfl) ha hw ho h1 (by decide)
   cases ho
   have t22 := ha.new 9 (h2 ⟨9, .guard⟩ (by simp) rfl) (d := 22) rfl rfl (by simp)
   simp [openVs] at t22
   rw [if_pos (by simp [Region.wanted, yielded, getD_bool t22])]
   have t7 := ha.old 7 (by kernel_rfl)
   simp at t7
   have rn0 := kcell hw.kept nc
   go_simp
   exact ST.out
  | 11, ho =>
   have st := fun w' (k : Kept w w') => StO.same (by kernel_rfl) ha hw ho h1 (by omega) (by omega) (by omega) k
   have ST := Lib.hid st; clear st
   cases ho
   have t22 := ha.new 9 (h2 ⟨9, .guard⟩ (by simp) rfl) (d := 22) rfl rfl (by simp)
   simp [openVs] at t22
   rw [if_pos (by simp [Region.wanted, yielded, getD_bool t22])]
   have t23 := ha.new 10 (h2 ⟨10, .data⟩ (by simp) rfl) (d := 23) rfl rfl (by simp)
   simp [openVs] at t23
   have hcall := isNote_any note w
   rw [hnoteT] at hcall
   go_simp
   refine ⟨trivial, rfl, (callsIn_wide.2 hcall).mono ?_⟩
   rintro e w' ⟨rfl, hk⟩
   subst hk; exact ST.out _ (kept_refl _)
  | 12, ho =>
   have ST := StO.sm (by kernel_rfl) ha hw ho h1 (by decide)
   cases ho
   rw [if_pos (by rfl)]
   have t22 := ha.new 9 (h2 ⟨9, .data⟩ (by simp) rfl) (d := 22) rfl rfl (by simp)
   simp [openVs] at t22
   have t24 := ha.new 11 (h2 ⟨11, .data⟩ (by simp) rfl) (d := 24) rfl rfl (by simp)
   simp [openVs] at t24
   go_simp
   exact ST.out
  | 13, ho =>
   obtain ⟨n5, n6, n7, n9, n10⟩ := open_first hcl h1 ⟨_, rfl, ⟨13, .data⟩, by simp, rfl, rfl⟩ ⟨_, rfl, ⟨14, .data⟩, by simp, rfl, rfl⟩ ⟨_, rfl, ⟨14, .data⟩, by simp, rfl, rfl⟩ ⟨_, rfl, ⟨15, .data⟩, by simp, rfl, rfl⟩ ⟨_, rfl, ⟨16, .data⟩, by simp, rfl, rfl⟩
   have st := fun v' err' w' (k : OpenReg W0 B true v' err' pp true (on listed 17) (on listed 18) w') => StO.opened (by kernel_rfl) ha hl ho h1 n5 n6 n7 n9 n10 k
   have ST := Lib.hid st; clear st
   cases ho
   rw [if_pos (by rfl)]
   have t13 := ha.new 0 (h2 ⟨0, .data⟩ (by simp) rfl) (d := 13) rfl rfl (by simp)
   simp [openVs] at t13
   have t25 := ha.new 12 (h2 ⟨12, .data⟩ (by simp) rfl) (d := 25) rfl rfl (by simp)
   simp [openVs] at t25
   have hcall := open_any p q cap capt B true W w h (kept_trans hk0 hw.kept) (hg.kept (kept_trans hk0 hw.kept))
   unfold Book.val at hcall
   have HOP := Lib.hid (fun e w' => hw.opened (e := e) (w' := w') W.heap.size hk0.size n9)
   go_simp
   refine ⟨trivial, rfl, (callsIn_wide.2 hcall).mono ?_⟩
   intro e w' hop
   obtain ⟨v', err', rfl, hr⟩ := HOP.out e w' hop
   exact ST.out v' err' w' hr
  | 14, ho =>
   have ST := StO.sm (by kernel_rfl) ha hw ho h1 (by decide)
   cases ho
   rw [if_pos (by rfl)]
   have t26 := ha.new 13 (h2 ⟨13, .data⟩ (by simp) rfl) (d := 26) rfl rfl (by simp)
   simp [openVs] at t26
   go_simp
   exact ST.out
  | 15, ho =>
   have ST := StO.sm (by kernel_rfl) ha hw ho h1 (by decide)
   cases ho
   rw [if_pos (by rfl)]
   have t12 := ha.new 14 (h2 ⟨14, .data⟩ (by simp) rfl) (d := 12) rfl rfl (by simp)
   simp [openVs] at t12
   go_simp
   exact ST.out
  | 16, ho =>
   have ST := StO.sm (by kernel_rfl) ha hw ho h1 (by decide)
   cases ho
   rw [if_pos (by rfl)]
   have t12 := ha.new 14 (h2 ⟨14, .data⟩ (by simp) rfl) (d := 12) rfl rfl (by simp)
   simp [openVs] at t12
   go_simp
   exact ST.out
  | 17, ho =>
   have n9 : on listed 18 = false := by
    cases hb : on listed 18 with
    | false => rfl
    | true => have := hcl 18 _ rfl hb ⟨17, .data⟩ (by simp) rfl; rw [on_no h1] at this; cases this
   have st := StO.boxed (by kernel_rfl) ha hw hl ho h1 n9
   have ST := Lib.hid st; clear st
   cases ho
   rw [if_pos (by rfl)]
   go_simp
   exact ST.out
  | 18, ho =>
   have y8 : on listed 17 = true := h2 ⟨17, .data⟩ (by cases ho; simp) rfl
   have y4 : on listed 13 = true := h2 ⟨13, .chain⟩ (by cases ho; simp) rfl
   have t10 := ha.new 17 y8 (d := 10) rfl rfl (by simp)
   simp [openVs] at t10
   have t27 := ha.new 15 (h2 ⟨15, .data⟩ (by cases ho; simp) rfl) (d := 27) rfl rfl (by simp)
   simp [openVs] at t27
   obtain ⟨hbp, ⟨f0, f1, f2, f3, b0, b1, b2, b3⟩, hbf⟩ := hw.box y8
   have bf0 := hbf 0
   have bf1 := hbf 1
   have bf2 := hbf 2
   have bf3 := hbf 3
   rcases hw.res y4 with ⟨_, _, _, _, c, S, hcB, rfl, _⟩ | ⟨rfl, _⟩
   ·clear hcB
    have st := StO.stored (by kernel_rfl) ha hw hl ho (by cases ho; rfl) h1 y8 (show c.val = _ from rfl)
    have ST := Lib.hid st; clear st
    cases ho
    rw [if_pos (by rfl)]
    unfold Choir.val at t27
    clear hbf
    go_simp
    exact ST.out
   ·have st := StO.stored (by kernel_rfl) ha hw hl ho (by cases ho; rfl) h1 y8 (show zeroChoir = _ from rfl)
    have ST := Lib.hid st; clear st
    cases ho
    rw [if_pos (by rfl)]
    unfold zeroChoir at t27
    clear hbf
    go_simp
    exact ST.out
  | 19, ho =>
   have ST := StO.sm (by kernel_rfl) ha hw ho h1 (by decide)
   cases ho
   rw [if_pos (by rfl)]
   have t28 := ha.new 16 (h2 ⟨16, .data⟩ (by simp) rfl) (d := 28) rfl rfl (by simp)
   simp [openVs] at t28
   go_simp
   exact ST.out
 case hend =>
  rintro listed a w hall ⟨v, err, pp, ha, hw⟩
  rw [show on listed 13 = true from hall 13 (by simp), show on listed 17 = true from hall 17 (by simp), show on listed 18 = true from hall 18 (by simp)] at hw
  obtain ⟨y, hy, hae⟩ := ha.lit (n := 36) rfl
  have y1 := (hy 1).symm.trans (ha.old 1 (by kernel_rfl))
  have y6 := (hy 6).symm.trans (ha.old 6 (by kernel_rfl))
  have y7 := (hy 7).symm.trans (ha.old 7 (by kernel_rfl))
  have y8 := (hy 8).symm.trans (ha.old 8 (by kernel_rfl))
  have y9 := (hy 9).symm.trans (ha.old 9 (by kernel_rfl))
  have y10 := (hy 10).symm.trans (ha.new 17 (hall 17 (by simp)) (d := 10) rfl rfl (by simp))
  have y11 := (hy 11).symm.trans (ha.new 19 (hall 19 (by simp)) (d := 11) rfl rfl (by simp))
  simp at y1 y6 y7 y8 y9
  simp [openVs] at y10 y11
  simp only [List.range, List.range.loop, List.map] at hae
  rw [y1, y6, y7, y8, y9, y10, y11] at hae
  subst hae
  clear ha hy y1 y6 y7 y8 y9 y10 y11
  refine (by assumption : ∀ a w, Code.wpIn _ _ _ _ _ a w → _) _ w ?_
  have wk := kcell hw.kept wc
  have wn := kcell hw.kept nc
  obtain ⟨_, x0, x1, x2, x3, hv, b0, b1, b2, b3⟩ := hw.put rfl
  rcases hw.res rfl with ⟨rfl, hok, _, hcan, c, S, hcB, hvc, hch, hSz, hSp⟩ | ⟨rfl, herr⟩
  ·subst hcB
   subst hvc
   have e4 := congrArg (fun u => match u with | Value.agg cs => cs.toList | _ => []) hv
   simp only [Choir.val, List.cons.injEq, and_true] at e4
   obtain ⟨rfl, rfl, rfl, rfl⟩ := e4
   have hzp := Go.Ai.lt_of_cell b0
   have hzw := Go.Ai.lt_of_cell wk
   have hx : c.B.boys[boy]? = some c.B.boys[boy] := List.getElem?_eq_getElem hb
   generalize c.B.boys[boy] = x at *
   gi_wp2_with fail
   have hcall := often_any S c boy x hx w hch hSz _ _ (singsN c.B week note note boy) (sings_asks S c boy week note x hx (W.heap.size + 1) (W.heap.size + 1 + 1) w hch hwk1 wk wn)
   unfold Choir.val at hcall
   refine ⟨trivial, rfl, (callsIn_wide.2 hcall).mono ?_⟩
   rintro e w2 ⟨rfl, hk7⟩
   clear hcall
   gi_wp2_with fail
   refine bodyPost_ret (v := .tuple #[.int .i64 (oftenOf (c.B.truths boy x) (singsN c.B week note note boy)), .int .i64 0]) (by simp [results, Tryz.results100, go_sem]) rfl ?_
   exact ⟨_, 0, rfl, kept_trans (kept_trans hk0 hw.kept) hk7, .inl ⟨rfl, hcan, x, hx, rfl⟩⟩
  ·rcases herr with ⟨_, he⟩ | ⟨_, _, he⟩ | ⟨rfl, _, _, hnc⟩
   ·rw [hok0] at he; cases he
   ·cases he
   gi_wp2_with fail
   refine bodyPost_ret (v := .tuple #[.int .i64 0, .int .i64 22]) (by simp [results, Tryz.results100, go_sem]) rfl ?_
   exact ⟨_, 22, rfl, kept_trans hk0 hw.kept, .inr ⟨rfl, hnc, rfl⟩⟩
theorem lies_any (n l h : Int) (w : World) : Calls Tryz.prog 15 #[.int .i64 n, .int .i64 l, .int .i64 h] w fun e w' => e = .returned (.bool (inB n l h)) ∧ w = w' := by
 by_cases h1 : l ≤ n
 ·have h2 : decide (l ≤ n) = true := by simpa using h1
  have H : inB n l h = decide (n ≤ h) := by simp [inB, h1]
  rw [H]; clear H h1
  go_enter Tryz.func15, Tryz.ntmps15
  go_wp2
  go_ret
  exact ⟨rfl, rfl⟩
 ·have h2 : decide (l ≤ n) = false := by simpa using h1
  have H : inB n l h = false := by simp [inB, h1]
  rw [H]; clear H h1
  go_enter Tryz.func15, Tryz.ntmps15
  go_wp2
  go_ret
  exact ⟨rfl, rfl⟩
theorem tmod_small (n : Int) (b : Int) (hb : 1 ≤ b) : -b < Int.tmod n b ∧ Int.tmod n b < b := by
 have h1 := Int.tmod_lt_of_pos n (show 0 < b by omega)
 have h2 := Int.tmod_lt_of_pos (-n) (show 0 < b by omega)
 rw [Int.neg_tmod] at h2
 omega
theorem fair_true (a b lo hi wide : Int) (w : World) (h1 : lo ≤ a) (h2 : a ≤ b) (h3 : b ≤ hi) (h4 : b - a ≤ wide) (ha : 0 ≤ a) (hb : b ≤ 100) :
  Calls Tryz.prog 16 #[.agg #[.int .i64 a, .int .i64 b], .int .i64 lo, .int .i64 hi, .int .i64 wide] w fun e w' => e = .returned (.bool true) ∧ Kept w w' := by
 have p1 : decide (lo ≤ a) = true := by simpa using h1
 have p2 : decide (a ≤ b) = true := by simpa using h2
 have p3 : decide (b ≤ hi) = true := by simpa using h3
 have p4 : decide (b - a ≤ wide) = true := by simpa using h4
 go_enter Tryz.func16, Tryz.ntmps16
 go_wp2_with fail
 go_ret
 exact ⟨rfl, kept_alloc (kept_refl _) _⟩
def ListAt (w : World) (v : Value) (l : List Nat) : Prop :=
 (v = .slice none 0 0 ∧ l = []) ∨ ∃ b cap, v = .slice (some ⟨b, 0, none⟩) l.length cap ∧ b < w.heap.size ∧ ∀ i x, l[i]? = some x → w.cell? ⟨b, i, none⟩ = some (.int .i64 ((x : Nat) : Int))
theorem ListAt.kept {w w' : World} {v : Value} {l : List Nat} (h : ListAt w v l) (k : Kept w w') : ListAt w' v l :=
 h.imp id fun ⟨b, cap, e, hb, hc⟩ => ⟨b, cap, e, Nat.lt_of_lt_of_le hb k.size, fun i x hx => kcell k (hc i x hx)⟩
theorem ListAt.of_row {w : World} {n : Nat} {v : Value} {l : List Nat} {e : TypeId} (h : w.ownsRow n e 1 v l.length (intsV l)) : ListAt w v l := by
 have hc := h
 rcases h.2 with ⟨rfl, h0⟩ | ⟨g, cap, cur, rfl, _, hg, _⟩
 ·exact .inl ⟨rfl, List.length_eq_zero_iff.1 h0⟩
 ·refine .inr ⟨g, cap, rfl, (Array.getElem?_eq_some_iff.1 hg).1, fun i x hx => ?_⟩
  have hi : i < l.length := (List.getElem?_eq_some_iff.1 hx).1
  rw [hc.cellAt i (by omega)]
  simp [intsV, hx]
theorem listAt_len {w : World} {v : Value} {l : List Nat} (h : ListAt w v l) : ∃ p cap, v = .slice p l.length cap := by
 rcases h with ⟨rfl, rfl⟩ | ⟨b, cap, rfl, _⟩
 ·exact ⟨none, 0, rfl⟩
 ·exact ⟨_, cap, rfl⟩
theorem orNat : ∀ s : Nat, s < 16 → ∀ x : Nat, x < 4 → bits .or .i64 (s : Int) (wrap64 (2 ^ x)) = ((s ||| 2 ^ x : Nat) : Int) ∧ s ||| 2 ^ x < 16 := by decide +kernel
def incr (l : List Nat) : Prop := ∀ i x y, l[i]? = some x → l[i + 1]? = some y → x < y
set_option maxHeartbeats 1000000 in
theorem ordered_any (v : Value) (l : List Nat) (n : Nat) (w : World) (h : ListAt w v l) (hl : l.length ≤ 4) (hx : ∀ x ∈ l, x < n) (hn : n ≤ 4) (hi : incr l) :
  Calls Tryz.prog 38 #[v, .int .i64 (n : Int)] w fun e w' => e = .returned (.bool true) ∧ Kept w w' := by
 obtain ⟨p, cap, rfl⟩ := listAt_len h
 go_enter Tryz.func38, Tryz.ntmps38
 go_wp2_with fail
 go_loopw [5] (fun i W => ∃ k : Nat, k ≤ l.length ∧ i = .int .i64 k ∧ Kept w W) (fun i W => l.length - (intOf i).toNat)
 case atStart => exact ⟨0, by omega, rfl, kept_refl _⟩
 case round =>
  obtain ⟨k, hk, rfl, hkW⟩ := hrel
  by_cases hlt : k < l.length
  ·have hltI : (k : Int) < l.length := by omega
   have hget : l[k]? = some l[k] := List.getElem?_eq_getElem hlt
   have hxn := hx _ (List.getElem_mem hlt)
   generalize l[k] = x at *
   rcases h.kept hkW with ⟨_, rfl⟩ | ⟨b, cap', e, hb, hc⟩
   ·simp at hlt
   cases e
   have hinc := fun y (j : Nat) (e : j + 1 = k) (hy : l[j]? = some y) => hi j y x hy (by rw [e]; exact hget)
   have hcx : ∀ d os, (grow (redrawn wr d) os).cell? ⟨b, k, none⟩ = some (.int .i64 x) := cell_regrown (hc k x hget)
   have hin : inB (x : Int) 0 ((n : Int) - 1) = true := by simp [inB]; omega
   have hwr : IntKind.i64.wrap ((n : Int) - 1) = (n : Int) - 1 := IntWalk.i64_in _ (by omega)
   have hlies : ∀ d os, Calls Tryz.prog 15 #[.int .i64 x, .int .i64 0, .int .i64 ((n : Int) - 1)] (grow (redrawn wr d) os) fun e w'' => e = .returned (.bool true) ∧ ∃ p : Regrown, w'' = grow (redrawn wr p.d) p.os := fun d os => Calls.regrown_of ((lies_any _ _ _ _).mono (by rintro e w' ⟨rfl, rfl⟩; exact ⟨by rw [hin], kept_refl _⟩))
   have HL := Lib.hid hlies
   clear hlies hget hi hx
   go_wp2_with fail
   by_cases hk0 : k = 0
   ·subst hk0
    clear hc hinc
    refine wp_region_quiet_below (by kernel_rfl) (by kernel_rfl) ?_
    repeat (any_goals (first | go_big_quiet_skip | quiet_step (first | exact HL.out _ _)))
    refine wpQuiet_nil ?_
    rintro _ ⟨⟨dq, osq⟩, rfl⟩
    have kW2 := kept_trans hkW (below_regrown wr dq osq)
    go_wp2_with fail
    go_roundw
    case rel => exact ⟨1, by omega, by go_num, kW2⟩
    case measure => simp [intOf]; omega
   ·obtain ⟨y, hgy⟩ : ∃ y, l[k - 1]? = some y := ⟨_, List.getElem?_eq_getElem (by omega)⟩
    have hyx := hinc y (k - 1) (by omega) hgy
    have hcy : ∀ d os, (grow (redrawn wr d) os).cell? ⟨b, k - 1, none⟩ = some (.int .i64 y) := cell_regrown (hc (k - 1) y hgy)
    have hle : decide ((x : Int) ≤ (y : Int)) = false := by simp; omega
    have w0 : IntKind.i64.wrap 0 = 0 := IntWalk.i64_in _ (by omega)
    have w1 : IntKind.i64.wrap 1 = 1 := IntWalk.i64_in _ (by omega)
    have w2 : IntKind.i64.wrap 2 = 2 := IntWalk.i64_in _ (by omega)
    clear hc hinc hgy
    have hk2 : k + 1 ≤ l.length := hlt
    have HI : Hid (k + 1 ≤ l.length) := Lib.hid hk2
    rcases (show k = 1 ∨ k = 2 ∨ k = 3 by omega) with rfl | rfl | rfl
    all_goals
     simp only [Nat.reduceSub] at hcy
     have b0 : (0 : Int) < l.length := by omega
     have b0n : 0 < l.length := by omega
     have b1 : (1 : Int) < l.length := by omega
     try have b2 : (2 : Int) < l.length := by omega
     try have b3 : (3 : Int) < l.length := by omega
     refine wp_region_quiet_below (by kernel_rfl) (by kernel_rfl) ?_
     repeat (any_goals (first | go_big_quiet_skip | quiet_step (first | exact HL.out _ _)))
     refine wpQuiet_nil ?_
     rintro _ ⟨⟨dq, osq⟩, rfl⟩
     have kW2 := kept_trans hkW (below_regrown wr dq osq)
     go_wp2_with fail
     go_roundw
     case rel => exact ⟨_, HI.out, by go_num, kW2⟩
     case measure => simp [intOf]; omega
  ·have hltI : ¬ (k : Int) < l.length := by omega
   go_wp2_with fail
   go_ret
   exact ⟨rfl, hkW⟩
def turnI (n b : Int) : Int := if n.tmod b < 0 then n.tmod b + b else n.tmod b
theorem turnI_lt (n b : Int) (hb : 1 ≤ b) : 0 ≤ turnI n b ∧ turnI n b < b := by
 obtain ⟨m1, m2⟩ := tmod_small n b hb
 unfold turnI
 split <;> omega
theorem turn_is (n b : Int) (hb : 1 ≤ b) (hb2 : b ≤ 1000) (w : World) : Calls Tryz.prog 7 #[.int .i64 n, .int .i64 b] w fun e w' => e = .returned (.int .i64 (turnI n b)) ∧ w = w' := by
 have hb0 : decide (b < 1) = false := by simp; omega
 have hbz : (b == 0) = false := by simp; omega
 obtain ⟨m1, m2⟩ := tmod_small n b hb
 by_cases hs : n.tmod b < 0
 ·rw [show turnI n b = n.tmod b + b by simp [turnI, hs]]
  go_enter Tryz.func7, Tryz.ntmps7
  go_wp2_with fail
  all_goals go_ret
  all_goals first | exact ⟨rfl, rfl⟩ | (exfalso; omega)
 ·rw [show turnI n b = n.tmod b by simp [turnI, hs]]
  go_enter Tryz.func7, Tryz.ntmps7
  go_wp2_with fail
  all_goals go_ret
  all_goals first | exact ⟨rfl, rfl⟩ | (exfalso; omega)
def wI (n : Nat) : List Nat → Nat → Int
 | [], _ => -1
 | x :: xs, k => if x = n then (k : Int) else wI n xs (k + 1)
theorem wI_cons (n x : Nat) (xs : List Nat) (k : Nat) : wI n (x :: xs) k = if x = n then (k : Int) else wI n xs (k + 1) := rfl
theorem wI_mem (n : Nat) : ∀ (l : List Nat) (k : Nat), 0 ≤ wI n l k ↔ n ∈ l
 | [], k => by simp [wI]
 | x :: xs, k => by
  unfold wI
  by_cases h : x = n
  ·simp [h]
  ·rw [if_neg h, wI_mem n xs (k + 1)]
   simp [h, Ne.symm h]
section
variable {B : Book} {sb sb' : Nat → List Int → Bool} {n : Nat}
theorem pairwise_incr {l : List Nat} (h : l.Pairwise (· < ·)) : incr l := fun i x y hx hy => by
 obtain ⟨hi, rfl⟩ := List.getElem?_eq_some_iff.1 hx
 obtain ⟨hj, rfl⟩ := List.getElem?_eq_some_iff.1 hy
 exact List.pairwise_iff_getElem.1 h i (i + 1) hi hj (by omega)
end
structure TopsAt (x : Boy) (week note lo0 lo1 br0 br1 tp0 tp1 : Int) (fd : Bool) (kind : Int) : Prop where
 a1 : x.l0 ≤ lo0
 a2 : lo0 ≤ lo1
 a3 : lo1 ≤ x.l1
 b1 : x.b0 ≤ br0
 b2 : br0 ≤ br1
 b3 : br1 ≤ x.b1
 k1 : 0 ≤ kind
 k2 : kind ≤ 2
 t1 : fd = false ↔ br1 ≤ week
 t2 : fd = false → kind = 0 ∧ tp0 = 0 ∧ tp1 = 0
 t3 : fd = true → tp0 ≤ tp1
 t4 : fd = true → tp1 < note → kind = 0
 t5 : note < lo0 → kind = 0
 t6 : fd = true → note = tp1 → lo1 ≤ note → kind ≠ 0
 t7 : fd = true → week < br0 → lo1 ≤ note → note ≤ tp0 → kind = 2
def bitsL (s n : Nat) : List Nat := (List.range n).filter fun i => s.testBit i
theorem bitsL_succ (s n : Nat) : bitsL s (n + 1) = bitsL s n ++ (if s.testBit n then [n] else []) := by
 unfold bitsL
 rw [List.range_succ, List.filter_append]
 congr 1
 simp only [List.filter_cons, List.filter_nil]
theorem bitsL_len (s n : Nat) : (bitsL s n).length ≤ n := by
 have := List.length_filter_le (fun i => s.testBit i) (List.range n)
 simpa [bitsL] using this
end Go.Proofs.YtcllfjjhijkakaaGreatDoor
namespace Go.Proofs.YtcllfjjhijkakaaGreatDoor
open Go.RowKit Go.Sort Go.Rg
set_option maxRecDepth 100000
attribute [local go_sem] Oper.semAt_some
end Go.Proofs.YtcllfjjhijkakaaGreatDoor
namespace Go.Proofs.YtcllfjjhijkakaaGreatDoor
open Go.RowKit Go.Sort Go.Rg
set_option maxRecDepth 100000
def RightP (B : Book) (W : World) (e : Ending) (C : World) : Prop :=
 ∃ r : Bool, e = .returned (.tuple #[.bool r, .int .i64 0]) ∧ Kept W C ∧ (r = true ↔ Can B)
set_option maxHeartbeats 4000000 in
theorem right_any (p q : Option Addr) (cap capt : Nat) (B : Book) (W : World) (h : BookAt W p q cap capt B) (hg : Nothing W) (hok : B.okB = true) :
  Calls Tryz.prog 9 #[B.val p q cap capt] W (RightP B W) := by
 unfold Book.val
 obtain ⟨hk0, a0, a1, a2⟩ := bk0 W p q cap capt B
 go_enter Tryz.func9, Tryz.ntmps9
 go_wp2_with fail
 generalize W.alloc (Obj.cells #[.slice p B.boys.length cap, .int .i64 B.weeks, .slice q B.trials.length capt] 25) = W1 at *
 refine (check_any p q cap capt B _ (h.kept hk0)).mono ?_
 rintro e W2 ⟨rfl, hk2⟩
 have hkW2 := kept_trans hk0 hk2
 replace a0 := kcell hk2 a0
 replace a1 := kcell hk2 a1
 replace a2 := kcell hk2 a2
 simp only [hok, if_true]
 go_wp2_with fail
 refine (newChoir_any p q cap capt B W W2 hok h hkW2).mono ?_
 rintro e W3 ⟨c, hcB, rfl, hk3, hat⟩
 have hcan := canBeTrue_any _ c W3 hat (fun b hb => hb.1) (hg.kept (kept_trans hkW2 hk3))
 have HCAN := Lib.hid hcan; clear hcan
 generalize hcv : c.val = cv at *
 go_wp2_with fail
 refine HCAN.out.mono ?_
 rintro e W4 ⟨r, hr, rfl, hk4⟩
 go_wp2_with fail
 refine bodyPost_ret (v := .tuple #[.bool r, .int .i64 0]) (by simp [results, Tryz.results9, go_sem]) rfl ?_
 subst hcB
 exact ⟨r, rfl, kept_trans (kept_trans hkW2 hk3) hk4, hr⟩
end Go.Proofs.YtcllfjjhijkakaaGreatDoor
namespace Go.Proofs.YtcllfjjhijkakaaGreatDoor
open Go.RowKit Go.Sort Go.Rg
set_option maxRecDepth 100000
set_option maxHeartbeats 1000000
attribute [local go_sem] Oper.semAt_some
def BBook.sval (X : BBook) (m : Nat) (out : Value) : Value := .agg #[.slice X.p X.B.boys.length X.cap, .int .i64 X.B.weeks, .slice X.q X.B.trials.length X.capt, .slice X.r X.pieces.length X.capp, .int .i64 X.most, .map (some m), out]
theorem piece_cells {w : World} {X : BBook} (h : BBookAt w X) {i : Nat} {x : Piece} (hx : X.pieces[i]? = some x) :
  ∃ b o, X.r = some ⟨b, o, none⟩ ∧ b < w.heap.size ∧ w.cell? ⟨b, o + i * 2, none⟩ = some (.int .i64 x.week) ∧ w.cell? ⟨b, o + i * 2 + 1, none⟩ = some (.slice x.p x.parts.length x.cap) ∧ PieceIs w x := by
 rcases h.pieces with e | ⟨b, o, e, hp⟩
 ·rw [e] at hx; simp at hx
 ·obtain ⟨⟨h1, h2⟩, h3⟩ := hp.2 i x hx
  exact ⟨b, o, e, hp.1, h1, h2, h3⟩
theorem part_cells {w : World} {x : Piece} (h : PieceIs w x) {k : Nat} {y : Part} (hy : x.parts[k]? = some y) :
  ∃ b o, x.p = some ⟨b, o, none⟩ ∧ b < w.heap.size ∧ w.cell? ⟨b, o + k * 3, none⟩ = some (.int .i64 y.lo) ∧ w.cell? ⟨b, o + k * 3 + 1, none⟩ = some (.int .i64 y.hi) ∧ w.cell? ⟨b, o + k * 3 + 2, none⟩ = some (.int .i64 y.many) := by
 rcases h.2 with e | ⟨b, o, e, hp⟩
 ·rw [e] at hy; simp at hy
 ·obtain ⟨h1, h2, h3⟩ := hp.2 k y hy
  exact ⟨b, o, e, hp.1, h1, h2, h3⟩
theorem part_any (X : BBook) (m : Nat) (out : Value) (i k : Nat) (x : Piece) (y : Part) (hx : X.pieces[i]? = some x) (hy : x.parts[k]? = some y) (w : World) (h : BBookAt w X) :
  Calls Tryz.prog 78 #[X.sval m out, keyV i k] w fun e w' => e = .returned y.val ∧ Kept w w' := by
 have hnp := h.np
 obtain ⟨b, o, hr, hbz, p0, p1, hpi⟩ := piece_cells h hx
 have hlp := hpi.1
 obtain ⟨bp, op, hxp, hbpz, q0, q1, q2⟩ := part_cells hpi hy
 have hil : i < X.pieces.length := (List.getElem?_eq_some_iff.1 hx).1
 have hkl : k < x.parts.length := (List.getElem?_eq_some_iff.1 hy).1
 have hilI : (i : Int) < X.pieces.length := by omega
 have hklI : (k : Int) < x.parts.length := by omega
 have hi0 : (0 : Int) ≤ i := by omega
 have hk0' : (0 : Int) ≤ k := by omega
 have hk0 : Kept w (((w.alloc (Obj.cells #[.slice X.p X.B.boys.length X.cap, .int .i64 X.B.weeks, .slice X.q X.B.trials.length X.capt, .slice X.r X.pieces.length X.capp, .int .i64 X.most, .map (some m), out] 74)).alloc (Obj.cells #[.int .i64 (i : Int), .int .i64 (k : Int)] 86)).alloc (Obj.cells #[.int .i64 0, .int .i64 0, .int .i64 0] 56)) := kept_alloc (kept_alloc (kept_alloc (kept_refl _) _) _) _
 unfold BBook.sval keyV Part.val
 rw [hr] at hk0 ⊢
 rw [hxp] at p1
 go_enter Tryz.func78, Tryz.ntmps78
 have ZZ : ∀ Z, Z = (((w.alloc (Obj.cells #[.slice X.p X.B.boys.length X.cap, .int .i64 X.B.weeks, .slice X.q X.B.trials.length X.capt, .slice (some ⟨b, o, none⟩) X.pieces.length X.capp, .int .i64 X.most, .map (some m), out] 74)).alloc (Obj.cells #[.int .i64 (i : Int), .int .i64 (k : Int)] 86)).alloc (Obj.cells #[.int .i64 0, .int .i64 0, .int .i64 0] 56)) → Z.cell? ⟨w.heap.size, 3, none⟩ = some (.slice (some ⟨b, o, none⟩) X.pieces.length X.capp) ∧ Z.cell? ⟨w.heap.size + 1, 0, none⟩ = some (.int .i64 (i : Int)) ∧ Z.cell? ⟨w.heap.size + 1, 1, none⟩ = some (.int .i64 (k : Int)) ∧ Z.cell? ⟨w.heap.size + 1 + 1, 0, none⟩ = some (.int .i64 0) ∧ Z.cell? ⟨w.heap.size + 1 + 1, 1, none⟩ = some (.int .i64 0) ∧ Z.cell? ⟨w.heap.size + 1 + 1, 2, none⟩ = some (.int .i64 0) ∧ Z.frozen? ⟨w.heap.size + 1 + 1, 0, none⟩ = false ∧ Z.frozen? ⟨w.heap.size + 1 + 1, 1, none⟩ = false ∧ Z.frozen? ⟨w.heap.size + 1 + 1, 2, none⟩ = false := by rintro _ rfl; refine ⟨?_, ?_, ?_, ?_, ?_, ?_, ?_, ?_, ?_⟩ <;> go_simp
 obtain ⟨a3, k0, k1, r0, r1, r2, rf0, rf1, rf2⟩ := ZZ _ rfl; clear ZZ
 go_wp2_with fail
 generalize (((w.alloc (Obj.cells #[.slice X.p X.B.boys.length X.cap, .int .i64 X.B.weeks, .slice X.q X.B.trials.length X.capt, .slice (some ⟨b, o, none⟩) X.pieces.length X.capp, .int .i64 X.most, .map (some m), out] 74)).alloc (Obj.cells #[.int .i64 (i : Int), .int .i64 (k : Int)] 86)).alloc (Obj.cells #[.int .i64 0, .int .i64 0, .int .i64 0] 56)) = W0 at *
 have e1 := cell_regrown (kcell hk0 p1)
 have e2 := cell_regrown (kcell hk0 q0)
 have e3 := cell_regrown (kcell hk0 q1)
 have e4 := cell_regrown (kcell hk0 q2)
 have e5 := cell_regrown a3
 have e6 := cell_regrown k0
 have e7 := cell_regrown k1
 refine (wpIn_wide (n := 0)).1 (wpIn_region_below_last (by kernel_rfl) (by kernel_rfl) rfl ?_)
 dsimp only [fakeLast, fake]
 iterate 13 (
  refine wpQuietIn_step (fun _ _ _ _ => True.intro) (fun K hK => ?_)
  go_simp
  refine hK _ ?_; clear hK K)
 refine wpQuietIn_nil ?_
 rintro _ ⟨⟨dq, osq⟩, rfl⟩
 have hkQ := below_regrown W0 dq osq
 have s0 := kcell hkQ r0
 have s1 := kcell hkQ r1
 have s2 := kcell hkQ r2
 have sf0 := (World.frozen?_of_block (a := ⟨w.heap.size + 1 + 1, 0, none⟩) (hkQ.block _ (Go.Ai.lt_of_cell r0))).trans rf0
 have sf1 := (World.frozen?_of_block (a := ⟨w.heap.size + 1 + 1, 1, none⟩) (hkQ.block _ (Go.Ai.lt_of_cell r0))).trans rf1
 have sf2 := (World.frozen?_of_block (a := ⟨w.heap.size + 1 + 1, 2, none⟩) (hkQ.block _ (Go.Ai.lt_of_cell r0))).trans rf2
 have hkk := kept_trans hk0 hkQ
 clear e1 e2 e3 e4 e5 e6 e7
 generalize grow (redrawn W0 dq) osq = WQ at *
 have hzq := Go.Ai.lt_of_cell s0
 have hset : Kept w (((WQ.setCell ⟨w.heap.size + 1 + 1, 0, none⟩ (.int .i64 y.lo)).setCell ⟨w.heap.size + 1 + 1, 1, none⟩ (.int .i64 y.hi)).setCell ⟨w.heap.size + 1 + 1, 2, none⟩ (.int .i64 y.many)) :=
  Below.setCell (p := ⟨w.heap.size + 1 + 1, 2, none⟩) (Below.setCell (p := ⟨w.heap.size + 1 + 1, 1, none⟩) (Below.setCell (p := ⟨w.heap.size + 1 + 1, 0, none⟩) hkk (by simp; omega) _) (by simp; omega) _) (by simp; omega) _
 have g0 : (((WQ.setCell ⟨w.heap.size + 1 + 1, 0, none⟩ (.int .i64 y.lo)).setCell ⟨w.heap.size + 1 + 1, 1, none⟩ (.int .i64 y.hi)).setCell ⟨w.heap.size + 1 + 1, 2, none⟩ (.int .i64 y.many)).cell? ⟨w.heap.size + 1 + 1, 0, none⟩ = some (.int .i64 y.lo) := (cell_set_ne (by omega)).trans ((cell_set_ne (by omega)).trans (cell_set_eq s0))
 have g1 : (((WQ.setCell ⟨w.heap.size + 1 + 1, 0, none⟩ (.int .i64 y.lo)).setCell ⟨w.heap.size + 1 + 1, 1, none⟩ (.int .i64 y.hi)).setCell ⟨w.heap.size + 1 + 1, 2, none⟩ (.int .i64 y.many)).cell? ⟨w.heap.size + 1 + 1, 1, none⟩ = some (.int .i64 y.hi) := (cell_set_ne (by omega)).trans (cell_set_eq ((cell_set_ne (by omega)).trans s1))
 have g2 : (((WQ.setCell ⟨w.heap.size + 1 + 1, 0, none⟩ (.int .i64 y.lo)).setCell ⟨w.heap.size + 1 + 1, 1, none⟩ (.int .i64 y.hi)).setCell ⟨w.heap.size + 1 + 1, 2, none⟩ (.int .i64 y.many)).cell? ⟨w.heap.size + 1 + 1, 2, none⟩ = some (.int .i64 y.many) := cell_set_eq ((cell_set_ne (by omega)).trans ((cell_set_ne (by omega)).trans s2))
 go_simp
 refine (by assumption : ∀ (a : Act) (w : World), Code.wp Tryz.prog _ _ a w → _) _ _ ?_
 generalize (((WQ.setCell ⟨w.heap.size + 1 + 1, 0, none⟩ (.int .i64 y.lo)).setCell ⟨w.heap.size + 1 + 1, 1, none⟩ (.int .i64 y.hi)).setCell ⟨w.heap.size + 1 + 1, 2, none⟩ (.int .i64 y.many)) = WN at *
 clear s0 s1 s2 sf0 sf1 sf2
 go_wp2_with fail
 refine bodyPost_ret (v := .agg #[.int .i64 y.lo, .int .i64 y.hi, .int .i64 y.many]) (by simp [results, Tryz.results78, go_sem, g0, g1, g2]) rfl ?_
 exact ⟨rfl, hset⟩
end Go.Proofs.YtcllfjjhijkakaaGreatDoor
