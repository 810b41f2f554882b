/- Regions that draw their order, in any frame: where each operation's value and the world are known for each set of operations that are over. No conditions. -/
import Derived.Test.YthgfbokfaidklaaGreatDoorGC
import Derived.Laws.EntriesVeiled
import Derived.Lib.QuietBelowIn
import Derived.Sort.QuietTacIn
import Derived.TacticsIn
set_option linter.all false
set_option linter.all false
namespace Go.Proofs.YthgfbokfaidklaaGreatDoor
open Go.RowKit Go.Sort Go.Rg
set_option maxRecDepth 100000
attribute [local go_sem] Oper.semAt_some

/-- a function value that asks something of the truths of a boy -/
structure Asks (c : Choir) (boy : Nat) (x : Boy) (W : World) (g : Nat) (caps : Array Value) (sb : List Int → Bool) : Prop where
  enter : ∀ args w, (callFunc g args).run Tryz.prog w = .ok (.enter g args) w
  call : ∀ A n, Kept W A → n ∈ c.B.truths boy x → Calls Tryz.prog g (#[encT c boy n] ++ caps) A fun e B => e = .returned (.bool (sb n)) ∧ Kept A B

end Go.Proofs.YthgfbokfaidklaaGreatDoor
set_option linter.all false
namespace Go.Proofs.YthgfbokfaidklaaGreatDoor
open Go.RowKit Go.Sort Go.Rg
set_option maxRecDepth 100000
attribute [local go_sem] Oper.semAt_some

end Go.Proofs.YthgfbokfaidklaaGreatDoor
set_option linter.all false
namespace Go.Proofs.YthgfbokfaidklaaGreatDoor
open Go.RowKit Go.Sort Go.Rg
set_option maxRecDepth 100000

theorem Asks.kept {c : Choir} {boy : Nat} {x : Boy} {W V : World} {g : Nat} {caps : Array Value} {sb : List Int → Bool} (h : Asks c boy x W g caps sb) (k : Kept W V) : Asks c boy x V g caps sb :=
  ⟨h.enter, fun A n hA hn => h.call A n (kept_trans k hA) hn⟩
theorem oidx0 (w : World) : (Instr.index 128 (.agg #[.int .i64 2, .func (.func 73) #[] #[], .int .i64 1, .func (.func 74) #[] #[]]) (.int .i64 0)).run Tryz.prog w = .ok (.agg #[.int .i64 2, .func (.func 73) #[] #[]]) w := by kernel_rfl
theorem oidx1 (w : World) : (Instr.index 128 (.agg #[.int .i64 2, .func (.func 73) #[] #[], .int .i64 1, .func (.func 74) #[] #[]]) (.int .i64 1)).run Tryz.prog w = .ok (.agg #[.int .i64 1, .func (.func 74) #[] #[]]) w := by kernel_rfl
attribute [local go_sem] oidx0 oidx1
end Go.Proofs.YthgfbokfaidklaaGreatDoor
set_option linter.all false
namespace Go.Proofs.YthgfbokfaidklaaGreatDoor
open Go.RowKit Go.Sort Go.Rg
set_option maxRecDepth 100000

theorem infoI : (Tryz.prog.info? 3).map (fun i => (i.zero, i.size, i.bytes)) = some (some (.int .i64 0), 1, 8) := by kernel_rfl
end Go.Proofs.YthgfbokfaidklaaGreatDoor
set_option linter.all false
namespace Go.Rg
open Go Go.Sort Go.RowKit

section
variable {F : Fence} {n : Nat} {P : Program} {ops ops' : Array Oper} {md : Region.Mode} {C : World → Prop}

end

def lowFrom : Nat → List Oper → Bool
  | _, [] => true
  | i, o :: l => o.after.toList.all (fun e => !Region.binds .any e || Nat.blt e.on i) && lowFrom (i + 1) l
theorem lowFrom_get : ∀ (k : Nat) (l : List Oper), lowFrom k l = true → ∀ (i : Nat) (x : Oper), l[i]? = some x → ∀ e ∈ x.after, Region.binds .any e = true → e.on < k + i
  | _, [], _, i, x, h, _, _, _ => by simp at h
  | k, o :: l, hl, 0, x, h, e, he, hb => by
    simp only [lowFrom, Bool.and_eq_true, List.all_eq_true] at hl
    simp only [List.getElem?_cons_zero, Option.some.injEq] at h
    subst h
    have := hl.1 e (by simpa using he)
    simpa [Nat.blt_eq, hb] using this
  | k, o :: l, hl, i + 1, x, h, e, he, hb => by
    simp only [lowFrom, Bool.and_eq_true] at hl
    have := lowFrom_get (k + 1) l hl.2 i x (by simpa using h) e he hb
    omega

end Go.Rg
set_option linter.all false
namespace Go.Rg
open Go Go.Sort Go.RowKit

section
variable {F : Fence} {n : Nat} {P : Program} {md : Region.Mode}

/-- The temporaries behind the operations that are over. -/
structure AtSt (ops : Array Oper) (vs : Nat → Value) (a0 : Act) (listed : Array Bool) (a : Act) : Prop where
  defers : a.defers = a0.defers
  size : a.tmps.size = a0.tmps.size
  done : ∀ (j : Nat) (o : Oper) (d : Tmp), listed.getD j false = true → ops[j]? = some o → o.dst = some d → a.tmps.getD d undef = if d < a0.tmps.size then vs j else undef
  other : ∀ t, (∀ (j : Nat) (o : Oper), listed.getD j false = true → ops[j]? = some o → o.dst ≠ some t) → a.tmps.getD t undef = a0.tmps.getD t undef

theorem AtSt.put {ops : Array Oper} {vs : Nat → Value} {a0 a : Act} {listed : Array Bool} {i : Nat} {o : Oper} (h : AtSt ops vs a0 listed a) (ho : ops[i]? = some o) (hi : listed.getD i true = false) (hdist : ∀ (j k : Nat) (x y : Oper) (d : Tmp), ops[j]? = some x → ops[k]? = some y → x.dst = some d → y.dst = some d → j = k) :
    AtSt ops vs a0 (listed.setIfInBounds i true) (a.put o.dst (vs i)) := by
  have hil : i < listed.size := by
    rcases Nat.lt_or_ge i listed.size with h | h
    · exact h
    · simp [Array.getD_eq_getD_getElem?, Array.getElem?_eq_none h] at hi
  have lst : ∀ j, (listed.setIfInBounds i true).getD j false = true ↔ j = i ∨ listed.getD j false = true := fun j => by
    by_cases e : j = i
    · subst e; simp [Array.getD_eq_getD_getElem?, hil]
    · simp [Array.getD_eq_getD_getElem?, Array.getElem?_setIfInBounds_ne (Ne.symm e), e]
  have hput : (a.put o.dst (vs i)).defers = a.defers ∧ (a.put o.dst (vs i)).tmps.size = a.tmps.size ∧ ∀ t, (a.put o.dst (vs i)).tmps.getD t undef = if o.dst = some t ∧ t < a.tmps.size then vs i else a.tmps.getD t undef := by
    cases hd : o.dst with
    | none => exact ⟨rfl, rfl, fun t => by simp [Act.put]⟩
    | some d =>
      refine ⟨rfl, by simp [Act.put], fun t => ?_⟩
      by_cases e : d = t
      · subst e
        by_cases hz : d < a.tmps.size
        · simp [Act.put, Array.getD_eq_getD_getElem?, hz]
        · simp [Act.put, Array.getD_eq_getD_getElem?, hz]
      · simp [Act.put, Array.getD_eq_getD_getElem?, Array.getElem?_setIfInBounds_ne e, e]
  obtain ⟨p1, p2, p3⟩ := hput
  refine ⟨p1.trans h.defers, p2.trans h.size, fun j x d hj hx hd => ?_, fun t ht => ?_⟩
  · rw [p3]
    by_cases e : j = i
    · subst e
      rw [ho] at hx; cases hx
      rw [← h.size]
      by_cases hz : d < a.tmps.size
      · simp [hd, hz]
      · simp [hd, hz, Array.getD_eq_getD_getElem?]
    · have : ¬ (o.dst = some d ∧ d < a.tmps.size) := fun h1 => e (hdist j i x o d hx ho hd h1.1)
      rw [if_neg this]
      exact h.done j x d (((lst j).1 hj).resolve_left e) hx hd
  · rw [p3, if_neg (fun h1 => ht i o ((lst i).2 (.inl rfl)) ho h1.1)]
    exact h.other t fun j x hj hx => ht j x ((lst j).2 (.inr hj)) hx

theorem countP_set : ∀ (l : List Bool) (i : Nat), l[i]? = some false → (l.set i true).countP (· == false) + 1 = l.countP (· == false) := by
  intro l
  induction l with
  | nil => intro i h; simp at h
  | cons b l ihl =>
    intro i h
    cases i with
    | zero =>
      simp only [List.getElem?_cons_zero, Option.some.injEq] at h
      subst h; simp
    | succ i =>
      have := ihl i (by simpa using h)
      simp only [List.set_cons_succ, List.countP_cons]
      omega
theorem wpAnyIn_inv {ops : Array Oper} {St : Array Bool → Act → World → Prop} {Q : Exit → Act → World → Prop} (hlow : ∀ (i : Nat) (x : Oper), ops[i]? = some x → ∀ e ∈ x.after, Region.binds md e = true → e.on < i)
    (hop : ∀ (i : Nat) (o : Oper) (listed : Array Bool) (a : Act) (w : World), listed.size = ops.size → ops[i]? = some o → listed.getD i true = false → (∀ e ∈ o.after, Region.binds md e = true → listed.getD e.on false = true) → St listed a w →
      if Region.wanted o (yielded ops a.tmps) then o.wpIn F n P a w (fun a' w' => St (listed.setIfInBounds i true) a' w') Q else (∀ f, o.about P w a.eval = some f → F.fn f) ∧ St (listed.setIfInBounds i true) (a.put o.dst undef) w)
    (hend : ∀ (listed : Array Bool) (a : Act) (w : World), (∀ i, i < ops.size → listed.getD i false = true) → St listed a w → Q .normal a w) :
    ∀ (fuel : Nat) (listed : Array Bool) (a : Act) (w : World), listed.size = ops.size → (listed.toList.countP (· == false)) ≤ fuel → St listed a w → wpAnyIn F n P md ops Q fuel listed a w := by
  have full : ∀ listed : Array Bool, listed.size = ops.size → Region.ready md ops listed = [] → ∀ i, i < ops.size → listed.getD i false = true := by
    intro listed hl hr i
    induction i using Nat.strongRecOn with
    | _ i ih =>
      intro hi
      cases hb : listed.getD i true with
      | true =>
        have : i < listed.size := by omega
        simpa [Array.getD_eq_getD_getElem?, this] using hb
      | false =>
        have : i ∈ Region.ready md ops listed := mem_ready.2 ⟨hb, ops[i], by simp [hi], fun e he hbb => by
          have := hlow i ops[i] (by simp [hi]) e he hbb
          exact ih e.on this (by omega)⟩
        rw [hr] at this; cases this
  intro fuel
  induction fuel with
  | zero =>
    intro listed a w hl hc hw
    have hall : ∀ i, i < ops.size → listed.getD i false = true := fun i hi => by
      have hc0 : listed.toList.countP (· == false) = 0 := by omega
      rw [List.countP_eq_zero] at hc0
      have hil : i < listed.size := by omega
      have := hc0 listed[i] (by simp)
      simpa [Array.getD_eq_getD_getElem?, hil] using this
    refine ⟨?_, hend listed a w hall hw⟩
    rw [List.eq_nil_iff_forall_not_mem]
    intro j hj
    obtain ⟨h1, x, hx, _⟩ := mem_ready.1 hj
    have hjz := (Array.getElem?_eq_some_iff.1 hx).1
    have h2 := hall j hjz
    have : j < listed.size := by omega
    simp [Array.getD_eq_getD_getElem?, this] at h1 h2
    rw [h1] at h2; cases h2
  | succ fuel ih =>
    intro listed a w hl hc hw
    refine ⟨fun h0 => hend listed a w (full listed hl h0) hw, fun i hi => ?_⟩
    obtain ⟨h1, o, ho, h2⟩ := mem_ready.1 hi
    unfold wpOpIn
    simp only [ho]
    have hil : i < listed.size := by
      rcases Nat.lt_or_ge i listed.size with h | h
      · exact h
      · simp [Array.getD_eq_getD_getElem?, Array.getElem?_eq_none h] at h1
    have hlf : listed.toList[i]? = some false := by
      have : listed[i] = false := by simpa [Array.getD_eq_getD_getElem?, hil] using h1
      simp [hil, this]
    have hcnt : (listed.setIfInBounds i true).toList.countP (· == false) ≤ fuel := by
      have := countP_set listed.toList i hlf
      rw [Array.toList_setIfInBounds]
      omega
    have hh := hop i o listed a w hl ho h1 h2 hw
    split
    · rename_i hwt
      rw [if_pos hwt] at hh
      exact Oper.wpIn_mono (fun a' w' hq => ih _ _ _ (by simpa using hl) hcnt hq) hh
    · rename_i hwt
      rw [if_neg hwt] at hh
      exact ⟨hh.1, ih _ _ _ (by simpa using hl) hcnt hh.2⟩
end

def distFrom : List Oper → Bool
  | [] => true
  | o :: l => (match o.dst with | none => true | some d => l.all fun p => match p.dst with | none => true | some e => !Nat.beq d e) && distFrom l
theorem distFrom_get : ∀ (l : List Oper), distFrom l = true → ∀ (j k : Nat) (x y : Oper) (d : Tmp), l[j]? = some x → l[k]? = some y → x.dst = some d → y.dst = some d → j = k
  | [], _, j, k, x, y, d, hj, _, _, _ => by simp at hj
  | o :: l, h, j, k, x, y, d, hj, hk, hx, hy => by
    simp only [distFrom, Bool.and_eq_true] at h
    have no : ∀ {i : Nat} {z : Oper}, o.dst = some d → l[i]? = some z → z.dst = some d → False := fun {i z} ho hz hzd => by
      rw [ho] at h
      have := List.all_eq_true.1 h.1 z (List.mem_of_getElem? hz)
      rw [hzd] at this
      simp at this
    match j, k, hj, hk with
    | 0, 0, _, _ => rfl
    | 0, k + 1, hj, hk =>
      simp only [List.getElem?_cons_zero, Option.some.injEq] at hj
      subst hj
      exact (no hx (by simpa using hk) hy).elim
    | j + 1, 0, hj, hk =>
      simp only [List.getElem?_cons_zero, Option.some.injEq] at hk
      subst hk
      exact (no hy (by simpa using hj) hx).elim
    | j + 1, k + 1, hj, hk =>
      have := distFrom_get l h.2 j k x y d (by simpa using hj) (by simpa using hk) hx hy
      omega
theorem AtSt.old {l : List Oper} {vs : Nat → Value} {a0 a : Act} {listed : Array Bool} (h : AtSt l.toArray vs a0 listed a) (t : Tmp) (ht : l.all (fun o => match o.dst with | some d => !Nat.beq d t | none => true) = true) : a.tmps.getD t undef = a0.tmps.getD t undef :=
  h.other t fun j o _ ho hd => by
    have := List.all_eq_true.1 ht o (List.mem_of_getElem? (by simpa using ho))
    rw [hd] at this
    simp at this
theorem AtSt.new {l : List Oper} {vs : Nat → Value} {a0 a : Act} {listed : Array Bool} (h : AtSt l.toArray vs a0 listed a) (j : Nat) (hj : listed.getD j false = true) {o : Oper} {d : Tmp} (ho : l[j]? = some o) (hd : o.dst = some d) (hz : d < a0.tmps.size) : a.tmps.getD d undef = vs j := by
  have := h.done j o d hj (by simpa using ho) hd
  rwa [if_pos hz] at this
/-- is operation i over? -/
def on (listed : Array Bool) (i : Nat) : Bool := listed.getD i false
theorem on_set {listed : Array Bool} {i j : Nat} (h : j ≠ i) : on (listed.setIfInBounds i true) j = on listed j := by
  unfold on; simp [Array.getD_eq_getD_getElem?, Array.getElem?_setIfInBounds_ne (Ne.symm h)]
theorem on_self {listed : Array Bool} {i : Nat} (h : i < listed.size) : on (listed.setIfInBounds i true) i = true := by
  unfold on; simp [Array.getD_eq_getD_getElem?, h]
theorem on_no {listed : Array Bool} {i : Nat} (h : listed.getD i true = false) : on listed i = false := by
  unfold on
  simp only [Array.getD_eq_getD_getElem?] at *
  cases hx : listed[i]? with
  | none => rw [hx] at h; cases h
  | some b => rw [hx] at h; simpa using h
theorem AtSt.swap {l : Array Oper} {vs vs' : Nat → Value} {a0 a : Act} {listed : Array Bool} (h : AtSt l vs a0 listed a) (hs : ∀ j, listed.getD j false = true → vs j = vs' j) : AtSt l vs' a0 listed a :=
  ⟨h.defers, h.size, fun j o d hj ho hd => by rw [← hs j hj]; exact h.done j o d hj ho hd, h.other⟩
/-- Where an operation is over all are that it waits for. -/
def Closed (l : List Oper) (listed : Array Bool) : Prop := ∀ (j : Nat) (o : Oper), l[j]? = some o → on listed j = true → ∀ e ∈ o.after, Region.binds .any e = true → on listed e.on = true
theorem on_set_mono {listed : Array Bool} {i j : Nat} (h : on listed j = true) : on (listed.setIfInBounds i true) j = true := by
  by_cases e : j = i
  · subst e
    refine on_self ?_
    unfold on at h
    rcases Nat.lt_or_ge j listed.size with h1 | h1
    · exact h1
    · simp [Array.getD_eq_getD_getElem?, Array.getElem?_eq_none h1] at h
  · rw [on_set e]; exact h
theorem Closed.set {l : List Oper} {listed : Array Bool} {i : Nat} {o : Oper} (h : Closed l listed) (ho : l[i]? = some o) (h2 : ∀ e ∈ o.after, Region.binds .any e = true → listed.getD e.on false = true) : Closed l (listed.setIfInBounds i true) := fun j x hx hj e he hb => by
  by_cases e1 : j = i
  · subst e1
    rw [ho] at hx; cases hx
    exact on_set_mono (h2 e he hb)
  · rw [on_set e1] at hj
    exact on_set_mono (h j x hx hj e he hb)
/-- **A region that draws its order, by an invariant of its states.** -/
theorem wpIn_region_inv {F : Fence} {n : Nat} {P : Program} {id : Nat} {Q : Exit → Act → World → Prop} {a0 : Act} {w : World} {l : List Oper} (St : Array Bool → Act → World → Prop) (hm : P.follows .mixedOrders = true) (hlow : lowFrom 0 l = true)
    (h0 : St (Array.replicate l.length false) a0 { w with drawn := w.drawn + 1 })
    (hop : ∀ (i : Nat) (o : Oper) (listed : Array Bool) (a : Act) (w : World), listed.size = l.length → l[i]? = some o → listed.getD i true = false → (∀ e ∈ o.after, Region.binds .any e = true → listed.getD e.on false = true) → Closed l listed → St listed a w →
      if Region.wanted o (yielded l.toArray a.tmps) then o.wpIn F n P a w (fun a' w' => St (listed.setIfInBounds i true) a' w') Q else (∀ f, o.about P w a.eval = some f → F.fn f) ∧ St (listed.setIfInBounds i true) (a.put o.dst undef) w)
    (hend : ∀ (listed : Array Bool) (a : Act) (w : World), (∀ i, i < l.length → listed.getD i false = true) → St listed a w → Q .normal a w) : (Code.region id l.toArray true).wpIn F n P Q a0 w := by
  refine wpIn_region_any hm ?_
  have low : ∀ (i : Nat) (x : Oper), l.toArray[i]? = some x → ∀ e ∈ x.after, Region.binds .any e = true → e.on < i := fun i x hx e he hb => by have := lowFrom_get 0 l hlow i x (by simpa using hx) e he hb; omega
  refine wpAnyIn_inv (ops := l.toArray) (St := fun listed a w => Closed l listed ∧ St listed a w) low (fun i o listed a w hl ho h1 h2 hw => ?_) (fun listed a w hall hw => hend listed a w (by simpa using hall) hw.2) _ _ _ _ (by simp) ?_ ⟨fun j o ho hj => ?_, by simpa using h0⟩
  · have ho' : l[i]? = some o := by simpa using ho
    have hc := hw.1.set ho' h2
    have := hop i o listed a w (by simpa using hl) ho' h1 h2 hw.1 hw.2
    split
    · rename_i hwt
      rw [if_pos hwt] at this
      exact Oper.wpIn_mono (fun a' w' hq => ⟨hc, hq⟩) this
    · rename_i hwt
      rw [if_neg hwt] at this
      exact ⟨this.1, hc, this.2⟩
  · simp [List.countP_replicate]
  · unfold on at hj
    simp only [Array.getD_eq_getD_getElem?, Array.getElem?_replicate] at hj
    split at hj <;> simp at hj
/-- The same, the invariant told of the text and of the activation at the region's start. -/
theorem wpIn_region_invL {F : Fence} {n : Nat} {P : Program} {id : Nat} {Q : Exit → Act → World → Prop} {a0 : Act} {w : World} {l : List Oper} (St : List Oper → Act → Array Bool → Act → World → Prop) (hm : P.follows .mixedOrders = true) (hlow : lowFrom 0 l = true)
    (h0 : St l a0 (Array.replicate l.length false) a0 { w with drawn := w.drawn + 1 })
    (hop : ∀ (i : Nat) (o : Oper) (listed : Array Bool) (a : Act) (w : World), listed.size = l.length → l[i]? = some o → listed.getD i true = false → (∀ e ∈ o.after, Region.binds .any e = true → listed.getD e.on false = true) → Closed l listed → St l a0 listed a w →
      if Region.wanted o (yielded l.toArray a.tmps) then o.wpIn F n P a w (fun a' w' => St l a0 (listed.setIfInBounds i true) a' w') Q else (∀ f, o.about P w a.eval = some f → F.fn f) ∧ St l a0 (listed.setIfInBounds i true) (a.put o.dst undef) w)
    (hend : ∀ (listed : Array Bool) (a : Act) (w : World), (∀ i, i < l.length → listed.getD i false = true) → St l a0 listed a w → Q .normal a w) : (Code.region id l.toArray true).wpIn F n P Q a0 w :=
  wpIn_region_inv (St l a0) hm hlow h0 hop hend
theorem arr_range (t : Array Value) : t = ((List.range t.size).map fun i => t.getD i undef).toArray := by
  apply Array.ext'
  apply List.ext_getElem?
  intro i
  rcases Nat.lt_or_ge i t.size with h | h
  · simp [h, Array.getD_eq_getD_getElem?]
  · simp [h]
/-- The temporaries, written out. -/
theorem AtSt.lit {l : Array Oper} {vs : Nat → Value} {a0 a : Act} {listed : Array Bool} (h : AtSt l vs a0 listed a) {n : Nat} (hn : a0.tmps.size = n) : ∃ y : Nat → Value, (∀ t, a.tmps.getD t undef = y t) ∧ a = { tmps := ((List.range n).map y).toArray, defers := a0.defers } := by
  refine ⟨fun t => a.tmps.getD t undef, fun _ => rfl, ?_⟩
  have := arr_range a.tmps
  rw [h.size, hn] at this
  obtain ⟨tm, df⟩ := a
  simp only at this ⊢
  rw [← this, ← h.defers]
end Go.Rg
set_option linter.all false
namespace Go.Proofs.YthgfbokfaidklaaGreatDoor
open Go.RowKit Go.Sort Go.Rg
set_option maxRecDepth 100000
attribute [local go_sem] Oper.semAt_some

/-- a function value that tells a number of the truths of a boy -/
structure Tells (c : Choir) (boy : Nat) (x : Boy) (W : World) (g : Nat) (caps : Array Value) (f : List Int → Int × Bool) : Prop where
  enter : ∀ args w, (callFunc g args).run Tryz.prog w = .ok (.enter g args) w
  call : ∀ A n, Kept W A → n ∈ c.B.truths boy x → Calls Tryz.prog g (#[encT c boy n] ++ caps) A fun e B => e = .returned (.tuple #[.int .i64 (f n).1, .bool (f n).2]) ∧ Kept A B
end Go.Proofs.YthgfbokfaidklaaGreatDoor
set_option linter.all false
namespace Go.Proofs.YthgfbokfaidklaaGreatDoor
open Go.RowKit Go.Sort Go.Rg
set_option maxRecDepth 100000
attribute [local go_sem] Oper.semAt_some

end Go.Proofs.YthgfbokfaidklaaGreatDoor
set_option linter.all false
namespace Go.Proofs.YthgfbokfaidklaaGreatDoor
open Go.RowKit Go.Sort Go.Rg
set_option maxRecDepth 100000
attribute [local go_sem] Oper.semAt_some

def ErrP (B : Book) (cond : Bool) (err : Int) : Prop := (err = 20 ∧ B.okB = false) ∨ (err = 21 ∧ B.okB = true ∧ cond = false) ∨ (err = 22 ∧ B.okB = true ∧ cond = true ∧ ¬ Can B)
/-- what is known while 'c, e := open(b, cond)' is carried out, in whatever order -/
structure OpenReg (W0 : World) (B : Book) (cond : Bool) (v : Value) (err : Int) (p : Nat) (o4 o8 o9 : Bool) (w : World) : Prop where
  kept : Kept W0 w
  box : o8 = true → W0.heap.size ≤ p ∧ (∃ f0 f1 f2 f3, w.cell? ⟨p, 0, none⟩ = some f0 ∧ w.cell? ⟨p, 1, none⟩ = some f1 ∧ w.cell? ⟨p, 2, none⟩ = some f2 ∧ w.cell? ⟨p, 3, none⟩ = some f3) ∧ ∀ i, w.frozen? ⟨p, i, none⟩ = false
  res : o4 = true → (err = 0 ∧ B.okB = true ∧ cond = true ∧ Can B ∧ ∃ (c : Choir) (S : Nat → Prop), c.B = B ∧ v = c.val ∧ ChoirAt S w c ∧ (∀ b, S b → b < w.heap.size) ∧ (o8 = true → ¬ S p)) ∨ (v = zeroChoir ∧ ErrP B cond err)
  put : o9 = true → o8 = true ∧ ∃ x0 x1 x2 x3, v = .agg #[x0, x1, x2, x3] ∧ w.cell? ⟨p, 0, none⟩ = some x0 ∧ w.cell? ⟨p, 1, none⟩ = some x1 ∧ w.cell? ⟨p, 2, none⟩ = some x2 ∧ w.cell? ⟨p, 3, none⟩ = some x3
section
variable {W0 : World} {B : Book} {cond : Bool} {v : Value} {err : Int} {p : Nat} {o4 o8 o9 : Bool} {w w' : World}
theorem OpenReg.go (h : OpenReg W0 B cond v err p o4 o8 o9 w) (k : Kept w w') : OpenReg W0 B cond v err p o4 o8 o9 w' where
  kept := kept_trans h.kept k
  box := fun e => by
    obtain ⟨h1, ⟨f0, f1, f2, f3, a0, a1, a2, a3⟩, h3⟩ := h.box e
    exact ⟨h1, ⟨f0, f1, f2, f3, kcell k a0, kcell k a1, kcell k a2, kcell k a3⟩, fun i => ((kturns k (fun _ => False)).frozen (Go.Ai.lt_of_cell a0) (fun h => h)).trans (h3 i)⟩
  res := fun e => (h.res e).imp (fun ⟨h1, h2, h3, h4, c, S, h5, h6, h7, h8, h9⟩ => ⟨h1, h2, h3, h4, c, S, h5, h6, h7.turns (kturns k (fun _ => False)) (fun _ _ h => h), fun b hb => Nat.lt_of_lt_of_le (h8 b hb) k.size, h9⟩) id
  put := fun e => by
    obtain ⟨h0, x0, x1, x2, x3, e1, a0, a1, a2, a3⟩ := h.put e
    exact ⟨h0, x0, x1, x2, x3, e1, kcell k a0, kcell k a1, kcell k a2, kcell k a3⟩
theorem OpenReg.opened (h : OpenReg W0 B cond v err p o4 o8 o9 w) (n0 : Nat) (hn : n0 ≤ W0.heap.size) (h9 : o9 = false) {e : Ending} (ho : OpenP B cond n0 w e w') :
    ∃ v' err', e = .returned (.tuple #[v', .int .i64 err']) ∧ OpenReg W0 B cond v' err' p true o8 o9 w' := by
  obtain ⟨v', err', rfl, k, hr⟩ := ho
  have hb := (h.go k).box
  refine ⟨v', err', rfl, kept_trans h.kept k, hb, fun _ => ?_, fun e => by rw [h9] at e; cases e⟩
  rcases hr with ⟨h1, h2, h3, h4, c, h5, h6, h7⟩ | hz
  · refine .inl ⟨h1, h2, h3, h4, c, _, h5, h6, h7, fun b hb => hb.1, fun e8 hS => ?_⟩
    obtain ⟨b1, ⟨f0, _, _, _, a0, _⟩, _⟩ := h.box e8
    have := Go.Ai.lt_of_cell a0
    have := hS.2
    omega
  · exact .inr hz
theorem OpenReg.boxed (h : OpenReg W0 B cond v err p o4 false o9 w) (h9 : o9 = false) :
    OpenReg W0 B cond v err w.heap.size o4 true o9 (w.alloc (Obj.cells #[.slice none 0 0, .int .i64 0, .slice none 0 0, .map none] 92)) := by
  have k : Kept w (w.alloc (Obj.cells #[.slice none 0 0, .int .i64 0, .slice none 0 0, .map none] 92)) := kept_alloc (kept_refl _) _
  refine ⟨kept_trans h.kept k, fun _ => ⟨h.kept.size, ⟨.slice none 0 0, .int .i64 0, .slice none 0 0, .map none, by go_simp, by go_simp, by go_simp, by go_simp⟩, fun i => by go_simp⟩, fun e4 => ?_, fun e => by rw [h9] at e; cases e⟩
  · rcases h.res e4 with ⟨h1, h2, h3, h4, c, S, h5, h6, h7, h8, _⟩ | hz
    · exact .inl ⟨h1, h2, h3, h4, c, S, h5, h6, h7.turns (kturns k (fun _ => False)) (fun _ _ h => h), fun b hb => Nat.lt_of_lt_of_le (h8 b hb) k.size, fun _ hS => by have := h8 _ hS; omega⟩
    · exact .inr hz
theorem OpenReg.stored {x0 x1 x2 x3 : Value} (h : OpenReg W0 B cond v err p o4 true false w) (hv : v = .agg #[x0, x1, x2, x3]) :
    OpenReg W0 B cond v err p o4 true true ((((w.setCell ⟨p, 0, none⟩ x0).setCell ⟨p, 1, none⟩ x1).setCell ⟨p, 2, none⟩ x2).setCell ⟨p, 3, none⟩ x3) := by
  obtain ⟨hb, ⟨f0, f1, f2, f3, a0, a1, a2, a3⟩, hf⟩ := h.box rfl
  have hT : Turns (fun b => b = p) w ((((w.setCell ⟨p, 0, none⟩ x0).setCell ⟨p, 1, none⟩ x1).setCell ⟨p, 2, none⟩ x2).setCell ⟨p, 3, none⟩ x3) := Turns.setCell (T := fun b => b = p) (Turns.setCell (T := fun b => b = p) (Turns.setCell (T := fun b => b = p) (Turns.setCell (T := fun b => b = p) (Turns.refl _ _) rfl _ _) rfl _ _) rfl _ _) rfl _ _
  have c0 : ((((w.setCell ⟨p, 0, none⟩ x0).setCell ⟨p, 1, none⟩ x1).setCell ⟨p, 2, none⟩ x2).setCell ⟨p, 3, none⟩ x3).cell? ⟨p, 0, none⟩ = some x0 := by
    rw [cell_set_ne (by omega), cell_set_ne (by omega), cell_set_ne (by omega), cell_set_eq a0]
  have c1 : ((((w.setCell ⟨p, 0, none⟩ x0).setCell ⟨p, 1, none⟩ x1).setCell ⟨p, 2, none⟩ x2).setCell ⟨p, 3, none⟩ x3).cell? ⟨p, 1, none⟩ = some x1 := by
    rw [cell_set_ne (by omega), cell_set_ne (by omega)]; exact cell_set_eq ((cell_set_ne (by omega)).trans a1)
  have c2 : ((((w.setCell ⟨p, 0, none⟩ x0).setCell ⟨p, 1, none⟩ x1).setCell ⟨p, 2, none⟩ x2).setCell ⟨p, 3, none⟩ x3).cell? ⟨p, 2, none⟩ = some x2 := by
    rw [cell_set_ne (by omega)]; exact cell_set_eq ((cell_set_ne (by omega)).trans ((cell_set_ne (by omega)).trans a2))
  have c3 : ((((w.setCell ⟨p, 0, none⟩ x0).setCell ⟨p, 1, none⟩ x1).setCell ⟨p, 2, none⟩ x2).setCell ⟨p, 3, none⟩ x3).cell? ⟨p, 3, none⟩ = some x3 :=
    cell_set_eq ((cell_set_ne (by omega)).trans ((cell_set_ne (by omega)).trans ((cell_set_ne (by omega)).trans a3)))
  refine ⟨Below.trans h.kept (hT.toBelow (n := W0.heap.size) (by rintro b rfl; exact hb) h.kept.size), fun _ => ⟨hb, ⟨_, _, _, _, c0, c1, c2, c3⟩, fun i => ?_⟩, fun e4 => ?_, fun _ => ⟨rfl, _, _, _, _, hv, c0, c1, c2, c3⟩⟩
  · rw [World.frozen?_setCell, World.frozen?_setCell, World.frozen?_setCell, World.frozen?_setCell]; exact hf i
  · rcases h.res e4 with ⟨h1, h2, h3, h4, c, S, h5, h6, h7, h8, h9⟩ | hz
    · exact .inl ⟨h1, h2, h3, h4, c, S, h5, h6, h7.turns hT (fun b hb e => h9 rfl (e ▸ hb)), fun b hb => Nat.lt_of_lt_of_le (h8 b hb) hT.size, fun _ => h9 rfl⟩
    · exact .inr hz
theorem OpenReg.start (W0 : World) (B : Book) (cond : Bool) : OpenReg W0 B cond undef 0 0 false false false W0.drew :=
  ⟨kept_drew (kept_refl _), (fun e => nomatch e), (fun e => nomatch e), (fun e => nomatch e)⟩
end
def openVs (O : Nat) (pre : Nat → Value) (v : Value) (err : Int) (p : Nat) (j : Nat) : Value :=
  if j < O then pre j else match j - O with
  | 0 => .tuple #[v, .int .i64 err]
  | 1 => .tuple #[v, .int .i64 err]
  | 2 => v
  | 3 => .int .i64 err
  | 4 => .pointer (some ⟨p, 0, none⟩)
  | 6 => .int .i64 err
  | _ => undef
def StO (O : Nat) (pre : Nat → Value) (W0 : World) (B : Book) (cond : Bool) (l : List Oper) (a0 : Act) (listed : Array Bool) (a : Act) (w : World) : Prop :=
  ∃ v err p, AtSt l.toArray (openVs O pre v err p) a0 listed a ∧ OpenReg W0 B cond v err p (on listed O) (on listed (O + 4)) (on listed (O + 5)) w
section
variable {l : List Oper} {a0 a : Act} {O : Nat} {pre : Nat → Value} {W0 w w' : World} {B : Book} {cond : Bool} {listed : Array Bool} {v : Value} {err : Int} {p i : Nat} {o : Oper}
theorem dist_arr (hd : distFrom l = true) : ∀ (j k : Nat) (x y : Oper) (d : Tmp), l.toArray[j]? = some x → l.toArray[k]? = some y → x.dst = some d → y.dst = some d → j = k :=
  fun j k x y d hj hk hx hy => distFrom_get l hd j k x y d (by simpa using hj) (by simpa using hk) hx hy
theorem StO.start : StO O pre W0 B cond l a0 (Array.replicate l.length false) a0 W0.drew := by
  have no : ∀ j, on (Array.replicate l.length false) j = false := fun j => by
    unfold on
    simp only [Array.getD_eq_getD_getElem?, Array.getElem?_replicate]
    split <;> simp
  refine ⟨undef, 0, 0, ⟨rfl, rfl, fun j o d hj => ?_, fun t _ => rfl⟩, by rw [no, no, no]; exact OpenReg.start W0 B cond⟩
  have := no j
  unfold on at this
  rw [this] at hj; cases hj
theorem StO.same (hd : distFrom l = true) (ha : AtSt l.toArray (openVs O pre v err p) a0 listed a) (hw : OpenReg W0 B cond v err p (on listed O) (on listed (O + 4)) (on listed (O + 5)) w) (ho : l[i]? = some o) (h1 : listed.getD i true = false)
    (i4 : i ≠ O) (i8 : i ≠ O + 4) (i9 : i ≠ O + 5) (k : Kept w w') : StO O pre W0 B cond l a0 (listed.setIfInBounds i true) (a.put o.dst (openVs O pre v err p i)) w' :=
  ⟨v, err, p, ha.put (by simpa using ho) h1 (dist_arr hd), by rw [on_set (Ne.symm i4), on_set (Ne.symm i8), on_set (Ne.symm i9)]; exact hw.go k⟩
theorem StO.opened (hd : distFrom l = true) (ha : AtSt l.toArray (openVs O pre v err p) a0 listed a) (hl : listed.size = l.length) (ho : l[O]? = some o) (h1 : listed.getD O true = false)
    (h5 : on listed (O + 1) = false) (h6 : on listed (O + 2) = false) (h7 : on listed (O + 3) = false) (h9 : on listed (O + 5) = false) (h10 : on listed (O + 6) = false) {v' : Value} {err' : Int} (hw' : OpenReg W0 B cond v' err' p true (on listed (O + 4)) (on listed (O + 5)) w') :
    StO O pre W0 B cond l a0 (listed.setIfInBounds O true) (a.put o.dst (.tuple #[v', .int .i64 err'])) w' := by
  have hs : ∀ j, listed.getD j false = true → openVs O pre v err p j = openVs O pre v' err' p j := fun j hj => by
    have h4 := on_no h1
    unfold on at h4 h5 h6 h7 h9 h10
    unfold openVs
    by_cases hjo : j < O
    · rw [if_pos hjo, if_pos hjo]
    · rw [if_neg hjo, if_neg hjo]
      obtain ⟨k, rfl⟩ : ∃ k, j = O + k := ⟨j - O, by omega⟩
      rw [Nat.add_sub_cancel_left]
      match k with
      | 0 => rw [Nat.add_zero, h4] at hj; cases hj
      | 1 => rw [h5] at hj; cases hj
      | 2 => rw [h6] at hj; cases hj
      | 3 => rw [h7] at hj; cases hj
      | 4 => rfl
      | 5 => rfl
      | 6 => rw [h10] at hj; cases hj
      | n + 7 => rfl
  have hz : O < listed.size := by rw [hl]; exact (List.getElem?_eq_some_iff.1 ho).1
  have hv : openVs O pre v' err' p O = .tuple #[v', .int .i64 err'] := by simp [openVs]
  have := (ha.swap hs).put (i := O) (by simpa using ho) h1 (dist_arr hd)
  rw [hv] at this
  exact ⟨v', err', p, this, by rw [on_self hz, on_set (by omega), on_set (by omega)]; exact hw'⟩
theorem StO.boxed (hd : distFrom l = true) (ha : AtSt l.toArray (openVs O pre v err p) a0 listed a) (hw : OpenReg W0 B cond v err p (on listed O) (on listed (O + 4)) (on listed (O + 5)) w) (hl : listed.size = l.length) (ho : l[O + 4]? = some o) (h1 : listed.getD (O + 4) true = false) (h9 : on listed (O + 5) = false) :
    StO O pre W0 B cond l a0 (listed.setIfInBounds (O + 4) true) (a.put o.dst (.pointer (some ⟨w.heap.size, 0, none⟩))) (w.alloc (Obj.cells #[.slice none 0 0, .int .i64 0, .slice none 0 0, .map none] 92)) := by
  have hs : ∀ j, listed.getD j false = true → openVs O pre v err p j = openVs O pre v err w.heap.size j := fun j hj => by
    have h8 := on_no h1
    unfold on at h8
    by_cases e : j = O + 4
    · subst e; rw [h8] at hj; cases hj
    · unfold openVs
      by_cases hjo : j < O
      · rw [if_pos hjo, if_pos hjo]
      · rw [if_neg hjo, if_neg hjo]
        split <;> first | rfl | (exfalso; omega)
  have hz : O + 4 < listed.size := by rw [hl]; exact (List.getElem?_eq_some_iff.1 ho).1
  have h8 := on_no h1
  rw [h8] at hw
  have hv : openVs O pre v err w.heap.size (O + 4) = .pointer (some ⟨w.heap.size, 0, none⟩) := by
    unfold openVs
    rw [if_neg (by omega), Nat.add_sub_cancel_left]
    rfl
  have := (ha.swap hs).put (i := O + 4) (by simpa using ho) h1 (dist_arr hd)
  rw [hv] at this
  exact ⟨v, err, w.heap.size, this, by rw [on_self hz, on_set (by omega), on_set (by omega)]; exact hw.boxed h9⟩
theorem StO.stored (hd : distFrom l = true) (ha : AtSt l.toArray (openVs O pre v err p) a0 listed a) (hw : OpenReg W0 B cond v err p (on listed O) (on listed (O + 4)) (on listed (O + 5)) w) (hl : listed.size = l.length) (ho : l[O + 5]? = some o) (hno : o.dst = none) (h1 : listed.getD (O + 5) true = false) (h8 : on listed (O + 4) = true)
    {x0 x1 x2 x3 : Value} (hv : v = .agg #[x0, x1, x2, x3]) :
    StO O pre W0 B cond l a0 (listed.setIfInBounds (O + 5) true) a ((((w.setCell ⟨p, 0, none⟩ x0).setCell ⟨p, 1, none⟩ x1).setCell ⟨p, 2, none⟩ x2).setCell ⟨p, 3, none⟩ x3) := by
  have hz : O + 5 < listed.size := by rw [hl]; exact (List.getElem?_eq_some_iff.1 ho).1
  have h9 := on_no h1
  rw [h8, h9] at hw
  have := ha.put (i := O + 5) (by simpa using ho) h1 (dist_arr hd)
  rw [hno] at this
  exact ⟨v, err, p, this, by rw [on_self hz, on_set (by omega), on_set (by omega), h8]; exact hw.stored hv⟩
/-- Nothing behind the opening is over where it is not. -/
theorem open_first (hcl : Closed l listed) (h1 : listed.getD O true = false)
    (e1 : ∃ x, l[O + 1]? = some x ∧ ∃ e ∈ x.after, Region.binds .any e = true ∧ e.on = O) (e2 : ∃ x, l[O + 2]? = some x ∧ ∃ e ∈ x.after, Region.binds .any e = true ∧ e.on = O + 1) (e3 : ∃ x, l[O + 3]? = some x ∧ ∃ e ∈ x.after, Region.binds .any e = true ∧ e.on = O + 1)
    (e5 : ∃ x, l[O + 5]? = some x ∧ ∃ e ∈ x.after, Region.binds .any e = true ∧ e.on = O + 2) (e6 : ∃ x, l[O + 6]? = some x ∧ ∃ e ∈ x.after, Region.binds .any e = true ∧ e.on = O + 3) :
    on listed (O + 1) = false ∧ on listed (O + 2) = false ∧ on listed (O + 3) = false ∧ on listed (O + 5) = false ∧ on listed (O + 6) = false := by
  have step : ∀ {j k : Nat}, (∃ x, l[j]? = some x ∧ ∃ e ∈ x.after, Region.binds .any e = true ∧ e.on = k) → on listed k = false → on listed j = false := by
    rintro j k ⟨x, hx, e, he, hb, rfl⟩ hk
    cases h : on listed j with
    | false => rfl
    | true => rw [hcl j x hx h e he hb] at hk; cases hk
  have n0 := on_no h1
  have n1 := step e1 n0
  have n2 := step e2 n1
  have n3 := step e3 n1
  exact ⟨n1, n2, n3, step e5 n2, step e6 n3⟩
end
end Go.Proofs.YthgfbokfaidklaaGreatDoor
set_option linter.all false
namespace Go.Proofs.YthgfbokfaidklaaGreatDoor
open Go.RowKit Go.Sort Go.Rg
set_option maxRecDepth 100000

end Go.Proofs.YthgfbokfaidklaaGreatDoor
set_option linter.all false
namespace Go.Proofs.YthgfbokfaidklaaGreatDoor
open Go.RowKit Go.Sort Go.Rg
set_option maxRecDepth 100000
attribute [local go_sem] Oper.semAt_some

end Go.Proofs.YthgfbokfaidklaaGreatDoor
set_option linter.all false
namespace Go.Proofs.YthgfbokfaidklaaGreatDoor
open Go.RowKit Go.Sort Go.Rg
set_option maxRecDepth 100000

end Go.Proofs.YthgfbokfaidklaaGreatDoor
set_option linter.all false
namespace Go.Proofs.YthgfbokfaidklaaGreatDoor
open Go.RowKit Go.Sort Go.Rg
set_option maxRecDepth 100000

theorem getD_bool {x : Option Value} {b : Bool} (h : x.getD undef = .bool b) : x = some (.bool b) := by
  cases x with
  | none => exact absurd h (by simp [undef])
  | some v => exact congrArg some h

end Go.Proofs.YthgfbokfaidklaaGreatDoor
set_option linter.all false
namespace Go.Proofs.YthgfbokfaidklaaGreatDoor
open Go.RowKit Go.Sort Go.Rg
set_option maxRecDepth 100000

end Go.Proofs.YthgfbokfaidklaaGreatDoor
set_option linter.all false
namespace Go.Proofs.YthgfbokfaidklaaGreatDoor
open Go.RowKit Go.Sort Go.Rg
set_option maxRecDepth 100000

theorem lies_any (n l h : Int) (w : World) : Calls Tryz.prog 16 #[.int .i64 n, .int .i64 l, .int .i64 h] w fun e w' => e = .returned (.bool (inB n l h)) ∧ w = w' := by
  by_cases h1 : l ≤ n
  · have h2 : decide (l ≤ n) = true := by simpa using h1
    have H : inB n l h = decide (n ≤ h) := by simp [inB, h1]
    rw [H]; clear H h1
    go_enter Tryz.func16, Tryz.ntmps16
    go_wp2
    go_ret
    exact ⟨rfl, rfl⟩
  · have h2 : decide (l ≤ n) = false := by simpa using h1
    have H : inB n l h = false := by simp [inB, h1]
    rw [H]; clear H h1
    go_enter Tryz.func16, Tryz.ntmps16
    go_wp2
    go_ret
    exact ⟨rfl, rfl⟩
theorem tmod_small (n : Int) (b : Int) (hb : 1 ≤ b) : -b < Int.tmod n b ∧ Int.tmod n b < b := by
  have h1 := Int.tmod_lt_of_pos n (show 0 < b by omega)
  have h2 := Int.tmod_lt_of_pos (-n) (show 0 < b by omega)
  rw [Int.neg_tmod] at h2
  omega
/-- a list of small numbers that can be read -/
def ListAt (w : World) (v : Value) (l : List Nat) : Prop :=
  (v = .slice none 0 0 ∧ l = []) ∨ ∃ b cap, v = .slice (some ⟨b, 0, none⟩) l.length cap ∧ b < w.heap.size ∧ ∀ i x, l[i]? = some x → w.cell? ⟨b, i, none⟩ = some (.int .i64 ((x : Nat) : Int))
theorem ListAt.kept {w w' : World} {v : Value} {l : List Nat} (h : ListAt w v l) (k : Kept w w') : ListAt w' v l :=
  h.imp id fun ⟨b, cap, e, hb, hc⟩ => ⟨b, cap, e, Nat.lt_of_lt_of_le hb k.size, fun i x hx => kcell k (hc i x hx)⟩
end Go.Proofs.YthgfbokfaidklaaGreatDoor
