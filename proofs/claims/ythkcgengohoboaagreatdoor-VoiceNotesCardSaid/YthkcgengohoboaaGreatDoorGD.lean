/- Regions that draw their order, in any frame: where each operation's value and the world are known for each set of operations that are over. No conditions. -/
import Derived.Test.YthkcgengohoboaaGreatDoorGC
set_option linter.all false
set_option linter.all false
namespace Go.Rg
open Go Go.Sort Go.RowKit

section
variable {F : Fence} {n : Nat} {P : Program} {md : Region.Mode}

/-- The temporaries behind the operations that are over. -/
structure AtSt (ops : Array Oper) (vs : Nat → Value) (a0 : Act) (listed : Array Bool) (a : Act) : Prop where
  defers : a.defers = a0.defers
  size : a.tmps.size = a0.tmps.size
  done : ∀ (j : Nat) (o : Oper) (d : Tmp), listed.getD j false = true → ops[j]? = some o → o.dst = some d → a.tmps.getD d undef = if d < a0.tmps.size then vs j else undef
  other : ∀ t, (∀ (j : Nat) (o : Oper), listed.getD j false = true → ops[j]? = some o → o.dst ≠ some t) → a.tmps.getD t undef = a0.tmps.getD t undef

theorem AtSt.put {ops : Array Oper} {vs : Nat → Value} {a0 a : Act} {listed : Array Bool} {i : Nat} {o : Oper} (h : AtSt ops vs a0 listed a) (ho : ops[i]? = some o) (hi : listed.getD i true = false) (hdist : ∀ (j k : Nat) (x y : Oper) (d : Tmp), ops[j]? = some x → ops[k]? = some y → x.dst = some d → y.dst = some d → j = k) :
    AtSt ops vs a0 (listed.setIfInBounds i true) (a.put o.dst (vs i)) := by
  have hil : i < listed.size := by
    rcases Nat.lt_or_ge i listed.size with h | h
    · exact h
    · simp [Array.getD_eq_getD_getElem?, Array.getElem?_eq_none h] at hi
  have lst : ∀ j, (listed.setIfInBounds i true).getD j false = true ↔ j = i ∨ listed.getD j false = true := fun j => by
    by_cases e : j = i
    · subst e; simp [Array.getD_eq_getD_getElem?, hil]
    · simp [Array.getD_eq_getD_getElem?, Array.getElem?_setIfInBounds_ne (Ne.symm e), e]
  have hput : (a.put o.dst (vs i)).defers = a.defers ∧ (a.put o.dst (vs i)).tmps.size = a.tmps.size ∧ ∀ t, (a.put o.dst (vs i)).tmps.getD t undef = if o.dst = some t ∧ t < a.tmps.size then vs i else a.tmps.getD t undef := by
    cases hd : o.dst with
    | none => exact ⟨rfl, rfl, fun t => by simp [Act.put]⟩
    | some d =>
      refine ⟨rfl, by simp [Act.put], fun t => ?_⟩
      by_cases e : d = t
      · subst e
        by_cases hz : d < a.tmps.size
        · simp [Act.put, Array.getD_eq_getD_getElem?, hz]
        · simp [Act.put, Array.getD_eq_getD_getElem?, hz]
      · simp [Act.put, Array.getD_eq_getD_getElem?, Array.getElem?_setIfInBounds_ne e, e]
  obtain ⟨p1, p2, p3⟩ := hput
  refine ⟨p1.trans h.defers, p2.trans h.size, fun j x d hj hx hd => ?_, fun t ht => ?_⟩
  · rw [p3]
    by_cases e : j = i
    · subst e
      rw [ho] at hx; cases hx
      rw [← h.size]
      by_cases hz : d < a.tmps.size
      · simp [hd, hz]
      · simp [hd, hz, Array.getD_eq_getD_getElem?]
    · have : ¬ (o.dst = some d ∧ d < a.tmps.size) := fun h1 => e (hdist j i x o d hx ho hd h1.1)
      rw [if_neg this]
      exact h.done j x d (((lst j).1 hj).resolve_left e) hx hd
  · rw [p3, if_neg (fun h1 => ht i o ((lst i).2 (.inl rfl)) ho h1.1)]
    exact h.other t fun j x hj hx => ht j x ((lst j).2 (.inr hj)) hx

theorem wpAnyIn_states {ops : Array Oper} {vs : Nat → Value} {a0 : Act} {CW : Array Bool → World → Prop} {Q : Exit → Act → World → Prop} (hdist : ∀ (j k : Nat) (x y : Oper) (d : Tmp), ops[j]? = some x → ops[k]? = some y → x.dst = some d → y.dst = some d → j = k)
    (hgd : ∀ (i : Nat) (o : Oper), ops[i]? = some o → o.guard = none) (hlow : ∀ (i : Nat) (x : Oper), ops[i]? = some x → ∀ e ∈ x.after, Region.binds md e = true → e.on < i)
    (hop : ∀ (i : Nat) (o : Oper) (listed : Array Bool) (a : Act) (w : World), listed.size = ops.size → ops[i]? = some o → listed.getD i true = false → (∀ e ∈ o.after, Region.binds md e = true → listed.getD e.on false = true) → AtSt ops vs a0 listed a → CW listed w →
      o.wpIn F n P a w (fun a' w' => a' = a.put o.dst (vs i) ∧ CW (listed.setIfInBounds i true) w') Q)
    (hend : ∀ (listed : Array Bool) (a : Act) (w : World), (∀ i, i < ops.size → listed.getD i false = true) → AtSt ops vs a0 listed a → CW listed w → Q .normal a w) :
    ∀ (fuel : Nat) (listed : Array Bool) (a : Act) (w : World), listed.size = ops.size → (listed.toList.countP (· == false)) ≤ fuel → AtSt ops vs a0 listed a → CW listed w → wpAnyIn F n P md ops Q fuel listed a w := by
  have full : ∀ listed : Array Bool, listed.size = ops.size → Region.ready md ops listed = [] → ∀ i, i < ops.size → listed.getD i false = true := by
    intro listed hl hr i
    induction i using Nat.strongRecOn with
    | _ i ih =>
      intro hi
      cases hb : listed.getD i true with
      | true =>
        have : i < listed.size := by omega
        simpa [Array.getD_eq_getD_getElem?, this] using hb
      | false =>
        have : i ∈ Region.ready md ops listed := mem_ready.2 ⟨hb, ops[i], by simp [hi], fun e he hbb => by
          have := hlow i ops[i] (by simp [hi]) e he hbb
          exact ih e.on this (by omega)⟩
        rw [hr] at this; cases this
  intro fuel
  induction fuel with
  | zero =>
    intro listed a w hl hc ha hw
    have hall : ∀ i, i < ops.size → listed.getD i false = true := fun i hi => by
      have hc0 : listed.toList.countP (· == false) = 0 := by omega
      rw [List.countP_eq_zero] at hc0
      have hil : i < listed.size := by omega
      have := hc0 listed[i] (by simp)
      simpa [Array.getD_eq_getD_getElem?, hil] using this
    refine ⟨?_, hend listed a w hall ha hw⟩
    rw [List.eq_nil_iff_forall_not_mem]
    intro j hj
    obtain ⟨h1, x, hx, _⟩ := mem_ready.1 hj
    have hjz := (Array.getElem?_eq_some_iff.1 hx).1
    have h2 := hall j hjz
    have : j < listed.size := by omega
    simp [Array.getD_eq_getD_getElem?, this] at h1 h2
    rw [h1] at h2; cases h2
  | succ fuel ih =>
    intro listed a w hl hc ha hw
    refine ⟨fun h0 => hend listed a w (full listed hl h0) ha hw, fun i hi => ?_⟩
    obtain ⟨h1, o, ho, h2⟩ := mem_ready.1 hi
    unfold wpOpIn
    simp only [ho]
    have hwt : Region.wanted o (yielded ops a.tmps) = true := by simp [Region.wanted, hgd i o ho]
    rw [if_pos hwt]
    refine Oper.wpIn_mono (fun a' w' hq => ?_) (hop i o listed a w hl ho h1 h2 ha hw)
    obtain ⟨rfl, hcw⟩ := hq
    have hil : i < listed.size := by
      rcases Nat.lt_or_ge i listed.size with h | h
      · exact h
      · simp [Array.getD_eq_getD_getElem?, Array.getElem?_eq_none h] at h1
    refine ih _ _ _ (by simpa using hl) ?_ (ha.put ho h1 hdist) hcw
    have hlf : listed.toList[i]? = some false := by
      have : listed[i] = false := by simpa [Array.getD_eq_getD_getElem?, hil] using h1
      simp [hil, this]
    have key : ∀ (l : List Bool) (i : Nat), l[i]? = some false → (l.set i true).countP (· == false) + 1 = l.countP (· == false) := by
      intro l
      induction l with
      | nil => intro i h; simp at h
      | cons b l ihl =>
        intro i h
        cases i with
        | zero =>
          simp only [List.getElem?_cons_zero, Option.some.injEq] at h
          subst h; simp
        | succ i =>
          have := ihl i (by simpa using h)
          simp only [List.set_cons_succ, List.countP_cons]
          omega
    have := key listed.toList i hlf
    rw [Array.toList_setIfInBounds]
    omega
theorem countP_set : ∀ (l : List Bool) (i : Nat), l[i]? = some false → (l.set i true).countP (· == false) + 1 = l.countP (· == false) := by
  intro l
  induction l with
  | nil => intro i h; simp at h
  | cons b l ihl =>
    intro i h
    cases i with
    | zero =>
      simp only [List.getElem?_cons_zero, Option.some.injEq] at h
      subst h; simp
    | succ i =>
      have := ihl i (by simpa using h)
      simp only [List.set_cons_succ, List.countP_cons]
      omega
theorem wpAnyIn_inv {ops : Array Oper} {St : Array Bool → Act → World → Prop} {Q : Exit → Act → World → Prop} (hlow : ∀ (i : Nat) (x : Oper), ops[i]? = some x → ∀ e ∈ x.after, Region.binds md e = true → e.on < i)
    (hop : ∀ (i : Nat) (o : Oper) (listed : Array Bool) (a : Act) (w : World), listed.size = ops.size → ops[i]? = some o → listed.getD i true = false → (∀ e ∈ o.after, Region.binds md e = true → listed.getD e.on false = true) → St listed a w →
      if Region.wanted o (yielded ops a.tmps) then o.wpIn F n P a w (fun a' w' => St (listed.setIfInBounds i true) a' w') Q else (∀ f, o.about P w a.eval = some f → F.fn f) ∧ St (listed.setIfInBounds i true) (a.put o.dst undef) w)
    (hend : ∀ (listed : Array Bool) (a : Act) (w : World), (∀ i, i < ops.size → listed.getD i false = true) → St listed a w → Q .normal a w) :
    ∀ (fuel : Nat) (listed : Array Bool) (a : Act) (w : World), listed.size = ops.size → (listed.toList.countP (· == false)) ≤ fuel → St listed a w → wpAnyIn F n P md ops Q fuel listed a w := by
  have full : ∀ listed : Array Bool, listed.size = ops.size → Region.ready md ops listed = [] → ∀ i, i < ops.size → listed.getD i false = true := by
    intro listed hl hr i
    induction i using Nat.strongRecOn with
    | _ i ih =>
      intro hi
      cases hb : listed.getD i true with
      | true =>
        have : i < listed.size := by omega
        simpa [Array.getD_eq_getD_getElem?, this] using hb
      | false =>
        have : i ∈ Region.ready md ops listed := mem_ready.2 ⟨hb, ops[i], by simp [hi], fun e he hbb => by
          have := hlow i ops[i] (by simp [hi]) e he hbb
          exact ih e.on this (by omega)⟩
        rw [hr] at this; cases this
  intro fuel
  induction fuel with
  | zero =>
    intro listed a w hl hc hw
    have hall : ∀ i, i < ops.size → listed.getD i false = true := fun i hi => by
      have hc0 : listed.toList.countP (· == false) = 0 := by omega
      rw [List.countP_eq_zero] at hc0
      have hil : i < listed.size := by omega
      have := hc0 listed[i] (by simp)
      simpa [Array.getD_eq_getD_getElem?, hil] using this
    refine ⟨?_, hend listed a w hall hw⟩
    rw [List.eq_nil_iff_forall_not_mem]
    intro j hj
    obtain ⟨h1, x, hx, _⟩ := mem_ready.1 hj
    have hjz := (Array.getElem?_eq_some_iff.1 hx).1
    have h2 := hall j hjz
    have : j < listed.size := by omega
    simp [Array.getD_eq_getD_getElem?, this] at h1 h2
    rw [h1] at h2; cases h2
  | succ fuel ih =>
    intro listed a w hl hc hw
    refine ⟨fun h0 => hend listed a w (full listed hl h0) hw, fun i hi => ?_⟩
    obtain ⟨h1, o, ho, h2⟩ := mem_ready.1 hi
    unfold wpOpIn
    simp only [ho]
    have hil : i < listed.size := by
      rcases Nat.lt_or_ge i listed.size with h | h
      · exact h
      · simp [Array.getD_eq_getD_getElem?, Array.getElem?_eq_none h] at h1
    have hlf : listed.toList[i]? = some false := by
      have : listed[i] = false := by simpa [Array.getD_eq_getD_getElem?, hil] using h1
      simp [hil, this]
    have hcnt : (listed.setIfInBounds i true).toList.countP (· == false) ≤ fuel := by
      have := countP_set listed.toList i hlf
      rw [Array.toList_setIfInBounds]
      omega
    have hh := hop i o listed a w hl ho h1 h2 hw
    split
    · rename_i hwt
      rw [if_pos hwt] at hh
      exact Oper.wpIn_mono (fun a' w' hq => ih _ _ _ (by simpa using hl) hcnt hq) hh
    · rename_i hwt
      rw [if_neg hwt] at hh
      exact ⟨hh.1, ih _ _ _ (by simpa using hl) hcnt hh.2⟩
end

def distFrom : List Oper → Bool
  | [] => true
  | o :: l => (match o.dst with | none => true | some d => l.all fun p => match p.dst with | none => true | some e => !Nat.beq d e) && distFrom l
theorem distFrom_get : ∀ (l : List Oper), distFrom l = true → ∀ (j k : Nat) (x y : Oper) (d : Tmp), l[j]? = some x → l[k]? = some y → x.dst = some d → y.dst = some d → j = k
  | [], _, j, k, x, y, d, hj, _, _, _ => by simp at hj
  | o :: l, h, j, k, x, y, d, hj, hk, hx, hy => by
    simp only [distFrom, Bool.and_eq_true] at h
    have no : ∀ {i : Nat} {z : Oper}, o.dst = some d → l[i]? = some z → z.dst = some d → False := fun {i z} ho hz hzd => by
      rw [ho] at h
      have := List.all_eq_true.1 h.1 z (List.mem_of_getElem? hz)
      rw [hzd] at this
      simp at this
    match j, k, hj, hk with
    | 0, 0, _, _ => rfl
    | 0, k + 1, hj, hk =>
      simp only [List.getElem?_cons_zero, Option.some.injEq] at hj
      subst hj
      exact (no hx (by simpa using hk) hy).elim
    | j + 1, 0, hj, hk =>
      simp only [List.getElem?_cons_zero, Option.some.injEq] at hk
      subst hk
      exact (no hy (by simpa using hj) hx).elim
    | j + 1, k + 1, hj, hk =>
      have := distFrom_get l h.2 j k x y d (by simpa using hj) (by simpa using hk) hx hy
      omega
theorem AtSt.old {l : List Oper} {vs : Nat → Value} {a0 a : Act} {listed : Array Bool} (h : AtSt l.toArray vs a0 listed a) (t : Tmp) (ht : l.all (fun o => match o.dst with | some d => !Nat.beq d t | none => true) = true) : a.tmps.getD t undef = a0.tmps.getD t undef :=
  h.other t fun j o _ ho hd => by
    have := List.all_eq_true.1 ht o (List.mem_of_getElem? (by simpa using ho))
    rw [hd] at this
    simp at this
theorem AtSt.new {l : List Oper} {vs : Nat → Value} {a0 a : Act} {listed : Array Bool} (h : AtSt l.toArray vs a0 listed a) (j : Nat) (hj : listed.getD j false = true) {o : Oper} {d : Tmp} (ho : l[j]? = some o) (hd : o.dst = some d) (hz : d < a0.tmps.size) : a.tmps.getD d undef = vs j := by
  have := h.done j o d hj (by simpa using ho) hd
  rwa [if_pos hz] at this
/-- is operation i over? -/
def on (listed : Array Bool) (i : Nat) : Bool := listed.getD i false
theorem on_set {listed : Array Bool} {i j : Nat} (h : j ≠ i) : on (listed.setIfInBounds i true) j = on listed j := by
  unfold on; simp [Array.getD_eq_getD_getElem?, Array.getElem?_setIfInBounds_ne (Ne.symm h)]
theorem on_self {listed : Array Bool} {i : Nat} (h : i < listed.size) : on (listed.setIfInBounds i true) i = true := by
  unfold on; simp [Array.getD_eq_getD_getElem?, h]
theorem on_no {listed : Array Bool} {i : Nat} (h : listed.getD i true = false) : on listed i = false := by
  unfold on
  simp only [Array.getD_eq_getD_getElem?] at *
  cases hx : listed[i]? with
  | none => rw [hx] at h; cases h
  | some b => rw [hx] at h; simpa using h
def statesOk (l : List Oper) : Bool := distFrom l && l.all (fun o => o.guard.isNone) && lowFrom 0 l

/-- **A region that draws its order, by its states.** -/
theorem wpIn_region_states {F : Fence} {n : Nat} {P : Program} {id : Nat} {Q : Exit → Act → World → Prop} {a0 : Act} {w : World} {l : List Oper} (vs : Nat → Value) (CW : Array Bool → World → Prop) (hm : P.follows .mixedOrders = true) (hok : statesOk l = true)
    (h0 : CW (Array.replicate l.length false) { w with drawn := w.drawn + 1 })
    (hop : ∀ (i : Nat) (o : Oper) (listed : Array Bool) (a : Act) (w : World), listed.size = l.length → l[i]? = some o → listed.getD i true = false → (∀ e ∈ o.after, Region.binds .any e = true → listed.getD e.on false = true) → AtSt l.toArray vs a0 listed a → CW listed w →
      o.wpIn F n P a w (fun a' w' => a' = a.put o.dst (vs i) ∧ CW (listed.setIfInBounds i true) w') Q)
    (hend : ∀ (listed : Array Bool) (a : Act) (w : World), (∀ i, i < l.length → listed.getD i false = true) → AtSt l.toArray vs a0 listed a → CW listed w → Q .normal a w) : (Code.region id l.toArray true).wpIn F n P Q a0 w := by
  simp only [statesOk, Bool.and_eq_true, List.all_eq_true] at hok
  obtain ⟨⟨hd, hg⟩, hlow⟩ := hok
  refine wpIn_region_any hm ?_
  refine wpAnyIn_states (ops := l.toArray) (vs := vs) (a0 := a0) (CW := CW) (fun j k x y d hj hk hx hy => distFrom_get l hd j k x y d (by simpa using hj) (by simpa using hk) hx hy) (fun i o ho => by simpa using hg o (List.mem_of_getElem? (by simpa using ho)))
    (fun i x hx e he hb => by have := lowFrom_get 0 l hlow i x (by simpa using hx) e he hb; omega)
    (fun i o listed a w hl ho h1 h2 ha hw => hop i o listed a w (by simpa using hl) (by simpa using ho) h1 h2 ha hw) (fun listed a w hall ha hw => hend listed a w (by simpa using hall) ha hw) _ _ _ _ (by simp) ?_ ⟨rfl, rfl, fun j o d hj => ?_, fun t _ => rfl⟩ (by simpa using h0)
  · simp [List.countP_replicate]
  · simp only [Array.getD_eq_getD_getElem?, Array.getElem?_replicate] at hj
    split at hj <;> simp at hj
theorem AtSt.swap {l : Array Oper} {vs vs' : Nat → Value} {a0 a : Act} {listed : Array Bool} (h : AtSt l vs a0 listed a) (hs : ∀ j, listed.getD j false = true → vs j = vs' j) : AtSt l vs' a0 listed a :=
  ⟨h.defers, h.size, fun j o d hj ho hd => by rw [← hs j hj]; exact h.done j o d hj ho hd, h.other⟩
/-- Where an operation is over all are that it waits for. -/
def Closed (l : List Oper) (listed : Array Bool) : Prop := ∀ (j : Nat) (o : Oper), l[j]? = some o → on listed j = true → ∀ e ∈ o.after, Region.binds .any e = true → on listed e.on = true
theorem on_set_mono {listed : Array Bool} {i j : Nat} (h : on listed j = true) : on (listed.setIfInBounds i true) j = true := by
  by_cases e : j = i
  · subst e
    refine on_self ?_
    unfold on at h
    rcases Nat.lt_or_ge j listed.size with h1 | h1
    · exact h1
    · simp [Array.getD_eq_getD_getElem?, Array.getElem?_eq_none h1] at h
  · rw [on_set e]; exact h
theorem Closed.set {l : List Oper} {listed : Array Bool} {i : Nat} {o : Oper} (h : Closed l listed) (ho : l[i]? = some o) (h2 : ∀ e ∈ o.after, Region.binds .any e = true → listed.getD e.on false = true) : Closed l (listed.setIfInBounds i true) := fun j x hx hj e he hb => by
  by_cases e1 : j = i
  · subst e1
    rw [ho] at hx; cases hx
    exact on_set_mono (h2 e he hb)
  · rw [on_set e1] at hj
    exact on_set_mono (h j x hx hj e he hb)
/-- **A region that draws its order, by an invariant of its states.** -/
theorem wpIn_region_inv {F : Fence} {n : Nat} {P : Program} {id : Nat} {Q : Exit → Act → World → Prop} {a0 : Act} {w : World} {l : List Oper} (St : Array Bool → Act → World → Prop) (hm : P.follows .mixedOrders = true) (hlow : lowFrom 0 l = true)
    (h0 : St (Array.replicate l.length false) a0 { w with drawn := w.drawn + 1 })
    (hop : ∀ (i : Nat) (o : Oper) (listed : Array Bool) (a : Act) (w : World), listed.size = l.length → l[i]? = some o → listed.getD i true = false → (∀ e ∈ o.after, Region.binds .any e = true → listed.getD e.on false = true) → Closed l listed → St listed a w →
      if Region.wanted o (yielded l.toArray a.tmps) then o.wpIn F n P a w (fun a' w' => St (listed.setIfInBounds i true) a' w') Q else (∀ f, o.about P w a.eval = some f → F.fn f) ∧ St (listed.setIfInBounds i true) (a.put o.dst undef) w)
    (hend : ∀ (listed : Array Bool) (a : Act) (w : World), (∀ i, i < l.length → listed.getD i false = true) → St listed a w → Q .normal a w) : (Code.region id l.toArray true).wpIn F n P Q a0 w := by
  refine wpIn_region_any hm ?_
  have low : ∀ (i : Nat) (x : Oper), l.toArray[i]? = some x → ∀ e ∈ x.after, Region.binds .any e = true → e.on < i := fun i x hx e he hb => by have := lowFrom_get 0 l hlow i x (by simpa using hx) e he hb; omega
  refine wpAnyIn_inv (ops := l.toArray) (St := fun listed a w => Closed l listed ∧ St listed a w) low (fun i o listed a w hl ho h1 h2 hw => ?_) (fun listed a w hall hw => hend listed a w (by simpa using hall) hw.2) _ _ _ _ (by simp) ?_ ⟨fun j o ho hj => ?_, by simpa using h0⟩
  · have ho' : l[i]? = some o := by simpa using ho
    have hc := hw.1.set ho' h2
    have := hop i o listed a w (by simpa using hl) ho' h1 h2 hw.1 hw.2
    split
    · rename_i hwt
      rw [if_pos hwt] at this
      exact Oper.wpIn_mono (fun a' w' hq => ⟨hc, hq⟩) this
    · rename_i hwt
      rw [if_neg hwt] at this
      exact ⟨this.1, hc, this.2⟩
  · simp [List.countP_replicate]
  · unfold on at hj
    simp only [Array.getD_eq_getD_getElem?, Array.getElem?_replicate] at hj
    split at hj <;> simp at hj
/-- The same, the invariant told of the text and of the activation at the region's start. -/
theorem wpIn_region_invL {F : Fence} {n : Nat} {P : Program} {id : Nat} {Q : Exit → Act → World → Prop} {a0 : Act} {w : World} {l : List Oper} (St : List Oper → Act → Array Bool → Act → World → Prop) (hm : P.follows .mixedOrders = true) (hlow : lowFrom 0 l = true)
    (h0 : St l a0 (Array.replicate l.length false) a0 { w with drawn := w.drawn + 1 })
    (hop : ∀ (i : Nat) (o : Oper) (listed : Array Bool) (a : Act) (w : World), listed.size = l.length → l[i]? = some o → listed.getD i true = false → (∀ e ∈ o.after, Region.binds .any e = true → listed.getD e.on false = true) → Closed l listed → St l a0 listed a w →
      if Region.wanted o (yielded l.toArray a.tmps) then o.wpIn F n P a w (fun a' w' => St l a0 (listed.setIfInBounds i true) a' w') Q else (∀ f, o.about P w a.eval = some f → F.fn f) ∧ St l a0 (listed.setIfInBounds i true) (a.put o.dst undef) w)
    (hend : ∀ (listed : Array Bool) (a : Act) (w : World), (∀ i, i < l.length → listed.getD i false = true) → St l a0 listed a w → Q .normal a w) : (Code.region id l.toArray true).wpIn F n P Q a0 w :=
  wpIn_region_inv (St l a0) hm hlow h0 hop hend
theorem arr_range (t : Array Value) : t = ((List.range t.size).map fun i => t.getD i undef).toArray := by
  apply Array.ext'
  apply List.ext_getElem?
  intro i
  rcases Nat.lt_or_ge i t.size with h | h
  · simp [h, Array.getD_eq_getD_getElem?]
  · simp [h]
/-- The temporaries, written out. -/
theorem AtSt.lit {l : Array Oper} {vs : Nat → Value} {a0 a : Act} {listed : Array Bool} (h : AtSt l vs a0 listed a) {n : Nat} (hn : a0.tmps.size = n) : ∃ y : Nat → Value, (∀ t, a.tmps.getD t undef = y t) ∧ a = { tmps := ((List.range n).map y).toArray, defers := a0.defers } := by
  refine ⟨fun t => a.tmps.getD t undef, fun _ => rfl, ?_⟩
  have := arr_range a.tmps
  rw [h.size, hn] at this
  obtain ⟨tm, df⟩ := a
  simp only at this ⊢
  rw [← this, ← h.defers]
end Go.Rg
set_option linter.all false
namespace Go.Proofs.YthkcgengohoboaaGreatDoor
open Go.RowKit Go.Sort Go.Rg
set_option maxRecDepth 100000
attribute [local go_sem] Oper.semAt_some

/-- a function value that tells a number of the truths of a boy -/
structure Tells (c : Choir) (boy : Nat) (x : Boy) (W : World) (g : Nat) (caps : Array Value) (f : List Int → Int × Bool) : Prop where
  enter : ∀ args w, (callFunc g args).run Tryz.prog w = .ok (.enter g args) w
  call : ∀ A n, Kept W A → n ∈ c.B.truths boy x → Calls Tryz.prog g (#[encT c boy n] ++ caps) A fun e B => e = .returned (.tuple #[.int .i64 (f n).1, .bool (f n).2]) ∧ Kept A B
def spanStep (s : Int × Int × Bool) (n : Int) : Int × Int × Bool :=
  if s.2.2 then (min s.1 n, max s.2.1 n, true) else (n, n, true)
def spanAcc (f : List Int → Int × Bool) (s : Int × Int × Bool) (n : List Int) : Int × Int × Bool := if (f n).2 then spanStep s (f n).1 else s
def spanOf (f : List Int → Int × Bool) (l : List (List Int)) : Int × Int × Bool := l.foldl (spanAcc f) (0, 0, false)

/-- the world while the new span is reckoned -/
def SpanW (V : World) (sp : Nat) (m M fn : Int) (b3 b10 : Bool) : World :=
  let w := if b3 then V.drew.alloc (Obj.cells #[.int .i64 fn] 3) else V.drew
  if b10 then (w.setCell ⟨sp, 0, none⟩ (.int .i64 m)).setCell ⟨sp, 1, none⟩ (.int .i64 M) else w
def SpanCW (V : World) (sp : Nat) (m M fn : Int) (listed : Array Bool) (w : World) : Prop :=
  (on listed 10 = true → ∀ j, j < 10 → on listed j = true) ∧ w = SpanW V sp m M fn (on listed 3) (on listed 10)
def spanVs (N sp : Nat) (lo hi fn : Int) : Nat → Value
  | 0 => .pointer (some ⟨sp, 0, none⟩)
  | 1 => .int .i64 lo
  | 2 => .int .i64 fn
  | 3 => .slice (some ⟨N, 0, none⟩) 1 1
  | 4 => .int .i64 (min lo fn)
  | 5 => .pointer (some ⟨sp, 1, none⟩)
  | 6 => .int .i64 hi
  | 7 => .int .i64 fn
  | 8 => .int .i64 (max hi fn)
  | 9 => .agg #[.int .i64 (min lo fn), .int .i64 (max hi fn)]
  | _ => undef

theorem cell_alloc_new (V : World) (v : Value) (t : TypeId) : (V.alloc (Obj.cells #[v] t)).cell? ⟨V.heap.size, 0, none⟩ = some v := by go_simp

set_option maxHeartbeats 4000000 in
theorem span_region (l : Nat) (a0 : Act) (V : World) (sp : Nat) (lo hi fn : Int) (Q : Exit → Act → World → Prop) (h6 : a0.tmps.getD 6 undef = .pointer (some ⟨sp, 0, none⟩)) (h9 : a0.tmps.getD 9 undef = .int .i64 fn) (hz : a0.tmps.size = 40)
    (p0 : V.cell? ⟨sp, 0, none⟩ = some (.int .i64 lo)) (p1 : V.cell? ⟨sp, 1, none⟩ = some (.int .i64 hi)) (pf0 : V.frozen? ⟨sp, 0, none⟩ = false) (pf1 : V.frozen? ⟨sp, 1, none⟩ = false)
    (hend : ∀ a, Q .normal a (SpanW V sp (min lo fn) (max hi fn) fn true true)) :
    (Code.region 7 #[{ dst := some 28, op := Op.fieldAddr 32 (Operand.tmp 6) 0, type := 0, pos := "ask.go:20", after := #[], guard := none }, { dst := some 29, op := Op.load 3 (Operand.tmp 28), type := 3, pos := "ask.go:20", after := #[{ on := 0, ground := Ground.data }], guard := none }, { dst := some 30, op := Op.move (Operand.tmp 9), type := 3, pos := "ask.go:20", after := #[], guard := none }, { dst := some 31, op := Op.buildSlice 41 1 #[(0, Operand.tmp 30)], type := 41, pos := "ask.go:20", after := #[{ on := 2, ground := Ground.data }], guard := none }, { dst := some 32, op := Op.call { callee := Callee.value (Operand.func 124), args := #[Operand.tmp 29, Operand.tmp 31], argTypes := #[3, 41] }, type := 3, pos := "ask.go:20", after := #[{ on := 1, ground := Ground.data }, { on := 3, ground := Ground.data }], guard := none }, { dst := some 33, op := Op.fieldAddr 32 (Operand.tmp 6) 1, type := 0, pos := "ask.go:20", after := #[], guard := none }, { dst := some 34, op := Op.load 3 (Operand.tmp 33), type := 3, pos := "ask.go:20", after := #[{ on := 5, ground := Ground.data }], guard := none }, { dst := some 35, op := Op.move (Operand.tmp 9), type := 3, pos := "ask.go:20", after := #[], guard := none }, { dst := some 36, op := Op.call { callee := Callee.builtin Builtin.max, args := #[Operand.tmp 34, Operand.tmp 35], argTypes := #[3, 3] }, type := 3, pos := "ask.go:20", after := #[{ on := 6, ground := Ground.data }, { on := 7, ground := Ground.data }], guard := none }, { dst := some 37, op := Op.build 32 #[(0, Operand.tmp 32), (1, Operand.tmp 36)], type := 32, pos := "ask.go:20", after := #[{ on := 4, ground := Ground.data }, { on := 8, ground := Ground.data }], guard := none }, { dst := none, op := Op.store 32 (Operand.tmp 6) (Operand.tmp 37), type := 0, pos := "ask.go:20", after := #[{ on := 9, ground := Ground.data }, { on := 4, ground := Ground.chain }, { on := 0, ground := Ground.phase }, { on := 1, ground := Ground.phase }, { on := 2, ground := Ground.phase }, { on := 3, ground := Ground.phase }, { on := 4, ground := Ground.phase }, { on := 5, ground := Ground.phase }, { on := 6, ground := Ground.phase }, { on := 7, ground := Ground.phase }, { on := 8, ground := Ground.phase }, { on := 9, ground := Ground.phase }], guard := none }] true).wpIn (Fence.wide.inRound l) 0 Tryz.prog Q a0 V := by
  refine wpIn_region_states (spanVs V.heap.size sp lo hi fn) (SpanCW V sp (min lo fn) (max hi fn) fn) (by kernel_rfl) (by kernel_rfl) ⟨(fun h => by cases h), rfl⟩ ?hop ?hend
  case hop =>
    have z3 : sp < V.heap.size := Go.Ai.lt_of_cell p0
    have kb : ∀ b, Kept V (SpanW V sp (min lo fn) (max hi fn) fn b false) := by
      intro b; cases b
      · exact kept_drew (kept_refl _)
      · exact kept_alloc (kept_drew (kept_refl _)) _
    intro i o listed a w hl ho h1 h2 ha hw
    have hi11 : i < 11 := (List.getElem?_eq_some_iff.1 ho).1
    have hno := on_no h1
    obtain ⟨hc, rfl⟩ := hw
    have n10 : on listed 10 = false := by
      cases hb : on listed 10 with
      | false => rfl
      | true =>
        by_cases e : i = 10
        · rw [e, hb] at hno; cases hno
        · have := hc hb i (by omega); rw [this] at hno; cases hno
    have stay : i ≠ 3 → i ≠ 10 → SpanCW V sp (min lo fn) (max hi fn) fn (listed.setIfInBounds i true) (SpanW V sp (min lo fn) (max hi fn) fn (on listed 3) false) := fun h3 h10 =>
      ⟨fun h => (by rw [on_set (Ne.symm h10), n10] at h; cases h), by rw [on_set (Ne.symm h3), on_set (Ne.symm h10), n10]⟩
    rw [n10]
    clear hc
    have gr : ∀ b o v, V.cell? ⟨sp, o, none⟩ = some v → (SpanW V sp (min lo fn) (max hi fn) fn b false).cell? ⟨sp, o, none⟩ = some v := fun b o v h => kcell (kb b) h
    match i, ho with
    | 0, ho =>
      cases ho
      have st := stay (by omega) (by omega)
      have t6 := (ha.old 6 (by kernel_rfl)).trans h6
      generalize SpanW V sp (min lo fn) (max hi fn) fn (on listed 3) false = w at *
      clear stay gr kb
      go_simp
      first | done | rfl | exact ⟨rfl, st⟩
    | 1, ho =>
      cases ho
      have st := stay (by omega) (by omega)
      have t28 := ha.new 0 (h2 ⟨0, .data⟩ (by simp) rfl) (d := 28) rfl rfl (by rw [hz]; decide)
      simp [spanVs] at t28
      have c := gr (on listed 3) 0 _ p0
      generalize SpanW V sp (min lo fn) (max hi fn) fn (on listed 3) false = w at *
      clear stay gr kb
      go_simp
      first | done | rfl | exact ⟨rfl, st⟩
    | 2, ho =>
      cases ho
      have st := stay (by omega) (by omega)
      have t9 := (ha.old 9 (by kernel_rfl)).trans h9
      generalize SpanW V sp (min lo fn) (max hi fn) fn (on listed 3) false = w at *
      clear stay gr kb
      go_simp
      first | done | rfl | exact ⟨rfl, st⟩
    | 3, ho =>
      cases ho
      have t30 := ha.new 2 (h2 ⟨2, .data⟩ (by simp) rfl) (d := 30) rfl rfl (by rw [hz]; decide)
      simp [spanVs] at t30
      rw [hno]
      have hsz : (SpanW V sp (min lo fn) (max hi fn) fn false false).heap.size = V.heap.size := rfl
      have hal : SpanCW V sp (min lo fn) (max hi fn) fn (listed.setIfInBounds 3 true) ((SpanW V sp (min lo fn) (max hi fn) fn false false).alloc (Obj.cells #[.int .i64 fn] 3)) :=
        ⟨fun h => (by rw [on_set (by omega), n10] at h; cases h), by rw [on_self (by rw [hl]; simp), on_set (by omega), n10]; rfl⟩
      generalize SpanW V sp (min lo fn) (max hi fn) fn false false = w at *
      clear stay gr kb
      go_simp
      first | done | rfl | exact ⟨rfl, hal⟩
    | 4, ho =>
      cases ho
      have st := stay (by omega) (by omega)
      have t29 := ha.new 1 (h2 ⟨1, .data⟩ (by simp) rfl) (d := 29) rfl rfl (by rw [hz]; decide)
      simp [spanVs] at t29
      have t31 := ha.new 3 (h2 ⟨3, .data⟩ (by simp) rfl) (d := 31) rfl rfl (by rw [hz]; decide)
      simp [spanVs] at t31
      have h3 : on listed 3 = true := h2 ⟨3, .data⟩ (by simp) rfl
      rw [h3] at st ⊢
      have cn : (SpanW V sp (min lo fn) (max hi fn) fn true false).cell? ⟨V.heap.size, 0, none⟩ = some (.int .i64 fn) := cell_alloc_new V.drew _ _
      generalize SpanW V sp (min lo fn) (max hi fn) fn true false = w at *
      have hle := least2 lo fn ⟨V.heap.size, 0, none⟩ w cn
      clear stay gr kb
      go_simp
      refine ⟨trivial, rfl, (CallsIn.inRound _ (callsIn_wide.2 hle)).mono ?_⟩
      rintro e w' ⟨rfl, rfl⟩
      first | exact ⟨rfl, st⟩
    | 5, ho =>
      cases ho
      have st := stay (by omega) (by omega)
      have t6 := (ha.old 6 (by kernel_rfl)).trans h6
      generalize SpanW V sp (min lo fn) (max hi fn) fn (on listed 3) false = w at *
      clear stay gr kb
      go_simp
      first | done | rfl | exact ⟨rfl, st⟩
    | 6, ho =>
      cases ho
      have st := stay (by omega) (by omega)
      have t33 := ha.new 5 (h2 ⟨5, .data⟩ (by simp) rfl) (d := 33) rfl rfl (by rw [hz]; decide)
      simp [spanVs] at t33
      have c := gr (on listed 3) 1 _ p1
      generalize SpanW V sp (min lo fn) (max hi fn) fn (on listed 3) false = w at *
      clear stay gr kb
      go_simp
      first | done | rfl | exact ⟨rfl, st⟩
    | 7, ho =>
      cases ho
      have st := stay (by omega) (by omega)
      have t9 := (ha.old 9 (by kernel_rfl)).trans h9
      generalize SpanW V sp (min lo fn) (max hi fn) fn (on listed 3) false = w at *
      clear stay gr kb
      go_simp
      first | done | rfl | exact ⟨rfl, st⟩
    | 8, ho =>
      cases ho
      have st := stay (by omega) (by omega)
      have t34 := ha.new 6 (h2 ⟨6, .data⟩ (by simp) rfl) (d := 34) rfl rfl (by rw [hz]; decide)
      simp [spanVs] at t34
      have t35 := ha.new 7 (h2 ⟨7, .data⟩ (by simp) rfl) (d := 35) rfl rfl (by rw [hz]; decide)
      simp [spanVs] at t35
      generalize SpanW V sp (min lo fn) (max hi fn) fn (on listed 3) false = w at *
      clear stay gr kb
      go_simp
      have hmx : (if hi < fn then fn else hi) = max hi fn := by split <;> omega
      rw [hmx]; rfl
    | 9, ho =>
      cases ho
      have st := stay (by omega) (by omega)
      have t32 := ha.new 4 (h2 ⟨4, .data⟩ (by simp) rfl) (d := 32) rfl rfl (by rw [hz]; decide)
      simp [spanVs] at t32
      have t36 := ha.new 8 (h2 ⟨8, .data⟩ (by simp) rfl) (d := 36) rfl rfl (by rw [hz]; decide)
      simp [spanVs] at t36
      generalize SpanW V sp (min lo fn) (max hi fn) fn (on listed 3) false = w at *
      clear stay gr kb
      go_simp
      first | done | rfl | exact ⟨rfl, st⟩
    | 10, ho =>
      cases ho
      have t6 := (ha.old 6 (by kernel_rfl)).trans h6
      have t37 := ha.new 9 (h2 ⟨9, .data⟩ (by simp) rfl) (d := 37) rfl rfl (by rw [hz]; decide)
      simp [spanVs] at t37
      have h3 : on listed 3 = true := h2 ⟨3, .phase⟩ (by simp) rfl
      have c0 := gr true 0 _ p0
      have c1 := gr true 1 _ p1
      have cf0 : (SpanW V sp (min lo fn) (max hi fn) fn true false).frozen? ⟨sp, 0, none⟩ = false := ((kturns (kb true) (fun _ => False)).frozen z3 (fun h => h)).trans pf0
      have cf1 : (SpanW V sp (min lo fn) (max hi fn) fn true false).frozen? ⟨sp, 1, none⟩ = false := ((kturns (kb true) (fun _ => False)).frozen z3 (fun h => h)).trans pf1
      have st : SpanCW V sp (min lo fn) (max hi fn) fn (listed.setIfInBounds 10 true) (((SpanW V sp (min lo fn) (max hi fn) fn true false).setCell ⟨sp, 0, none⟩ (.int .i64 (min lo fn))).setCell ⟨sp, 1, none⟩ (.int .i64 (max hi fn))) := by
        refine ⟨fun _ j hj => ?_, by rw [on_set (by omega), on_self (by rw [hl]; simp), h3]; rfl⟩
        rw [on_set (by omega)]
        match j, hj with
        | 0, _ => exact h2 ⟨0, .phase⟩ (by simp) rfl
        | 1, _ => exact h2 ⟨1, .phase⟩ (by simp) rfl
        | 2, _ => exact h2 ⟨2, .phase⟩ (by simp) rfl
        | 3, _ => exact h2 ⟨3, .phase⟩ (by simp) rfl
        | 4, _ => exact h2 ⟨4, .phase⟩ (by simp) rfl
        | 5, _ => exact h2 ⟨5, .phase⟩ (by simp) rfl
        | 6, _ => exact h2 ⟨6, .phase⟩ (by simp) rfl
        | 7, _ => exact h2 ⟨7, .phase⟩ (by simp) rfl
        | 8, _ => exact h2 ⟨8, .phase⟩ (by simp) rfl
        | 9, _ => exact h2 ⟨9, .phase⟩ (by simp) rfl
      rw [h3]
      generalize SpanW V sp (min lo fn) (max hi fn) fn true false = w at *
      clear stay gr kb
      go_simp
      first | done | rfl | exact ⟨rfl, st⟩
  case hend =>
    rintro listed a w hall ha ⟨hc, rfl⟩
    rw [show on listed 3 = true from hall 3 (by simp), show on listed 10 = true from hall 10 (by simp)]
    exact hend a

theorem spanW_facts {V : World} {sp : Nat} {m M fn lo hi : Int} (p0 : V.cell? ⟨sp, 0, none⟩ = some (.int .i64 lo)) (p1 : V.cell? ⟨sp, 1, none⟩ = some (.int .i64 hi)) :
    (SpanW V sp m M fn true true).cell? ⟨sp, 0, none⟩ = some (.int .i64 m) ∧ (SpanW V sp m M fn true true).cell? ⟨sp, 1, none⟩ = some (.int .i64 M) ∧ Turns (fun b => b = sp) V (SpanW V sp m M fn true true) ∧ (∀ i, (SpanW V sp m M fn true true).frozen? ⟨sp, i, none⟩ = V.frozen? ⟨sp, i, none⟩) := by
  have hk : Kept V (V.drew.alloc (Obj.cells #[.int .i64 fn] 3)) := kept_alloc (kept_drew (kept_refl _)) _
  have q0 := kcell hk p0
  have q1 := kcell hk p1
  have e : SpanW V sp m M fn true true = ((V.drew.alloc (Obj.cells #[.int .i64 fn] 3)).setCell ⟨sp, 0, none⟩ (.int .i64 m)).setCell ⟨sp, 1, none⟩ (.int .i64 M) := rfl
  rw [e]
  exact ⟨(cell_set_ne (by omega)).trans (cell_set_eq q0), cell_set_eq ((cell_set_ne (by omega)).trans q1), Turns.setCell (T := fun b => b = sp) (Turns.setCell (T := fun b => b = sp) (kturns hk _) rfl _ _) rfl _ _, fun i => by
    rw [World.frozen?_setCell, World.frozen?_setCell]
    exact (kturns hk (fun _ => False)).frozen (Go.Ai.lt_of_cell p0) (fun h => h)⟩
def DoneCW (B : World) (sp fo : Nat) (lo hi : Int) (fd : Bool) (w : World) : Prop :=
  Turns (fun b => b = sp ∨ b = fo) B w ∧ w.cell? ⟨sp, 0, none⟩ = some (.int .i64 lo) ∧ w.cell? ⟨sp, 1, none⟩ = some (.int .i64 hi) ∧ w.cell? ⟨fo, 0, none⟩ = some (.bool fd) ∧ (∀ i, w.frozen? ⟨sp, i, none⟩ = false) ∧ w.frozen? ⟨fo, 0, none⟩ = false
theorem DoneCW.store1 {B w : World} {sp fo : Nat} {lo hi : Int} {fd : Bool} (h : DoneCW B sp fo lo hi fd w) (hne : fo ≠ sp) : DoneCW B sp fo lo hi fd ((w.setCell ⟨sp, 0, none⟩ (.int .i64 lo)).setCell ⟨sp, 1, none⟩ (.int .i64 hi)) := by
  obtain ⟨w0, w1, w2, w3, w4, w5⟩ := h
  have hTs : Turns (fun b => b = sp) w ((w.setCell ⟨sp, 0, none⟩ (.int .i64 lo)).setCell ⟨sp, 1, none⟩ (.int .i64 hi)) := Turns.setCell (T := fun b => b = sp) (Turns.setCell (T := fun b => b = sp) (Turns.refl _ _) rfl _ _) rfl _ _
  refine ⟨Turns.setCell (T := fun b => b = sp ∨ b = fo) (Turns.setCell (T := fun b => b = sp ∨ b = fo) w0 (.inl rfl) _ _) (.inl rfl) _ _, ?_, ?_, tcell hTs hne w3, fun i => ?_, ?_⟩
  · rw [cell_set_ne (by omega)]; exact cell_set_eq w1
  · exact cell_set_eq ((cell_set_ne (by omega)).trans w2)
  · rw [World.frozen?_setCell, World.frozen?_setCell]; exact w4 i
  · rw [World.frozen?_setCell, World.frozen?_setCell]; exact w5
theorem DoneCW.store2 {B w : World} {sp fo : Nat} {lo hi : Int} {fd : Bool} (h : DoneCW B sp fo lo hi fd w) (hne : fo ≠ sp) : DoneCW B sp fo lo hi fd (w.setCell ⟨fo, 0, none⟩ (.bool fd)) := by
  obtain ⟨w0, w1, w2, w3, w4, w5⟩ := h
  have hTs : Turns (fun b => b = fo) w (w.setCell ⟨fo, 0, none⟩ (.bool fd)) := Turns.setCell (T := fun b => b = fo) (Turns.refl _ _) rfl _ _
  refine ⟨Turns.setCell (T := fun b => b = sp ∨ b = fo) w0 (.inr rfl) _ _, tcell hTs (Ne.symm hne) w1, tcell hTs (Ne.symm hne) w2, cell_set_eq w3, fun i => ?_, ?_⟩
  · rw [World.frozen?_setCell]; exact w4 i
  · rw [World.frozen?_setCell]; exact w5
end Go.Proofs.YthkcgengohoboaaGreatDoor
set_option linter.all false
namespace Go.Proofs.YthkcgengohoboaaGreatDoor
open Go.RowKit Go.Sort Go.Rg
set_option maxRecDepth 100000
attribute [local go_sem] Oper.semAt_some

set_option maxHeartbeats 4000000 in
theorem span_any (S : Nat → Prop) (c : Choir) (boy : Nat) (x : Boy) (hx : c.B.boys[boy]? = some x) (W : World) (h : ChoirAt S W c) (hS : ∀ b, S b → b < W.heap.size)
    (g : Nat) (caps : Array Value) (f : List Int → Int × Bool) (hso : Tells c boy x W g caps f) :
    Calls Tryz.prog 75 #[.agg #[.func (.func g) #[] caps], c.val, .int .i64 (boy : Int)] W fun e B => e = .returned (.tuple #[.agg #[.int .i64 (spanOf f (c.B.truths boy x)).1, .int .i64 (spanOf f (c.B.truths boy x)).2.1], .bool (spanOf f (c.B.truths boy x)).2.2]) ∧ Kept W B := by
  refine callsIn_wide.1 (callsIn_of_wp_marks (n := 0) Tryz.func75 rfl trivial ?_ rfl)
  simp only [Tryz.ntmps75, List.size_toArray, List.length_cons, List.length_nil, Nat.reduceAdd, Nat.reduceSub, Array.replicate_succ, Array.replicate_zero, List.push_toArray, List.append_toArray, List.nil_append, List.cons_append]
  generalize hall : spanOf f (c.B.truths boy x) = RR
  unfold Choir.val
  gi_wp2_with fail
  have hk0 : Kept W ((((W.alloc (Obj.cells #[.func (.func g) #[] caps] 115)).alloc (Obj.cells #[.slice (some ⟨c.bb, c.ob, none⟩) c.B.boys.length c.capb, .int .i64 c.B.weeks, .slice c.q c.B.trials.length c.capt, .map (some c.bm)] 93)).alloc (Obj.cells #[.int .i64 0, .int .i64 0] 32)).alloc (Obj.cells #[.bool false] 4)) := kept_alloc (kept_alloc (kept_alloc (kept_alloc (kept_refl _) _) _) _) _
  have hz0 : ((((W.alloc (Obj.cells #[.func (.func g) #[] caps] 115)).alloc (Obj.cells #[.slice (some ⟨c.bb, c.ob, none⟩) c.B.boys.length c.capb, .int .i64 c.B.weeks, .slice c.q c.B.trials.length c.capt, .map (some c.bm)] 93)).alloc (Obj.cells #[.int .i64 0, .int .i64 0] 32)).alloc (Obj.cells #[.bool false] 4)).heap.size = W.heap.size + 1 + 1 + 1 + 1 := by simp
  have s0 : ((((W.alloc (Obj.cells #[.func (.func g) #[] caps] 115)).alloc (Obj.cells #[.slice (some ⟨c.bb, c.ob, none⟩) c.B.boys.length c.capb, .int .i64 c.B.weeks, .slice c.q c.B.trials.length c.capt, .map (some c.bm)] 93)).alloc (Obj.cells #[.int .i64 0, .int .i64 0] 32)).alloc (Obj.cells #[.bool false] 4)).cell? ⟨W.heap.size, 0, none⟩ = some (.func (.func g) #[] caps) := by go_simp
  have r0 : ((((W.alloc (Obj.cells #[.func (.func g) #[] caps] 115)).alloc (Obj.cells #[.slice (some ⟨c.bb, c.ob, none⟩) c.B.boys.length c.capb, .int .i64 c.B.weeks, .slice c.q c.B.trials.length c.capt, .map (some c.bm)] 93)).alloc (Obj.cells #[.int .i64 0, .int .i64 0] 32)).alloc (Obj.cells #[.bool false] 4)).cell? ⟨W.heap.size + 1 + 1, 0, none⟩ = some (.int .i64 0) := by go_simp
  have r1 : ((((W.alloc (Obj.cells #[.func (.func g) #[] caps] 115)).alloc (Obj.cells #[.slice (some ⟨c.bb, c.ob, none⟩) c.B.boys.length c.capb, .int .i64 c.B.weeks, .slice c.q c.B.trials.length c.capt, .map (some c.bm)] 93)).alloc (Obj.cells #[.int .i64 0, .int .i64 0] 32)).alloc (Obj.cells #[.bool false] 4)).cell? ⟨W.heap.size + 1 + 1, 1, none⟩ = some (.int .i64 0) := by go_simp
  have r2 : ((((W.alloc (Obj.cells #[.func (.func g) #[] caps] 115)).alloc (Obj.cells #[.slice (some ⟨c.bb, c.ob, none⟩) c.B.boys.length c.capb, .int .i64 c.B.weeks, .slice c.q c.B.trials.length c.capt, .map (some c.bm)] 93)).alloc (Obj.cells #[.int .i64 0, .int .i64 0] 32)).alloc (Obj.cells #[.bool false] 4)).cell? ⟨W.heap.size + 1 + 1 + 1, 0, none⟩ = some (.bool false) := by go_simp
  have rf : ∀ i, ((((W.alloc (Obj.cells #[.func (.func g) #[] caps] 115)).alloc (Obj.cells #[.slice (some ⟨c.bb, c.ob, none⟩) c.B.boys.length c.capb, .int .i64 c.B.weeks, .slice c.q c.B.trials.length c.capt, .map (some c.bm)] 93)).alloc (Obj.cells #[.int .i64 0, .int .i64 0] 32)).alloc (Obj.cells #[.bool false] 4)).frozen? ⟨W.heap.size + 1 + 1, i, none⟩ = false := by intro i; go_simp
  have rg : ((((W.alloc (Obj.cells #[.func (.func g) #[] caps] 115)).alloc (Obj.cells #[.slice (some ⟨c.bb, c.ob, none⟩) c.B.boys.length c.capb, .int .i64 c.B.weeks, .slice c.q c.B.trials.length c.capt, .map (some c.bm)] 93)).alloc (Obj.cells #[.int .i64 0, .int .i64 0] 32)).alloc (Obj.cells #[.bool false] 4)).frozen? ⟨W.heap.size + 1 + 1 + 1, 0, none⟩ = false := by go_simp
  generalize ((((W.alloc (Obj.cells #[.func (.func g) #[] caps] 115)).alloc (Obj.cells #[.slice (some ⟨c.bb, c.ob, none⟩) c.B.boys.length c.capb, .int .i64 c.B.weeks, .slice c.q c.B.trials.length c.capt, .map (some c.bm)] 93)).alloc (Obj.cells #[.int .i64 0, .int .i64 0] 32)).alloc (Obj.cells #[.bool false] 4)) = W1 at *
  have hcall := truths_any c boy W1
  unfold Choir.val at hcall
  refine ⟨trivial, rfl, (callsIn_wide.2 hcall).mono ?_⟩
  rintro e W2 ⟨rfl, hk2, hz2, d0, d1, d2, d3, d4⟩
  rw [hz0] at d0 d1 d2 d3 d4 hz2
  have HKW := Lib.hid (kept_trans hk0 hk2)
  have hat := truthsAt_of (h.turns (kturns hk0 (fun _ => False)) (fun _ _ h => h)) hk2 rfl d0 d1 d2 d3 d4
  have HAT := Lib.hid hat; clear hat
  have q0 := kcell hk2 r0
  have q1 := kcell hk2 r1
  have q2 := kcell hk2 r2
  have qf : ∀ i, W2.frozen? ⟨W.heap.size + 1 + 1, i, none⟩ = false := fun i => ((kturns hk2 (fun _ => False)).frozen (by omega) (fun h => h)).trans (rf i)
  have qg : W2.frozen? ⟨W.heap.size + 1 + 1 + 1, 0, none⟩ = false := ((kturns hk2 (fun _ => False)).frozen (by omega) (fun h => h)).trans rg
  have t0 := kcell hk2 s0
  clear hcall d0 d1 d2 d3 d4 r0 r1 r2 rf rg s0
  generalize hfo : W.heap.size + 1 + 1 + 1 = fo at *
  generalize hsp : W.heap.size + 1 + 1 = sp at *
  gi_wp2_with fail
  refine wpIn_range (gf := 154) (lb := #[.pointer (some ⟨fo + 1, 0, none⟩), .pointer (some ⟨fo + 1 + 1, 0, none⟩)]) rfl (enters_of Tryz.func154 (by kernel_rfl) rfl)
    (truths1_gives S c boy x hx (fo + 1) (fo + 1 + 1)) rfl (fun b => b = sp ∨ b = fo) (by rintro b (rfl | rfl) <;> omega) ?hS (fun B hB => HAT.out.kept hB)
    (fun k T' A => T' = (fun b => b = sp ∨ b = fo) ∧ A.cell? ⟨sp, 0, none⟩ = some (.int .i64 (spanOf f ((c.B.truths boy x).take k)).1) ∧ A.cell? ⟨sp, 1, none⟩ = some (.int .i64 (spanOf f ((c.B.truths boy x).take k)).2.1) ∧ A.cell? ⟨fo, 0, none⟩ = some (.bool (spanOf f ((c.B.truths boy x).take k)).2.2) ∧ (∀ i, A.frozen? ⟨sp, i, none⟩ = false) ∧ A.frozen? ⟨fo, 0, none⟩ = false)
    (fun e k T' A => False)
    ?hI ?hIx ⟨rfl, q0, q1, q2, qf, qg⟩ ?round ?done ?stop
  case hS =>
    rintro b (hb | rfl | rfl)
    · have := hS b hb
      exact ⟨by omega, by omega⟩
    · exact ⟨by omega, by omega⟩
    · exact ⟨by omega, by omega⟩
  case hI =>
    rintro k T' A B ⟨rfl, h1, h2, h3, h4, h5⟩ hq
    have hb := Go.Ai.lt_of_cell h1
    have hb2 := Go.Ai.lt_of_cell h3
    exact ⟨rfl, (hq.cell hb (.inr (.inl rfl))).trans h1, (hq.cell hb (.inr (.inl rfl))).trans h2, (hq.cell hb2 (.inr (.inr rfl))).trans h3, fun i => (hq.frozen hb (.inr (.inl rfl))).trans (h4 i), (hq.frozen hb2 (.inr (.inr rfl))).trans h5⟩
  case hIx =>
    intro e k T' A B h
    exact h.elim
  case stop =>
    intro Db e k T' B _ _ _ _ _ h
    exact h.elim
  case round =>
    rintro l k n T' A hn hE hz hTA hl hlA hnl ⟨rfl, h1, h2, h3, h4, h5⟩
    have hmem := List.mem_of_getElem? hn
    have htk : spanOf f ((c.B.truths boy x).take (k + 1)) = spanAcc f (spanOf f ((c.B.truths boy x).take k)) n := by
      rw [List.take_succ, hn]; simp [spanOf, List.foldl_append]
    have HTK := Lib.hid htk; clear htk
    obtain ⟨n0, n1, n2, n3, n4, rfl⟩ := truths_len hmem
    have hkA : Kept W A := Below.trans HKW.out (hTA.toBelow (n := W.heap.size) (by rintro b (rfl | rfl) <;> omega) (by omega))
    have HN := Lib.hid hn; clear hn
    generalize spanOf f ((c.B.truths boy x).take k) = st at *
    obtain ⟨lo, hi, fd⟩ := st
    simp only at h1 h2 h3
    simp only [encT, List.map_cons, List.map_nil, List.append_toArray, List.cons_append, List.nil_append, Choir.k0, Choir.k2, Choir.m]
    gi_wp2_with fail
    refine ⟨_, Ext.refl _ _, (Turns.refl _ _).alloc _, ?_⟩
    intro A2 hA2 hs2 r hr
    have z1 : sp < A.heap.size := Go.Ai.lt_of_cell h1
    have z2 : fo < A.heap.size := Go.Ai.lt_of_cell h3
    have hk1 : Kept A (A.alloc (Obj.cells #[.slice (some ⟨c.bb, c.ob, none⟩) c.B.boys.length c.capb, .int .i64 c.B.weeks, .slice c.q c.B.trials.length c.capt, .map (some c.bm), .int .i64 (boy : Int), .int .i64 n0, .int .i64 n1, .int .i64 n2, .int .i64 n3, .int .i64 n4] 110)) := kept_alloc (kept_refl _) _
    have e0 := tcell hA2 (by omega) (show (A.alloc (Obj.cells #[.slice (some ⟨c.bb, c.ob, none⟩) c.B.boys.length c.capb, .int .i64 c.B.weeks, .slice c.q c.B.trials.length c.capt, .map (some c.bm), .int .i64 (boy : Int), .int .i64 n0, .int .i64 n1, .int .i64 n2, .int .i64 n3, .int .i64 n4] 110)).cell? ⟨A.heap.size, 0, none⟩ = some (.slice (some ⟨c.bb, c.ob, none⟩) c.B.boys.length c.capb) by go_simp)
    have e1 := tcell hA2 (by omega) (show (A.alloc (Obj.cells #[.slice (some ⟨c.bb, c.ob, none⟩) c.B.boys.length c.capb, .int .i64 c.B.weeks, .slice c.q c.B.trials.length c.capt, .map (some c.bm), .int .i64 (boy : Int), .int .i64 n0, .int .i64 n1, .int .i64 n2, .int .i64 n3, .int .i64 n4] 110)).cell? ⟨A.heap.size, 1, none⟩ = some (.int .i64 c.B.weeks) by go_simp)
    have e2 := tcell hA2 (by omega) (show (A.alloc (Obj.cells #[.slice (some ⟨c.bb, c.ob, none⟩) c.B.boys.length c.capb, .int .i64 c.B.weeks, .slice c.q c.B.trials.length c.capt, .map (some c.bm), .int .i64 (boy : Int), .int .i64 n0, .int .i64 n1, .int .i64 n2, .int .i64 n3, .int .i64 n4] 110)).cell? ⟨A.heap.size, 2, none⟩ = some (.slice c.q c.B.trials.length c.capt) by go_simp)
    have e3 := tcell hA2 (by omega) (show (A.alloc (Obj.cells #[.slice (some ⟨c.bb, c.ob, none⟩) c.B.boys.length c.capb, .int .i64 c.B.weeks, .slice c.q c.B.trials.length c.capt, .map (some c.bm), .int .i64 (boy : Int), .int .i64 n0, .int .i64 n1, .int .i64 n2, .int .i64 n3, .int .i64 n4] 110)).cell? ⟨A.heap.size, 3, none⟩ = some (.map (some c.bm)) by go_simp)
    have e4 := tcell hA2 (by omega) (show (A.alloc (Obj.cells #[.slice (some ⟨c.bb, c.ob, none⟩) c.B.boys.length c.capb, .int .i64 c.B.weeks, .slice c.q c.B.trials.length c.capt, .map (some c.bm), .int .i64 (boy : Int), .int .i64 n0, .int .i64 n1, .int .i64 n2, .int .i64 n3, .int .i64 n4] 110)).cell? ⟨A.heap.size, 4, none⟩ = some (.int .i64 (boy : Int)) by go_simp)
    have e5 := tcell hA2 (by omega) (show (A.alloc (Obj.cells #[.slice (some ⟨c.bb, c.ob, none⟩) c.B.boys.length c.capb, .int .i64 c.B.weeks, .slice c.q c.B.trials.length c.capt, .map (some c.bm), .int .i64 (boy : Int), .int .i64 n0, .int .i64 n1, .int .i64 n2, .int .i64 n3, .int .i64 n4] 110)).cell? ⟨A.heap.size, 5, none⟩ = some (.int .i64 n0) by go_simp)
    have e6 := tcell hA2 (by omega) (show (A.alloc (Obj.cells #[.slice (some ⟨c.bb, c.ob, none⟩) c.B.boys.length c.capb, .int .i64 c.B.weeks, .slice c.q c.B.trials.length c.capt, .map (some c.bm), .int .i64 (boy : Int), .int .i64 n0, .int .i64 n1, .int .i64 n2, .int .i64 n3, .int .i64 n4] 110)).cell? ⟨A.heap.size, 6, none⟩ = some (.int .i64 n1) by go_simp)
    have e7 := tcell hA2 (by omega) (show (A.alloc (Obj.cells #[.slice (some ⟨c.bb, c.ob, none⟩) c.B.boys.length c.capb, .int .i64 c.B.weeks, .slice c.q c.B.trials.length c.capt, .map (some c.bm), .int .i64 (boy : Int), .int .i64 n0, .int .i64 n1, .int .i64 n2, .int .i64 n3, .int .i64 n4] 110)).cell? ⟨A.heap.size, 7, none⟩ = some (.int .i64 n2) by go_simp)
    have e8 := tcell hA2 (by omega) (show (A.alloc (Obj.cells #[.slice (some ⟨c.bb, c.ob, none⟩) c.B.boys.length c.capb, .int .i64 c.B.weeks, .slice c.q c.B.trials.length c.capt, .map (some c.bm), .int .i64 (boy : Int), .int .i64 n0, .int .i64 n1, .int .i64 n2, .int .i64 n3, .int .i64 n4] 110)).cell? ⟨A.heap.size, 8, none⟩ = some (.int .i64 n3) by go_simp)
    have e9 := tcell hA2 (by omega) (show (A.alloc (Obj.cells #[.slice (some ⟨c.bb, c.ob, none⟩) c.B.boys.length c.capb, .int .i64 c.B.weeks, .slice c.q c.B.trials.length c.capt, .map (some c.bm), .int .i64 (boy : Int), .int .i64 n0, .int .i64 n1, .int .i64 n2, .int .i64 n3, .int .i64 n4] 110)).cell? ⟨A.heap.size, 9, none⟩ = some (.int .i64 n4) by go_simp)
    have p0 := tcell hA2 (by omega) (kcell hk1 h1)
    have p1 := tcell hA2 (by omega) (kcell hk1 h2)
    have p2 := tcell hA2 (by omega) (kcell hk1 h3)
    have pf : ∀ i, A2.frozen? ⟨sp, i, none⟩ = false := fun i => (hA2.frozen (by simp; omega) (by omega)).trans (((kturns hk1 (fun _ => False)).frozen z1 (fun h => h)).trans (h4 i))
    have pg : A2.frozen? ⟨fo, 0, none⟩ = false := (hA2.frozen (by simp; omega) (by omega)).trans (((kturns hk1 (fun _ => False)).frozen z2 (fun h => h)).trans h5)
    have f0 := tcell hA2 (by omega) (kcell hk1 (tcell hTA (by omega) t0))
    have hk3 : Kept W A2 := Below.trans (kept_trans hkA hk1) (hA2.toBelow (n := W.heap.size) (by rintro b rfl; omega) (by have := hkA.size; have := hk1.size; omega))
    have hcall := hso.call A2 _ hk3 hmem
    simp only [encT, List.map_cons, List.map_nil, List.append_toArray, List.cons_append, List.nil_append, Choir.k0, Choir.k2, Choir.m] at hcall
    have heg := hso.enter
    clear hA2 hr hk1 h1 h2 h3 h4 h5
    gi_wp2_with fail
    refine ⟨trivial, rfl, (CallsIn.inRound _ (callsIn_wide.2 hcall)).mono ?_⟩
    rintro e A3 ⟨rfl, hk4⟩
    have p0 := kcell hk4 p0
    have p1 := kcell hk4 p1
    have p2 := kcell hk4 p2
    have pf : ∀ i, A3.frozen? ⟨sp, i, none⟩ = false := fun i => ((kturns hk4 (fun _ => False)).frozen (by omega) (fun h => h)).trans (pf i)
    have pg : A3.frozen? ⟨fo, 0, none⟩ = false := ((kturns hk4 (fun _ => False)).frozen (by omega) (fun h => h)).trans pg
    have pf0 := pf 0
    have pf1 := pf 1
    clear e0 e1 e2 e3 e4 e5 e6 e7 e8 e9 f0 hcall heg
    have hacc : spanAcc f (lo, hi, fd) [n0, n1, n2, n3, n4] = if (f [n0, n1, n2, n3, n4]).2 then spanStep (lo, hi, fd) (f [n0, n1, n2, n3, n4]).1 else (lo, hi, fd) := rfl
    generalize f [n0, n1, n2, n3, n4] = fv at *
    obtain ⟨fn, fb⟩ := fv
    simp only at hacc ⊢
    have HEND : Hid (∀ (V : World) (lo' hi' : Int) (fd' : Bool), Turns (fun b => b = sp ∨ b = fo) A2 V → V.cell? ⟨sp, 0, none⟩ = some (.int .i64 lo') → V.cell? ⟨sp, 1, none⟩ = some (.int .i64 hi') → V.cell? ⟨fo, 0, none⟩ = some (.bool fd') → (∀ i, V.frozen? ⟨sp, i, none⟩ = false) → V.frozen? ⟨fo, 0, none⟩ = false → (if fb then spanStep (lo, hi, fd) fn else (lo, hi, fd)) = (lo', hi', fd') →
        ∃ T2 : Nat → Prop, Ext A2.heap.size (fun b => b = sp ∨ b = fo) T2 ∧ (∀ b, T2 b → b < V.heap.size) ∧ Turns T2 A2 V ∧ T2 = (fun b => b = sp ∨ b = fo) ∧ V.cell? ⟨sp, 0, none⟩ = some (.int .i64 (spanOf f ((c.B.truths boy x).take (k + 1))).1) ∧ V.cell? ⟨sp, 1, none⟩ = some (.int .i64 (spanOf f ((c.B.truths boy x).take (k + 1))).2.1) ∧ V.cell? ⟨fo, 0, none⟩ = some (.bool (spanOf f ((c.B.truths boy x).take (k + 1))).2.2) ∧ (∀ i, V.frozen? ⟨sp, i, none⟩ = false) ∧ V.frozen? ⟨fo, 0, none⟩ = false) := Lib.hid (by
      intro V lo' hi' fd' hT v0 v1 v2 v3 v4 he
      have e1 : spanOf f ((c.B.truths boy x).take (k + 1)) = (lo', hi', fd') := HTK.out.trans (hacc.trans he)
      have hz := hT.size
      refine ⟨_, Ext.refl _ _, by rintro b (rfl | rfl) <;> omega, hT, rfl, by rw [e1]; exact v0, by rw [e1]; exact v1, by rw [e1]; exact v2, v3, v4⟩)
    clear hacc
    cases fb with
    | false =>
      have HE := Lib.hid (HEND.out A3 lo hi fd (kturns hk4 _) p0 p1 p2 pf pg rfl)
      gi_wp2_with fail
      exact HE.out
    | true =>
      cases fd with
      | false =>
        gi_wp2_with fail
        refine ⟨trivial, rfl, (CallsIn.inRound _ (callsIn_wide.2 (just_any fn A3))).mono ?_⟩
        rintro e A4 ⟨rfl, hk5⟩
        have p0 := kcell hk5 p0
        have p1 := kcell hk5 p1
        have p2 := kcell hk5 p2
        have pf0 : A4.frozen? ⟨sp, 0, none⟩ = false := ((kturns hk5 (fun _ => False)).frozen (by have := hk4.size; omega) (fun h => h)).trans pf0
        have pf1 : A4.frozen? ⟨sp, 1, none⟩ = false := ((kturns hk5 (fun _ => False)).frozen (by have := hk4.size; omega) (fun h => h)).trans pf1
        have pg : A4.frozen? ⟨fo, 0, none⟩ = false := ((kturns hk5 (fun _ => False)).frozen (by have := hk4.size; omega) (fun h => h)).trans pg
        have pfa : ∀ i, A4.frozen? ⟨sp, i, none⟩ = false := fun i => ((kturns hk5 (fun _ => False)).frozen (by have := hk4.size; omega) (fun h => h)).trans (pf i)
        gi_wp2_with fail
        have hz4 := hk4.size
        have hT5 : Turns (fun b => b = sp ∨ b = fo) A4 (((A4.setCell ⟨sp, 0, none⟩ (.int .i64 fn)).setCell ⟨sp, 1, none⟩ (.int .i64 fn)).setCell ⟨fo, 0, none⟩ (.bool true)) := Turns.setCell (T := fun b => b = sp ∨ b = fo) (Turns.setCell (T := fun b => b = sp ∨ b = fo) (Turns.setCell (T := fun b => b = sp ∨ b = fo) (Turns.refl _ _) (.inl rfl) _ _) (.inl rfl) _ _) (.inr rfl) _ _
        have hTf : Turns (fun b => b = fo) ((A4.setCell ⟨sp, 0, none⟩ (.int .i64 fn)).setCell ⟨sp, 1, none⟩ (.int .i64 fn)) (((A4.setCell ⟨sp, 0, none⟩ (.int .i64 fn)).setCell ⟨sp, 1, none⟩ (.int .i64 fn)).setCell ⟨fo, 0, none⟩ (.bool true)) := Turns.setCell (T := fun b => b = fo) (Turns.refl _ _) rfl _ _
        have hTs : Turns (fun b => b = sp) A4 ((A4.setCell ⟨sp, 0, none⟩ (.int .i64 fn)).setCell ⟨sp, 1, none⟩ (.int .i64 fn)) := Turns.setCell (T := fun b => b = sp) (Turns.setCell (T := fun b => b = sp) (Turns.refl _ _) rfl _ _) rfl _ _
        have b0 : (((A4.setCell ⟨sp, 0, none⟩ (.int .i64 fn)).setCell ⟨sp, 1, none⟩ (.int .i64 fn)).setCell ⟨fo, 0, none⟩ (.bool true)).cell? ⟨sp, 0, none⟩ = some (.int .i64 fn) := tcell hTf (by omega) ((cell_set_ne (by omega)).trans (cell_set_eq p0))
        have b1 : (((A4.setCell ⟨sp, 0, none⟩ (.int .i64 fn)).setCell ⟨sp, 1, none⟩ (.int .i64 fn)).setCell ⟨fo, 0, none⟩ (.bool true)).cell? ⟨sp, 1, none⟩ = some (.int .i64 fn) := tcell hTf (by omega) (cell_set_eq ((cell_set_ne (by omega)).trans p1))
        have b2 : (((A4.setCell ⟨sp, 0, none⟩ (.int .i64 fn)).setCell ⟨sp, 1, none⟩ (.int .i64 fn)).setCell ⟨fo, 0, none⟩ (.bool true)).cell? ⟨fo, 0, none⟩ = some (.bool true) := cell_set_eq (tcell hTs (by omega) p2)
        have bf : ∀ i, (((A4.setCell ⟨sp, 0, none⟩ (.int .i64 fn)).setCell ⟨sp, 1, none⟩ (.int .i64 fn)).setCell ⟨fo, 0, none⟩ (.bool true)).frozen? ⟨sp, i, none⟩ = false := fun i => by rw [World.frozen?_setCell, World.frozen?_setCell, World.frozen?_setCell]; exact pfa i
        have bg : (((A4.setCell ⟨sp, 0, none⟩ (.int .i64 fn)).setCell ⟨sp, 1, none⟩ (.int .i64 fn)).setCell ⟨fo, 0, none⟩ (.bool true)).frozen? ⟨fo, 0, none⟩ = false := by rw [World.frozen?_setCell, World.frozen?_setCell, World.frozen?_setCell]; exact pg
        generalize (((A4.setCell ⟨sp, 0, none⟩ (.int .i64 fn)).setCell ⟨sp, 1, none⟩ (.int .i64 fn)).setCell ⟨fo, 0, none⟩ (.bool true)) = A5 at *
        refine span_region _ _ A5 sp fn fn fn _ rfl rfl rfl b0 b1 (bf 0) (bf 1) fun a => ?_
        obtain ⟨v0, v1, hT, hF⟩ := spanW_facts (m := min fn fn) (M := max fn fn) (fn := fn) b0 b1
        have v2 := tcell hT (by omega) b2
        exact HEND.out _ _ _ true (((kturns (kept_trans hk4 hk5) _).trans (Ext.refl _ _) hT5).trans (Ext.refl _ _) (hT.mono fun _ _ h => .inl h)) v0 v1 v2 (fun i => (hF i).trans (bf i)) ((hT.frozen (Go.Ai.lt_of_cell b2) (by omega)).trans bg) (by simp [spanStep])
      | true =>
        gi_wp2_with fail
        refine span_region _ _ A3 sp lo hi fn _ rfl rfl rfl p0 p1 pf0 pf1 fun a => ?_
        obtain ⟨v0, v1, hT, hF⟩ := spanW_facts (m := min lo fn) (M := max hi fn) (fn := fn) p0 p1
        have v2 := tcell hT (by omega) p2
        exact HEND.out _ _ _ true ((kturns hk4 _).trans (Ext.refl _ _) (hT.mono fun _ _ h => .inl h)) v0 v1 v2 (fun i => (hF i).trans (pf i)) ((hT.frozen (Go.Ai.lt_of_cell p2) (by omega)).trans pg) rfl
  case done =>
    rintro Db T' B hDb hnD hE hTB ⟨rfl, h1, h2, h3, h4, h5⟩ hK
    have hkB : Below W.heap.size W B := Below.trans HKW.out (hTB.toBelow (n := W.heap.size) (by rintro b (rfl | rfl) <;> omega) (by omega))
    rw [List.take_length, hall] at h1 h2 h3
    have hzS := Go.Ai.lt_of_cell h1
    have hzF := Go.Ai.lt_of_cell h3
    obtain ⟨lo, hi, fd⟩ := RR
    simp only at h1 h2 h3 ⊢
    have hnD1 : ¬ Db = sp := fun e => hnD (.inl e)
    have hnD2 : ¬ Db = fo := fun e => hnD (.inr e)
    gi_wp2_with fail
    refine wpIn_region_states (fun i => match i with
      | 0 => .agg #[.int .i64 lo, .int .i64 hi]
      | 1 => .bool fd
      | _ => undef) (fun _ w => DoneCW B sp fo lo hi fd w)
      (by kernel_rfl) (by kernel_rfl) ⟨(Turns.refl _ _).drew, h1, h2, h3, h4, h5⟩ ?hop ?hend
    case hop =>
      intro i o listed a w hl ho g1 g2 ha hw
      have hi4 : i < 4 := (List.getElem?_eq_some_iff.1 ho).1
      have hne : fo ≠ sp := by omega
      have HW := Lib.hid hw
      obtain ⟨w0, w1, w2, w3, w4, w5⟩ := hw
      have w40 := w4 0
      have w41 := w4 1
      clear h1 h2 h3 h4 h5 w4 hall
      match i, ho with
      | 0, ho =>
        cases ho
        have t6 := ha.old 6 (by kernel_rfl)
        simp at t6
        go_simp
        first | exact HW.out | exact ⟨rfl, HW.out⟩
      | 1, ho =>
        cases ho
        have t7 := ha.old 7 (by kernel_rfl)
        simp at t7
        go_simp
        first | exact HW.out | exact ⟨rfl, HW.out⟩
      | 2, ho =>
        cases ho
        have t6 := ha.old 6 (by kernel_rfl)
        simp at t6
        have t38 := ha.new 0 (g2 ⟨0, .data⟩ (by simp) rfl) (d := 38) rfl rfl (by simp)
        simp at t38
        have HX := Lib.hid (HW.out.store1 hne)
        go_simp
        first | exact HX.out | exact ⟨rfl, HX.out⟩
      | 3, ho =>
        cases ho
        have t7 := ha.old 7 (by kernel_rfl)
        simp at t7
        have t39 := ha.new 1 (g2 ⟨1, .data⟩ (by simp) rfl) (d := 39) rfl rfl (by simp)
        simp at t39
        have HX := Lib.hid (HW.out.store2 hne)
        go_simp
        first | exact HX.out | exact ⟨rfl, HX.out⟩
    case hend =>
      intro listed a w hall2 ha hw
      obtain ⟨w0, w1, w2, w3, w4, w5⟩ := hw
      have t6 := ha.old 6 (by kernel_rfl)
      simp at t6
      have t7 := ha.old 7 (by kernel_rfl)
      simp at t7
      have hdf := ha.defers
      simp only at hdf
      have hKw := (w0.block Db (Array.getElem?_eq_some_iff.1 hK).1 hnD).trans hK
      obtain ⟨atm, adf⟩ := a
      simp only at hdf t6 t7
      subst hdf
      refine (by assumption : ∀ a w, Code.wpIn _ _ _ Code.ret _ a w → _) _ w ?_
      refine wpIn_ret ?_
      refine leave_mark (v := .tuple #[.agg #[.int .i64 lo, .int .i64 hi], .bool fd]) hKw fun C hC hCT => ?_
      have q0 := tcell hCT (fun h => hnD1 h.symm) w1
      have q1 := tcell hCT (fun h => hnD1 h.symm) w2
      have q2 := tcell hCT (fun h => hnD2 h.symm) w3
      refine ⟨by simp [results, Tryz.results75, go_sem, q0, q1, q2, t6, t7], rfl, ?_⟩
      exact Below.trans (Below.trans hkB (w0.toBelow (n := W.heap.size) (by rintro b (rfl | rfl) <;> omega) (by have := hkB.size; omega))) (hCT.toBelow (by rintro b rfl; omega) (by have := hkB.size; have := w0.size; omega))
end Go.Proofs.YthkcgengohoboaaGreatDoor
set_option linter.all false
namespace Go.Proofs.YthkcgengohoboaaGreatDoor
open Go.RowKit Go.Sort Go.Rg
set_option maxRecDepth 100000
attribute [local go_sem] Oper.semAt_some

def ErrP (B : Book) (cond : Bool) (err : Int) : Prop := (err = 20 ∧ B.okB = false) ∨ (err = 21 ∧ B.okB = true ∧ cond = false) ∨ (err = 22 ∧ B.okB = true ∧ cond = true ∧ ¬ Can B)
/-- what is known while 'c, e := open(b, cond)' is carried out, in whatever order -/
structure OpenReg (W0 : World) (B : Book) (cond : Bool) (v : Value) (err : Int) (p : Nat) (o4 o8 o9 : Bool) (w : World) : Prop where
  kept : Kept W0 w
  box : o8 = true → W0.heap.size ≤ p ∧ (∃ f0 f1 f2 f3, w.cell? ⟨p, 0, none⟩ = some f0 ∧ w.cell? ⟨p, 1, none⟩ = some f1 ∧ w.cell? ⟨p, 2, none⟩ = some f2 ∧ w.cell? ⟨p, 3, none⟩ = some f3) ∧ ∀ i, w.frozen? ⟨p, i, none⟩ = false
  res : o4 = true → (err = 0 ∧ B.okB = true ∧ cond = true ∧ Can B ∧ ∃ (c : Choir) (S : Nat → Prop), c.B = B ∧ v = c.val ∧ ChoirAt S w c ∧ (∀ b, S b → b < w.heap.size) ∧ (o8 = true → ¬ S p)) ∨ (v = zeroChoir ∧ ErrP B cond err)
  put : o9 = true → o8 = true ∧ ∃ x0 x1 x2 x3, v = .agg #[x0, x1, x2, x3] ∧ w.cell? ⟨p, 0, none⟩ = some x0 ∧ w.cell? ⟨p, 1, none⟩ = some x1 ∧ w.cell? ⟨p, 2, none⟩ = some x2 ∧ w.cell? ⟨p, 3, none⟩ = some x3
section
variable {W0 : World} {B : Book} {cond : Bool} {v : Value} {err : Int} {p : Nat} {o4 o8 o9 : Bool} {w w' : World}
theorem OpenReg.go (h : OpenReg W0 B cond v err p o4 o8 o9 w) (k : Kept w w') : OpenReg W0 B cond v err p o4 o8 o9 w' where
  kept := kept_trans h.kept k
  box := fun e => by
    obtain ⟨h1, ⟨f0, f1, f2, f3, a0, a1, a2, a3⟩, h3⟩ := h.box e
    exact ⟨h1, ⟨f0, f1, f2, f3, kcell k a0, kcell k a1, kcell k a2, kcell k a3⟩, fun i => ((kturns k (fun _ => False)).frozen (Go.Ai.lt_of_cell a0) (fun h => h)).trans (h3 i)⟩
  res := fun e => (h.res e).imp (fun ⟨h1, h2, h3, h4, c, S, h5, h6, h7, h8, h9⟩ => ⟨h1, h2, h3, h4, c, S, h5, h6, h7.turns (kturns k (fun _ => False)) (fun _ _ h => h), fun b hb => Nat.lt_of_lt_of_le (h8 b hb) k.size, h9⟩) id
  put := fun e => by
    obtain ⟨h0, x0, x1, x2, x3, e1, a0, a1, a2, a3⟩ := h.put e
    exact ⟨h0, x0, x1, x2, x3, e1, kcell k a0, kcell k a1, kcell k a2, kcell k a3⟩
theorem OpenReg.opened (h : OpenReg W0 B cond v err p o4 o8 o9 w) (n0 : Nat) (hn : n0 ≤ W0.heap.size) (h9 : o9 = false) {e : Ending} (ho : OpenP B cond n0 w e w') :
    ∃ v' err', e = .returned (.tuple #[v', .int .i64 err']) ∧ OpenReg W0 B cond v' err' p true o8 o9 w' := by
  obtain ⟨v', err', rfl, k, hr⟩ := ho
  have hb := (h.go k).box
  refine ⟨v', err', rfl, kept_trans h.kept k, hb, fun _ => ?_, fun e => by rw [h9] at e; cases e⟩
  rcases hr with ⟨h1, h2, h3, h4, c, h5, h6, h7⟩ | hz
  · refine .inl ⟨h1, h2, h3, h4, c, _, h5, h6, h7, fun b hb => hb.1, fun e8 hS => ?_⟩
    obtain ⟨b1, ⟨f0, _, _, _, a0, _⟩, _⟩ := h.box e8
    have := Go.Ai.lt_of_cell a0
    have := hS.2
    omega
  · exact .inr hz
theorem OpenReg.boxed (h : OpenReg W0 B cond v err p o4 false o9 w) (h9 : o9 = false) :
    OpenReg W0 B cond v err w.heap.size o4 true o9 (w.alloc (Obj.cells #[.slice none 0 0, .int .i64 0, .slice none 0 0, .map none] 93)) := by
  have k : Kept w (w.alloc (Obj.cells #[.slice none 0 0, .int .i64 0, .slice none 0 0, .map none] 93)) := kept_alloc (kept_refl _) _
  refine ⟨kept_trans h.kept k, fun _ => ⟨h.kept.size, ⟨.slice none 0 0, .int .i64 0, .slice none 0 0, .map none, by go_simp, by go_simp, by go_simp, by go_simp⟩, fun i => by go_simp⟩, fun e4 => ?_, fun e => by rw [h9] at e; cases e⟩
  · rcases h.res e4 with ⟨h1, h2, h3, h4, c, S, h5, h6, h7, h8, _⟩ | hz
    · exact .inl ⟨h1, h2, h3, h4, c, S, h5, h6, h7.turns (kturns k (fun _ => False)) (fun _ _ h => h), fun b hb => Nat.lt_of_lt_of_le (h8 b hb) k.size, fun _ hS => by have := h8 _ hS; omega⟩
    · exact .inr hz
theorem OpenReg.stored {x0 x1 x2 x3 : Value} (h : OpenReg W0 B cond v err p o4 true false w) (hv : v = .agg #[x0, x1, x2, x3]) :
    OpenReg W0 B cond v err p o4 true true ((((w.setCell ⟨p, 0, none⟩ x0).setCell ⟨p, 1, none⟩ x1).setCell ⟨p, 2, none⟩ x2).setCell ⟨p, 3, none⟩ x3) := by
  obtain ⟨hb, ⟨f0, f1, f2, f3, a0, a1, a2, a3⟩, hf⟩ := h.box rfl
  have hT : Turns (fun b => b = p) w ((((w.setCell ⟨p, 0, none⟩ x0).setCell ⟨p, 1, none⟩ x1).setCell ⟨p, 2, none⟩ x2).setCell ⟨p, 3, none⟩ x3) := Turns.setCell (T := fun b => b = p) (Turns.setCell (T := fun b => b = p) (Turns.setCell (T := fun b => b = p) (Turns.setCell (T := fun b => b = p) (Turns.refl _ _) rfl _ _) rfl _ _) rfl _ _) rfl _ _
  have c0 : ((((w.setCell ⟨p, 0, none⟩ x0).setCell ⟨p, 1, none⟩ x1).setCell ⟨p, 2, none⟩ x2).setCell ⟨p, 3, none⟩ x3).cell? ⟨p, 0, none⟩ = some x0 := by
    rw [cell_set_ne (by omega), cell_set_ne (by omega), cell_set_ne (by omega), cell_set_eq a0]
  have c1 : ((((w.setCell ⟨p, 0, none⟩ x0).setCell ⟨p, 1, none⟩ x1).setCell ⟨p, 2, none⟩ x2).setCell ⟨p, 3, none⟩ x3).cell? ⟨p, 1, none⟩ = some x1 := by
    rw [cell_set_ne (by omega), cell_set_ne (by omega)]; exact cell_set_eq ((cell_set_ne (by omega)).trans a1)
  have c2 : ((((w.setCell ⟨p, 0, none⟩ x0).setCell ⟨p, 1, none⟩ x1).setCell ⟨p, 2, none⟩ x2).setCell ⟨p, 3, none⟩ x3).cell? ⟨p, 2, none⟩ = some x2 := by
    rw [cell_set_ne (by omega)]; exact cell_set_eq ((cell_set_ne (by omega)).trans ((cell_set_ne (by omega)).trans a2))
  have c3 : ((((w.setCell ⟨p, 0, none⟩ x0).setCell ⟨p, 1, none⟩ x1).setCell ⟨p, 2, none⟩ x2).setCell ⟨p, 3, none⟩ x3).cell? ⟨p, 3, none⟩ = some x3 :=
    cell_set_eq ((cell_set_ne (by omega)).trans ((cell_set_ne (by omega)).trans ((cell_set_ne (by omega)).trans a3)))
  refine ⟨Below.trans h.kept (hT.toBelow (n := W0.heap.size) (by rintro b rfl; exact hb) h.kept.size), fun _ => ⟨hb, ⟨_, _, _, _, c0, c1, c2, c3⟩, fun i => ?_⟩, fun e4 => ?_, fun _ => ⟨rfl, _, _, _, _, hv, c0, c1, c2, c3⟩⟩
  · rw [World.frozen?_setCell, World.frozen?_setCell, World.frozen?_setCell, World.frozen?_setCell]; exact hf i
  · rcases h.res e4 with ⟨h1, h2, h3, h4, c, S, h5, h6, h7, h8, h9⟩ | hz
    · exact .inl ⟨h1, h2, h3, h4, c, S, h5, h6, h7.turns hT (fun b hb e => h9 rfl (e ▸ hb)), fun b hb => Nat.lt_of_lt_of_le (h8 b hb) hT.size, fun _ => h9 rfl⟩
    · exact .inr hz
theorem OpenReg.start (W0 : World) (B : Book) (cond : Bool) : OpenReg W0 B cond undef 0 0 false false false W0.drew :=
  ⟨kept_drew (kept_refl _), (fun e => nomatch e), (fun e => nomatch e), (fun e => nomatch e)⟩
end
def openVs (O : Nat) (pre : Nat → Value) (v : Value) (err : Int) (p : Nat) (j : Nat) : Value :=
  if j < O then pre j else match j - O with
  | 0 => .tuple #[v, .int .i64 err]
  | 1 => .tuple #[v, .int .i64 err]
  | 2 => v
  | 3 => .int .i64 err
  | 4 => .pointer (some ⟨p, 0, none⟩)
  | 6 => .int .i64 err
  | _ => undef
def StO (O : Nat) (pre : Nat → Value) (W0 : World) (B : Book) (cond : Bool) (l : List Oper) (a0 : Act) (listed : Array Bool) (a : Act) (w : World) : Prop :=
  ∃ v err p, AtSt l.toArray (openVs O pre v err p) a0 listed a ∧ OpenReg W0 B cond v err p (on listed O) (on listed (O + 4)) (on listed (O + 5)) w
section
variable {l : List Oper} {a0 a : Act} {O : Nat} {pre : Nat → Value} {W0 w w' : World} {B : Book} {cond : Bool} {listed : Array Bool} {v : Value} {err : Int} {p i : Nat} {o : Oper}
theorem dist_arr (hd : distFrom l = true) : ∀ (j k : Nat) (x y : Oper) (d : Tmp), l.toArray[j]? = some x → l.toArray[k]? = some y → x.dst = some d → y.dst = some d → j = k :=
  fun j k x y d hj hk hx hy => distFrom_get l hd j k x y d (by simpa using hj) (by simpa using hk) hx hy
theorem StO.start : StO O pre W0 B cond l a0 (Array.replicate l.length false) a0 W0.drew := by
  have no : ∀ j, on (Array.replicate l.length false) j = false := fun j => by
    unfold on
    simp only [Array.getD_eq_getD_getElem?, Array.getElem?_replicate]
    split <;> simp
  refine ⟨undef, 0, 0, ⟨rfl, rfl, fun j o d hj => ?_, fun t _ => rfl⟩, by rw [no, no, no]; exact OpenReg.start W0 B cond⟩
  have := no j
  unfold on at this
  rw [this] at hj; cases hj
theorem StO.same (hd : distFrom l = true) (ha : AtSt l.toArray (openVs O pre v err p) a0 listed a) (hw : OpenReg W0 B cond v err p (on listed O) (on listed (O + 4)) (on listed (O + 5)) w) (ho : l[i]? = some o) (h1 : listed.getD i true = false)
    (i4 : i ≠ O) (i8 : i ≠ O + 4) (i9 : i ≠ O + 5) (k : Kept w w') : StO O pre W0 B cond l a0 (listed.setIfInBounds i true) (a.put o.dst (openVs O pre v err p i)) w' :=
  ⟨v, err, p, ha.put (by simpa using ho) h1 (dist_arr hd), by rw [on_set (Ne.symm i4), on_set (Ne.symm i8), on_set (Ne.symm i9)]; exact hw.go k⟩
theorem StO.opened (hd : distFrom l = true) (ha : AtSt l.toArray (openVs O pre v err p) a0 listed a) (hl : listed.size = l.length) (ho : l[O]? = some o) (h1 : listed.getD O true = false)
    (h5 : on listed (O + 1) = false) (h6 : on listed (O + 2) = false) (h7 : on listed (O + 3) = false) (h9 : on listed (O + 5) = false) (h10 : on listed (O + 6) = false) {v' : Value} {err' : Int} (hw' : OpenReg W0 B cond v' err' p true (on listed (O + 4)) (on listed (O + 5)) w') :
    StO O pre W0 B cond l a0 (listed.setIfInBounds O true) (a.put o.dst (.tuple #[v', .int .i64 err'])) w' := by
  have hs : ∀ j, listed.getD j false = true → openVs O pre v err p j = openVs O pre v' err' p j := fun j hj => by
    have h4 := on_no h1
    unfold on at h4 h5 h6 h7 h9 h10
    unfold openVs
    by_cases hjo : j < O
    · rw [if_pos hjo, if_pos hjo]
    · rw [if_neg hjo, if_neg hjo]
      obtain ⟨k, rfl⟩ : ∃ k, j = O + k := ⟨j - O, by omega⟩
      rw [Nat.add_sub_cancel_left]
      match k with
      | 0 => rw [Nat.add_zero, h4] at hj; cases hj
      | 1 => rw [h5] at hj; cases hj
      | 2 => rw [h6] at hj; cases hj
      | 3 => rw [h7] at hj; cases hj
      | 4 => rfl
      | 5 => rfl
      | 6 => rw [h10] at hj; cases hj
      | n + 7 => rfl
  have hz : O < listed.size := by rw [hl]; exact (List.getElem?_eq_some_iff.1 ho).1
  have hv : openVs O pre v' err' p O = .tuple #[v', .int .i64 err'] := by simp [openVs]
  have := (ha.swap hs).put (i := O) (by simpa using ho) h1 (dist_arr hd)
  rw [hv] at this
  exact ⟨v', err', p, this, by rw [on_self hz, on_set (by omega), on_set (by omega)]; exact hw'⟩
theorem StO.boxed (hd : distFrom l = true) (ha : AtSt l.toArray (openVs O pre v err p) a0 listed a) (hw : OpenReg W0 B cond v err p (on listed O) (on listed (O + 4)) (on listed (O + 5)) w) (hl : listed.size = l.length) (ho : l[O + 4]? = some o) (h1 : listed.getD (O + 4) true = false) (h9 : on listed (O + 5) = false) :
    StO O pre W0 B cond l a0 (listed.setIfInBounds (O + 4) true) (a.put o.dst (.pointer (some ⟨w.heap.size, 0, none⟩))) (w.alloc (Obj.cells #[.slice none 0 0, .int .i64 0, .slice none 0 0, .map none] 93)) := by
  have hs : ∀ j, listed.getD j false = true → openVs O pre v err p j = openVs O pre v err w.heap.size j := fun j hj => by
    have h8 := on_no h1
    unfold on at h8
    by_cases e : j = O + 4
    · subst e; rw [h8] at hj; cases hj
    · unfold openVs
      by_cases hjo : j < O
      · rw [if_pos hjo, if_pos hjo]
      · rw [if_neg hjo, if_neg hjo]
        split <;> first | rfl | (exfalso; omega)
  have hz : O + 4 < listed.size := by rw [hl]; exact (List.getElem?_eq_some_iff.1 ho).1
  have h8 := on_no h1
  rw [h8] at hw
  have hv : openVs O pre v err w.heap.size (O + 4) = .pointer (some ⟨w.heap.size, 0, none⟩) := by
    unfold openVs
    rw [if_neg (by omega), Nat.add_sub_cancel_left]
    rfl
  have := (ha.swap hs).put (i := O + 4) (by simpa using ho) h1 (dist_arr hd)
  rw [hv] at this
  exact ⟨v, err, w.heap.size, this, by rw [on_self hz, on_set (by omega), on_set (by omega)]; exact hw.boxed h9⟩
theorem StO.stored (hd : distFrom l = true) (ha : AtSt l.toArray (openVs O pre v err p) a0 listed a) (hw : OpenReg W0 B cond v err p (on listed O) (on listed (O + 4)) (on listed (O + 5)) w) (hl : listed.size = l.length) (ho : l[O + 5]? = some o) (hno : o.dst = none) (h1 : listed.getD (O + 5) true = false) (h8 : on listed (O + 4) = true)
    {x0 x1 x2 x3 : Value} (hv : v = .agg #[x0, x1, x2, x3]) :
    StO O pre W0 B cond l a0 (listed.setIfInBounds (O + 5) true) a ((((w.setCell ⟨p, 0, none⟩ x0).setCell ⟨p, 1, none⟩ x1).setCell ⟨p, 2, none⟩ x2).setCell ⟨p, 3, none⟩ x3) := by
  have hz : O + 5 < listed.size := by rw [hl]; exact (List.getElem?_eq_some_iff.1 ho).1
  have h9 := on_no h1
  rw [h8, h9] at hw
  have := ha.put (i := O + 5) (by simpa using ho) h1 (dist_arr hd)
  rw [hno] at this
  exact ⟨v, err, p, this, by rw [on_self hz, on_set (by omega), on_set (by omega), h8]; exact hw.stored hv⟩
/-- Nothing behind the opening is over where it is not. -/
theorem open_first (hcl : Closed l listed) (h1 : listed.getD O true = false)
    (e1 : ∃ x, l[O + 1]? = some x ∧ ∃ e ∈ x.after, Region.binds .any e = true ∧ e.on = O) (e2 : ∃ x, l[O + 2]? = some x ∧ ∃ e ∈ x.after, Region.binds .any e = true ∧ e.on = O + 1) (e3 : ∃ x, l[O + 3]? = some x ∧ ∃ e ∈ x.after, Region.binds .any e = true ∧ e.on = O + 1)
    (e5 : ∃ x, l[O + 5]? = some x ∧ ∃ e ∈ x.after, Region.binds .any e = true ∧ e.on = O + 2) (e6 : ∃ x, l[O + 6]? = some x ∧ ∃ e ∈ x.after, Region.binds .any e = true ∧ e.on = O + 3) :
    on listed (O + 1) = false ∧ on listed (O + 2) = false ∧ on listed (O + 3) = false ∧ on listed (O + 5) = false ∧ on listed (O + 6) = false := by
  have step : ∀ {j k : Nat}, (∃ x, l[j]? = some x ∧ ∃ e ∈ x.after, Region.binds .any e = true ∧ e.on = k) → on listed k = false → on listed j = false := by
    rintro j k ⟨x, hx, e, he, hb, rfl⟩ hk
    cases h : on listed j with
    | false => rfl
    | true => rw [hcl j x hx h e he hb] at hk; cases hk
  have n0 := on_no h1
  have n1 := step e1 n0
  have n2 := step e2 n1
  have n3 := step e3 n1
  exact ⟨n1, n2, n3, step e5 n2, step e6 n3⟩
end
end Go.Proofs.YthkcgengohoboaaGreatDoor
set_option linter.all false
namespace Go.Proofs.YthkcgengohoboaaGreatDoor
open Go.RowKit Go.Sort Go.Rg
set_option maxRecDepth 100000

theorem bothEnds1_any (c : Choir) (boy which : Nat) (hw : which < 5) (n0 n1 n2 n3 n4 : Int) (bw : Nat) (A : World) (h : A.cell? ⟨bw, 0, none⟩ = some (.int .i64 (which : Int))) :
    Calls Tryz.prog 121 #[encT c boy [n0, n1, n2, n3, n4], .pointer (some ⟨bw, 0, none⟩)] A fun e C => e = .returned (.tuple #[.int .i64 ([n0, n1, n2, n3, n4].getD which 0), .bool true]) ∧ Kept A C := by
  simp only [encT, List.map_cons, List.map_nil, List.append_toArray, List.cons_append, List.nil_append, Choir.k0, Choir.k2, Choir.m]
  have hz := Go.Ai.lt_of_cell h
  rcases (show which = 0 ∨ which = 1 ∨ which = 2 ∨ which = 3 ∨ which = 4 by omega) with rfl | rfl | rfl | rfl | rfl
  all_goals
    go_enter Tryz.func121, Tryz.ntmps121
    go_wp2
    refine bodyPost_ret (by simp [results, Tryz.results121, go_sem]) rfl ⟨rfl, kept_alloc (kept_refl _) _⟩
theorem bothEnds_tells (c : Choir) (boy which : Nat) (hw : which < 5) (x : Boy) (bw : Nat) (W : World) (h : W.cell? ⟨bw, 0, none⟩ = some (.int .i64 (which : Int))) :
    Tells c boy x W 121 #[.pointer (some ⟨bw, 0, none⟩)] (fun n => (n.getD which 0, true)) :=
  ⟨enters_of Tryz.func121 (by kernel_rfl) rfl, fun A n hA hn => by
    obtain ⟨n0, n1, n2, n3, n4, rfl⟩ := truths_len hn
    exact bothEnds1_any c boy which hw n0 n1 n2 n3 n4 bw A (kcell hA h)⟩
end Go.Proofs.YthkcgengohoboaaGreatDoor
set_option linter.all false
namespace Go.Proofs.YthkcgengohoboaaGreatDoor
open Go.RowKit Go.Sort Go.Rg
set_option maxRecDepth 100000
attribute [local go_sem] Oper.semAt_some

/-- both ends of a number of a boy, or the error of trials that cannot all be right -/
def BothP (B : Book) (boy : Nat) (f : List Int → Int × Bool) (W : World) (e : Ending) (C : World) : Prop :=
  ∃ lo hi err, e = .returned (.tuple #[.agg #[.int .i64 lo, .int .i64 hi], .int .i64 err]) ∧ Kept W C ∧
    ((err = 0 ∧ Can B ∧ ∃ x, B.boys[boy]? = some x ∧ lo = (spanOf f (B.truths boy x)).1 ∧ hi = (spanOf f (B.truths boy x)).2.1) ∨ (err = 22 ∧ ¬ Can B ∧ lo = 0 ∧ hi = 0))

set_option maxHeartbeats 4000000 in
theorem bothEnds_any (p q : Option Addr) (cap capt : Nat) (B : Book) (boy : Nat) (which : Nat) (hw5 : which < 5) (W : World) (h : BookAt W p q cap capt B) (hg : Nothing W) (hok0 : B.okB = true) (hb : boy < B.boys.length) :
    Calls Tryz.prog 64 #[B.val p q cap capt, .int .i64 (boy : Int), .int .i64 (which : Int)] W (BothP B boy (fun n => (n.getD which 0, true)) W) := by
  refine callsIn_wide.1 (callsIn_of_wp (n := 0) Tryz.func64 rfl trivial ?_ rfl)
  simp only [Tryz.ntmps64, List.size_toArray, List.length_cons, List.length_nil, Nat.reduceAdd, Nat.reduceSub, Array.replicate_succ, Array.replicate_zero, List.push_toArray, List.append_toArray, List.nil_append, List.cons_append]
  unfold Book.val
  have hnb := h.nb
  have hboyT : inB (boy : Int) 0 (B.boys.length - 1) = true := by simp [inB]; omega
  gi_wp2_with fail
  have hk0 : Kept W (((W.alloc (Obj.cells #[.slice p B.boys.length cap, .int .i64 B.weeks, .slice q B.trials.length capt] 25)).alloc (Obj.cells #[.int .i64 (which : Int)] 3)).alloc (Obj.cells #[.int .i64 0, .int .i64 0] 32)) := kept_alloc (kept_alloc (kept_alloc (kept_refl _) _) _) _
  have a0c : (((W.alloc (Obj.cells #[.slice p B.boys.length cap, .int .i64 B.weeks, .slice q B.trials.length capt] 25)).alloc (Obj.cells #[.int .i64 (which : Int)] 3)).alloc (Obj.cells #[.int .i64 0, .int .i64 0] 32)).cell? ⟨W.heap.size, 0, none⟩ = some (.slice p B.boys.length cap) := by go_simp
  have a1c : (((W.alloc (Obj.cells #[.slice p B.boys.length cap, .int .i64 B.weeks, .slice q B.trials.length capt] 25)).alloc (Obj.cells #[.int .i64 (which : Int)] 3)).alloc (Obj.cells #[.int .i64 0, .int .i64 0] 32)).cell? ⟨W.heap.size, 1, none⟩ = some (.int .i64 B.weeks) := by go_simp
  have a2c : (((W.alloc (Obj.cells #[.slice p B.boys.length cap, .int .i64 B.weeks, .slice q B.trials.length capt] 25)).alloc (Obj.cells #[.int .i64 (which : Int)] 3)).alloc (Obj.cells #[.int .i64 0, .int .i64 0] 32)).cell? ⟨W.heap.size, 2, none⟩ = some (.slice q B.trials.length capt) := by go_simp
  have wc : (((W.alloc (Obj.cells #[.slice p B.boys.length cap, .int .i64 B.weeks, .slice q B.trials.length capt] 25)).alloc (Obj.cells #[.int .i64 (which : Int)] 3)).alloc (Obj.cells #[.int .i64 0, .int .i64 0] 32)).cell? ⟨W.heap.size + 1, 0, none⟩ = some (.int .i64 (which : Int)) := by go_simp
  have s0c : (((W.alloc (Obj.cells #[.slice p B.boys.length cap, .int .i64 B.weeks, .slice q B.trials.length capt] 25)).alloc (Obj.cells #[.int .i64 (which : Int)] 3)).alloc (Obj.cells #[.int .i64 0, .int .i64 0] 32)).cell? ⟨W.heap.size + 1 + 1, 0, none⟩ = some (.int .i64 0) := by go_simp
  have s1c : (((W.alloc (Obj.cells #[.slice p B.boys.length cap, .int .i64 B.weeks, .slice q B.trials.length capt] 25)).alloc (Obj.cells #[.int .i64 (which : Int)] 3)).alloc (Obj.cells #[.int .i64 0, .int .i64 0] 32)).cell? ⟨W.heap.size + 1 + 1, 1, none⟩ = some (.int .i64 0) := by go_simp
  have sf : ∀ i, (((W.alloc (Obj.cells #[.slice p B.boys.length cap, .int .i64 B.weeks, .slice q B.trials.length capt] 25)).alloc (Obj.cells #[.int .i64 (which : Int)] 3)).alloc (Obj.cells #[.int .i64 0, .int .i64 0] 32)).frozen? ⟨W.heap.size + 1 + 1, i, none⟩ = false := by intro i; go_simp
  generalize (((W.alloc (Obj.cells #[.slice p B.boys.length cap, .int .i64 B.weeks, .slice q B.trials.length capt] 25)).alloc (Obj.cells #[.int .i64 (which : Int)] 3)).alloc (Obj.cells #[.int .i64 0, .int .i64 0] 32)) = W0 at *
  refine wpIn_region_invL (StO 4 (fun j => match j with | 0 => (.agg #[.slice p B.boys.length cap, .int .i64 B.weeks, .slice q B.trials.length capt]) | 1 => (.agg #[.slice p B.boys.length cap, .int .i64 B.weeks, .slice q B.trials.length capt]) | 2 => .int .i64 (boy : Int) | _ => .bool true) W0 B true) (by kernel_rfl) (by kernel_rfl) StO.start ?hop ?hend
  case hop =>
    rintro i o listed a w hl ho h1 h2 hcl ⟨v, err, pp, ha, hw⟩
    have hi11 : i < 11 := (List.getElem?_eq_some_iff.1 ho).1
    match i, ho with
    | 0, ho =>
      have st := StO.same (by kernel_rfl) ha hw ho h1 (by omega) (by omega) (by omega) (kept_refl w)
      have ST := Lib.hid st; clear st
      cases ho
      rw [if_pos (by rfl)]
      have t3 := ha.old 3 (by kernel_rfl)
      simp at t3
      have r0 := kcell hw.kept a0c
      have r1 := kcell hw.kept a1c
      have r2 := kcell hw.kept a2c
      go_simp
      exact ST.out
    | 1, ho =>
      have st := StO.same (by kernel_rfl) ha hw ho h1 (by omega) (by omega) (by omega) (kept_refl w)
      have ST := Lib.hid st; clear st
      cases ho
      rw [if_pos (by rfl)]
      have t3 := ha.old 3 (by kernel_rfl)
      simp at t3
      have r0 := kcell hw.kept a0c
      have r1 := kcell hw.kept a1c
      have r2 := kcell hw.kept a2c
      go_simp
      exact ST.out
    | 2, ho =>
      have st := StO.same (by kernel_rfl) ha hw ho h1 (by omega) (by omega) (by omega) (kept_refl w)
      have ST := Lib.hid st; clear st
      cases ho
      rw [if_pos (by rfl)]
      have t1 := ha.old 1 (by kernel_rfl)
      simp at t1
      go_simp
      exact ST.out
    | 3, ho =>
      have st := fun w' (k : Kept w w') => StO.same (by kernel_rfl) ha hw ho h1 (by omega) (by omega) (by omega) k
      have ST := Lib.hid st; clear st
      cases ho
      rw [if_pos (by rfl)]
      have t15 := ha.new 1 (h2 ⟨1, .data⟩ (by simp) rfl) (d := 15) rfl rfl (by simp)
      simp [openVs] at t15
      have t16 := ha.new 2 (h2 ⟨2, .data⟩ (by simp) rfl) (d := 16) rfl rfl (by simp)
      simp [openVs] at t16
      have hcall := isBoy_any p B.boys.length cap (.int .i64 B.weeks) (.slice q B.trials.length capt) (boy : Int) w hnb
      rw [hboyT] at hcall
      go_simp
      refine ⟨trivial, rfl, (callsIn_wide.2 hcall).mono ?_⟩
      rintro e w' ⟨rfl, hk⟩
      exact ST.out _ hk
    | 4, ho =>
      obtain ⟨n5, n6, n7, n9, n10⟩ := open_first hcl h1 ⟨_, rfl, ⟨4, .data⟩, by simp, rfl, rfl⟩ ⟨_, rfl, ⟨5, .data⟩, by simp, rfl, rfl⟩ ⟨_, rfl, ⟨5, .data⟩, by simp, rfl, rfl⟩ ⟨_, rfl, ⟨6, .data⟩, by simp, rfl, rfl⟩ ⟨_, rfl, ⟨7, .data⟩, by simp, rfl, rfl⟩
      have st := fun v' err' w' (k : OpenReg W0 B true v' err' pp true (on listed 8) (on listed 9) w') => StO.opened (by kernel_rfl) ha hl ho h1 n5 n6 n7 n9 n10 k
      have ST := Lib.hid st; clear st
      cases ho
      rw [if_pos (by rfl)]
      have t14 := ha.new 0 (h2 ⟨0, .data⟩ (by simp) rfl) (d := 14) rfl rfl (by simp)
      simp [openVs] at t14
      have t17 := ha.new 3 (h2 ⟨3, .data⟩ (by simp) rfl) (d := 17) rfl rfl (by simp)
      simp [openVs] at t17
      have hcall := open_any p q cap capt B true W w h (kept_trans hk0 hw.kept) (hg.kept (kept_trans hk0 hw.kept))
      unfold Book.val at hcall
      have HOP := Lib.hid (fun e w' => hw.opened (e := e) (w' := w') W.heap.size hk0.size n9)
      go_simp
      refine ⟨trivial, rfl, (callsIn_wide.2 hcall).mono ?_⟩
      intro e w' hop
      obtain ⟨v', err', rfl, hr⟩ := HOP.out e w' hop
      exact ST.out v' err' w' hr
    | 5, ho =>
      have st := StO.same (by kernel_rfl) ha hw ho h1 (by omega) (by omega) (by omega) (kept_refl w)
      have ST := Lib.hid st; clear st
      cases ho
      rw [if_pos (by rfl)]
      have t18 := ha.new 4 (h2 ⟨4, .data⟩ (by simp) rfl) (d := 18) rfl rfl (by simp)
      simp [openVs] at t18
      go_simp
      exact ST.out
    | 6, ho =>
      have st := StO.same (by kernel_rfl) ha hw ho h1 (by omega) (by omega) (by omega) (kept_refl w)
      have ST := Lib.hid st; clear st
      cases ho
      rw [if_pos (by rfl)]
      have t13 := ha.new 5 (h2 ⟨5, .data⟩ (by simp) rfl) (d := 13) rfl rfl (by simp)
      simp [openVs] at t13
      go_simp
      exact ST.out
    | 7, ho =>
      have st := StO.same (by kernel_rfl) ha hw ho h1 (by omega) (by omega) (by omega) (kept_refl w)
      have ST := Lib.hid st; clear st
      cases ho
      rw [if_pos (by rfl)]
      have t13 := ha.new 5 (h2 ⟨5, .data⟩ (by simp) rfl) (d := 13) rfl rfl (by simp)
      simp [openVs] at t13
      go_simp
      exact ST.out
    | 8, ho =>
      have n9 : on listed 9 = false := by
        cases hb : on listed 9 with
        | false => rfl
        | true => have := hcl 9 _ rfl hb ⟨8, .data⟩ (by simp) rfl; rw [on_no h1] at this; cases this
      have st := StO.boxed (by kernel_rfl) ha hw hl ho h1 n9
      have ST := Lib.hid st; clear st
      cases ho
      rw [if_pos (by rfl)]
      go_simp
      exact ST.out
    | 9, ho =>
      have y8 : on listed 8 = true := h2 ⟨8, .data⟩ (by cases ho; simp) rfl
      have y4 : on listed 4 = true := h2 ⟨4, .chain⟩ (by cases ho; simp) rfl
      have t8 := ha.new 8 y8 (d := 8) rfl rfl (by simp)
      simp [openVs] at t8
      have t19 := ha.new 6 (h2 ⟨6, .data⟩ (by cases ho; simp) rfl) (d := 19) rfl rfl (by simp)
      simp [openVs] at t19
      obtain ⟨hbp, ⟨f0, f1, f2, f3, b0, b1, b2, b3⟩, hbf⟩ := hw.box y8
      have bf0 := hbf 0
      have bf1 := hbf 1
      have bf2 := hbf 2
      have bf3 := hbf 3
      rcases hw.res y4 with ⟨_, _, _, _, c, S, hcB, rfl, _⟩ | ⟨rfl, _⟩
      · clear hcB
        have st := StO.stored (by kernel_rfl) ha hw hl ho (by cases ho; rfl) h1 y8 (show c.val = _ from rfl)
        have ST := Lib.hid st; clear st
        cases ho
        rw [if_pos (by rfl)]
        unfold Choir.val at t19
        clear hbf
        go_simp
        exact ST.out
      · have st := StO.stored (by kernel_rfl) ha hw hl ho (by cases ho; rfl) h1 y8 (show zeroChoir = _ from rfl)
        have ST := Lib.hid st; clear st
        cases ho
        rw [if_pos (by rfl)]
        unfold zeroChoir at t19
        clear hbf
        go_simp
        exact ST.out
    | 10, ho =>
      have st := StO.same (by kernel_rfl) ha hw ho h1 (by omega) (by omega) (by omega) (kept_refl w)
      have ST := Lib.hid st; clear st
      cases ho
      rw [if_pos (by rfl)]
      have t20 := ha.new 7 (h2 ⟨7, .data⟩ (by simp) rfl) (d := 20) rfl rfl (by simp)
      simp [openVs] at t20
      go_simp
      exact ST.out
  case hend =>
    rintro listed a w hall ⟨v, err, pp, ha, hw⟩
    rw [show on listed 4 = true from hall 4 (by simp), show on listed 8 = true from hall 8 (by simp), show on listed 9 = true from hall 9 (by simp)] at hw
    obtain ⟨y, hy, hae⟩ := ha.lit (n := 35) rfl
    have y1 := (hy 1).symm.trans (ha.old 1 (by kernel_rfl))
    have y5 := (hy 5).symm.trans (ha.old 5 (by kernel_rfl))
    have y6 := (hy 6).symm.trans (ha.old 6 (by kernel_rfl))
    have y7 := (hy 7).symm.trans (ha.old 7 (by kernel_rfl))
    have y8 := (hy 8).symm.trans (ha.new 8 (hall 8 (by simp)) (d := 8) rfl rfl (by simp))
    have y9 := (hy 9).symm.trans (ha.new 10 (hall 10 (by simp)) (d := 9) rfl rfl (by simp))
    simp at y1 y5 y6 y7
    simp [openVs] at y8 y9
    simp only [List.range, List.range.loop, List.map] at hae
    rw [y1, y5, y6, y7, y8, y9] at hae
    subst hae
    clear ha hy y1 y5 y6 y7 y8 y9
    refine (by assumption : ∀ a w, Code.wpIn _ _ _ _ _ a w → _) _ w ?_
    have wk := kcell hw.kept wc
    have s0 := kcell hw.kept s0c
    have s1 := kcell hw.kept s1c
    have sf0 : w.frozen? ⟨W.heap.size + 1 + 1, 0, none⟩ = false := ((kturns hw.kept (fun _ => False)).frozen (Go.Ai.lt_of_cell s0c) (fun h => h)).trans (sf 0)
    have sf1 : w.frozen? ⟨W.heap.size + 1 + 1, 1, none⟩ = false := ((kturns hw.kept (fun _ => False)).frozen (Go.Ai.lt_of_cell s0c) (fun h => h)).trans (sf 1)
    obtain ⟨_, x0, x1, x2, x3, hv, b0, b1, b2, b3⟩ := hw.put rfl
    rcases hw.res rfl with ⟨rfl, hok, _, hcan, c, S, hcB, hvc, hch, hSz, hSp⟩ | ⟨rfl, herr⟩
    · subst hcB
      subst hvc
      have e4 := congrArg (fun u => match u with | Value.agg cs => cs.toList | _ => []) hv
      simp only [Choir.val, List.cons.injEq, and_true] at e4
      obtain ⟨rfl, rfl, rfl, rfl⟩ := e4
      have hzp := Go.Ai.lt_of_cell b0
      have hzw := Go.Ai.lt_of_cell wk
      have hx : c.B.boys[boy]? = some c.B.boys[boy] := List.getElem?_eq_getElem hb
      generalize c.B.boys[boy] = x at *
      generalize hBP : BothP c.B boy (fun n => (n.getD which 0, true)) W = PP at *
      gi_wp2_with fail
      have hk6 : Kept w (w.alloc (Obj.cells #[.func (.func 121) #[] #[.pointer (some ⟨W.heap.size + 1, 0, none⟩)]] 115)) := kept_alloc (kept_refl _) _
      have hcall := span_any S c boy x hx (w.alloc (Obj.cells #[.func (.func 121) #[] #[.pointer (some ⟨W.heap.size + 1, 0, none⟩)]] 115)) (hch.turns (kturns hk6 (fun _ => False)) (fun _ _ h => h)) (fun b hb => Nat.lt_of_lt_of_le (hSz b hb) hk6.size) _ _ _ (bothEnds_tells c boy which hw5 x (W.heap.size + 1) _ (kcell hk6 wk))
      unfold Choir.val at hcall
      generalize w.alloc (Obj.cells #[.func (.func 121) #[] #[.pointer (some ⟨W.heap.size + 1, 0, none⟩)]] 115) = w1 at *
      refine ⟨trivial, rfl, (callsIn_wide.2 hcall).mono ?_⟩
      rintro e w2 ⟨rfl, hk7⟩
      have hk8 := kept_trans hk6 hk7
      have s0 := kcell hk8 s0
      have s1 := kcell hk8 s1
      have sf0 : w2.frozen? ⟨W.heap.size + 1 + 1, 0, none⟩ = false := ((kturns hk8 (fun _ => False)).frozen (Go.Ai.lt_of_cell (kcell hw.kept s0c)) (fun h => h)).trans sf0
      have sf1 : w2.frozen? ⟨W.heap.size + 1 + 1, 1, none⟩ = false := ((kturns hk8 (fun _ => False)).frozen (Go.Ai.lt_of_cell (kcell hw.kept s0c)) (fun h => h)).trans sf1
      have hzs := Go.Ai.lt_of_cell s0
      generalize hsp : spanOf (fun n => (n.getD which 0, true)) (c.B.truths boy x) = st at *
      obtain ⟨lo, hi, fd⟩ := st
      simp only
      clear hcall
      gi_wp2_with fail
      have hT := Turns.setCell (T := fun b => b = W.heap.size + 1 + 1) (Turns.setCell (T := fun b => b = W.heap.size + 1 + 1) (Turns.refl _ w2) rfl 0 (.int .i64 lo)) rfl 1 (.int .i64 hi)
      have v0 := (cell_set_ne (W := w2.setCell ⟨W.heap.size + 1 + 1, 0, none⟩ (.int .i64 lo)) (b := W.heap.size + 1 + 1) (o := 1) (o' := 0) (v := .int .i64 hi) (by omega)).trans (cell_set_eq s0)
      have v1 := cell_set_eq (v := .int .i64 hi) ((cell_set_ne (W := w2) (b := W.heap.size + 1 + 1) (o := 0) (o' := 1) (v := .int .i64 lo) (by omega)).trans s1)
      have hk9 : Kept ((w2.setCell ⟨W.heap.size + 1 + 1, 0, none⟩ (.int .i64 lo)).setCell ⟨W.heap.size + 1 + 1, 1, none⟩ (.int .i64 hi)) (((w2.setCell ⟨W.heap.size + 1 + 1, 0, none⟩ (.int .i64 lo)).setCell ⟨W.heap.size + 1 + 1, 1, none⟩ (.int .i64 hi)).alloc (Obj.cells #[.int .i64 lo, .int .i64 hi] 32)) := kept_alloc (kept_refl _) _
      have u0 := kcell hk9 v0
      have u1 := kcell hk9 v1
      refine bodyPost_ret (v := .tuple #[.agg #[.int .i64 lo, .int .i64 hi], .int .i64 0]) (by simp only [results, Tryz.results64]; generalize ((w2.setCell ⟨W.heap.size + 1 + 1, 0, none⟩ (.int .i64 lo)).setCell ⟨W.heap.size + 1 + 1, 1, none⟩ (.int .i64 hi)).alloc (Obj.cells #[.int .i64 lo, .int .i64 hi] 32) = w9 at *; simp [go_sem, u0, u1]) rfl ?_
      refine ⟨lo, hi, 0, rfl, ?_, .inl ⟨rfl, hcan, x, hx, by rw [hsp], by rw [hsp]⟩⟩
      have hz0 := (kept_trans hk0 hw.kept).size
      have hz8 := hk8.size
      exact Below.trans (Below.trans (kept_trans (kept_trans hk0 hw.kept) hk8) (hT.toBelow (n := W.heap.size) (by rintro b rfl; omega) (by omega))) ⟨hk9.os, hk9.tape, hk9.output, hk9.size, fun k hk => hk9.block k (by have := hT.size; omega)⟩
    · rcases herr with ⟨_, he⟩ | ⟨_, _, he⟩ | ⟨rfl, _, _, hnc⟩
      · rw [hok0] at he; cases he
      · cases he
      gi_wp2_with fail
      have hT := Turns.setCell (T := fun b => b = W.heap.size + 1 + 1) (Turns.setCell (T := fun b => b = W.heap.size + 1 + 1) (Turns.refl _ w) rfl 0 (.int .i64 0)) rfl 1 (.int .i64 0)
      have v0 := (cell_set_ne (W := w.setCell ⟨W.heap.size + 1 + 1, 0, none⟩ (.int .i64 0)) (b := W.heap.size + 1 + 1) (o := 1) (o' := 0) (v := .int .i64 0) (by omega)).trans (cell_set_eq s0)
      have v1 := cell_set_eq (v := .int .i64 0) ((cell_set_ne (W := w) (b := W.heap.size + 1 + 1) (o := 0) (o' := 1) (v := .int .i64 0) (by omega)).trans s1)
      refine bodyPost_ret (v := .tuple #[.agg #[.int .i64 0, .int .i64 0], .int .i64 22]) (by simp [results, Tryz.results64, go_sem, v0, v1]) rfl ?_
      refine ⟨0, 0, 22, rfl, ?_, .inr ⟨rfl, hnc, rfl, rfl⟩⟩
      exact Below.trans (kept_trans hk0 hw.kept) (hT.toBelow (n := W.heap.size) (by rintro b rfl; omega) (by have := (kept_trans hk0 hw.kept).size; omega))
end Go.Proofs.YthkcgengohoboaaGreatDoor
set_option linter.all false
namespace Go.Proofs.YthkcgengohoboaaGreatDoor
open Go.RowKit Go.Sort Go.Rg
set_option maxRecDepth 100000

end Go.Proofs.YthkcgengohoboaaGreatDoor
