/- Regions that draw their order, in any frame: where each operation's value and the world are known for each set of operations that are over. No conditions. -/
import Derived.Test.YtbhgicggpkibeaaDoorVRQ
set_option linter.all false
set_option linter.all false
namespace Go.Rg
open Go Go.Sort Go.RowKit

section
variable {F : Fence} {n : Nat} {P : Program} {md : Region.Mode}

/-- The temporaries behind the operations that are over. -/
structure AtSt (ops : Array Oper) (vs : Nat → Value) (a0 : Act) (listed : Array Bool) (a : Act) : Prop where
  defers : a.defers = a0.defers
  size : a.tmps.size = a0.tmps.size
  done : ∀ (j : Nat) (o : Oper) (d : Tmp), listed.getD j false = true → ops[j]? = some o → o.dst = some d → a.tmps.getD d undef = if d < a0.tmps.size then vs j else undef
  other : ∀ t, (∀ (j : Nat) (o : Oper), listed.getD j false = true → ops[j]? = some o → o.dst ≠ some t) → a.tmps.getD t undef = a0.tmps.getD t undef

theorem AtSt.put {ops : Array Oper} {vs : Nat → Value} {a0 a : Act} {listed : Array Bool} {i : Nat} {o : Oper} (h : AtSt ops vs a0 listed a) (ho : ops[i]? = some o) (hi : listed.getD i true = false) (hdist : ∀ (j k : Nat) (x y : Oper) (d : Tmp), ops[j]? = some x → ops[k]? = some y → x.dst = some d → y.dst = some d → j = k) :
    AtSt ops vs a0 (listed.setIfInBounds i true) (a.put o.dst (vs i)) := by
  have hil : i < listed.size := by
    rcases Nat.lt_or_ge i listed.size with h | h
    · exact h
    · simp [Array.getD_eq_getD_getElem?, Array.getElem?_eq_none h] at hi
  have lst : ∀ j, (listed.setIfInBounds i true).getD j false = true ↔ j = i ∨ listed.getD j false = true := fun j => by
    by_cases e : j = i
    · subst e; simp [Array.getD_eq_getD_getElem?, hil]
    · simp [Array.getD_eq_getD_getElem?, Array.getElem?_setIfInBounds_ne (Ne.symm e), e]
  have hput : (a.put o.dst (vs i)).defers = a.defers ∧ (a.put o.dst (vs i)).tmps.size = a.tmps.size ∧ ∀ t, (a.put o.dst (vs i)).tmps.getD t undef = if o.dst = some t ∧ t < a.tmps.size then vs i else a.tmps.getD t undef := by
    cases hd : o.dst with
    | none => exact ⟨rfl, rfl, fun t => by simp [Act.put]⟩
    | some d =>
      refine ⟨rfl, by simp [Act.put], fun t => ?_⟩
      by_cases e : d = t
      · subst e
        by_cases hz : d < a.tmps.size
        · simp [Act.put, Array.getD_eq_getD_getElem?, hz]
        · simp [Act.put, Array.getD_eq_getD_getElem?, hz]
      · simp [Act.put, Array.getD_eq_getD_getElem?, Array.getElem?_setIfInBounds_ne e, e]
  obtain ⟨p1, p2, p3⟩ := hput
  refine ⟨p1.trans h.defers, p2.trans h.size, fun j x d hj hx hd => ?_, fun t ht => ?_⟩
  · rw [p3]
    by_cases e : j = i
    · subst e
      rw [ho] at hx; cases hx
      rw [← h.size]
      by_cases hz : d < a.tmps.size
      · simp [hd, hz]
      · simp [hd, hz, Array.getD_eq_getD_getElem?]
    · have : ¬ (o.dst = some d ∧ d < a.tmps.size) := fun h1 => e (hdist j i x o d hx ho hd h1.1)
      rw [if_neg this]
      exact h.done j x d (((lst j).1 hj).resolve_left e) hx hd
  · rw [p3, if_neg (fun h1 => ht i o ((lst i).2 (.inl rfl)) ho h1.1)]
    exact h.other t fun j x hj hx => ht j x ((lst j).2 (.inr hj)) hx

theorem wpAnyIn_states {ops : Array Oper} {vs : Nat → Value} {a0 : Act} {CW : Array Bool → World → Prop} {Q : Exit → Act → World → Prop} (hdist : ∀ (j k : Nat) (x y : Oper) (d : Tmp), ops[j]? = some x → ops[k]? = some y → x.dst = some d → y.dst = some d → j = k)
    (hgd : ∀ (i : Nat) (o : Oper), ops[i]? = some o → o.guard = none) (hlow : ∀ (i : Nat) (x : Oper), ops[i]? = some x → ∀ e ∈ x.after, Region.binds md e = true → e.on < i)
    (hop : ∀ (i : Nat) (o : Oper) (listed : Array Bool) (a : Act) (w : World), listed.size = ops.size → ops[i]? = some o → listed.getD i true = false → (∀ e ∈ o.after, Region.binds md e = true → listed.getD e.on false = true) → AtSt ops vs a0 listed a → CW listed w →
      o.wpIn F n P a w (fun a' w' => a' = a.put o.dst (vs i) ∧ CW (listed.setIfInBounds i true) w') Q)
    (hend : ∀ (listed : Array Bool) (a : Act) (w : World), (∀ i, i < ops.size → listed.getD i false = true) → AtSt ops vs a0 listed a → CW listed w → Q .normal a w) :
    ∀ (fuel : Nat) (listed : Array Bool) (a : Act) (w : World), listed.size = ops.size → (listed.toList.countP (· == false)) ≤ fuel → AtSt ops vs a0 listed a → CW listed w → wpAnyIn F n P md ops Q fuel listed a w := by
  have full : ∀ listed : Array Bool, listed.size = ops.size → Region.ready md ops listed = [] → ∀ i, i < ops.size → listed.getD i false = true := by
    intro listed hl hr i
    induction i using Nat.strongRecOn with
    | _ i ih =>
      intro hi
      cases hb : listed.getD i true with
      | true =>
        have : i < listed.size := by omega
        simpa [Array.getD_eq_getD_getElem?, this] using hb
      | false =>
        have : i ∈ Region.ready md ops listed := mem_ready.2 ⟨hb, ops[i], by simp [hi], fun e he hbb => by
          have := hlow i ops[i] (by simp [hi]) e he hbb
          exact ih e.on this (by omega)⟩
        rw [hr] at this; cases this
  intro fuel
  induction fuel with
  | zero =>
    intro listed a w hl hc ha hw
    have hall : ∀ i, i < ops.size → listed.getD i false = true := fun i hi => by
      have hc0 : listed.toList.countP (· == false) = 0 := by omega
      rw [List.countP_eq_zero] at hc0
      have hil : i < listed.size := by omega
      have := hc0 listed[i] (by simp)
      simpa [Array.getD_eq_getD_getElem?, hil] using this
    refine ⟨?_, hend listed a w hall ha hw⟩
    rw [List.eq_nil_iff_forall_not_mem]
    intro j hj
    obtain ⟨h1, x, hx, _⟩ := mem_ready.1 hj
    have hjz := (Array.getElem?_eq_some_iff.1 hx).1
    have h2 := hall j hjz
    have : j < listed.size := by omega
    simp [Array.getD_eq_getD_getElem?, this] at h1 h2
    rw [h1] at h2; cases h2
  | succ fuel ih =>
    intro listed a w hl hc ha hw
    refine ⟨fun h0 => hend listed a w (full listed hl h0) ha hw, fun i hi => ?_⟩
    obtain ⟨h1, o, ho, h2⟩ := mem_ready.1 hi
    unfold wpOpIn
    simp only [ho]
    have hwt : Region.wanted o (yielded ops a.tmps) = true := by simp [Region.wanted, hgd i o ho]
    rw [if_pos hwt]
    refine Oper.wpIn_mono (fun a' w' hq => ?_) (hop i o listed a w hl ho h1 h2 ha hw)
    obtain ⟨rfl, hcw⟩ := hq
    have hil : i < listed.size := by
      rcases Nat.lt_or_ge i listed.size with h | h
      · exact h
      · simp [Array.getD_eq_getD_getElem?, Array.getElem?_eq_none h] at h1
    refine ih _ _ _ (by simpa using hl) ?_ (ha.put ho h1 hdist) hcw
    have hlf : listed.toList[i]? = some false := by
      have : listed[i] = false := by simpa [Array.getD_eq_getD_getElem?, hil] using h1
      simp [hil, this]
    have key : ∀ (l : List Bool) (i : Nat), l[i]? = some false → (l.set i true).countP (· == false) + 1 = l.countP (· == false) := by
      intro l
      induction l with
      | nil => intro i h; simp at h
      | cons b l ihl =>
        intro i h
        cases i with
        | zero =>
          simp only [List.getElem?_cons_zero, Option.some.injEq] at h
          subst h; simp
        | succ i =>
          have := ihl i (by simpa using h)
          simp only [List.set_cons_succ, List.countP_cons]
          omega
    have := key listed.toList i hlf
    rw [Array.toList_setIfInBounds]
    omega
theorem countP_set : ∀ (l : List Bool) (i : Nat), l[i]? = some false → (l.set i true).countP (· == false) + 1 = l.countP (· == false) := by
  intro l
  induction l with
  | nil => intro i h; simp at h
  | cons b l ihl =>
    intro i h
    cases i with
    | zero =>
      simp only [List.getElem?_cons_zero, Option.some.injEq] at h
      subst h; simp
    | succ i =>
      have := ihl i (by simpa using h)
      simp only [List.set_cons_succ, List.countP_cons]
      omega
theorem wpAnyIn_inv {ops : Array Oper} {St : Array Bool → Act → World → Prop} {Q : Exit → Act → World → Prop} (hlow : ∀ (i : Nat) (x : Oper), ops[i]? = some x → ∀ e ∈ x.after, Region.binds md e = true → e.on < i)
    (hop : ∀ (i : Nat) (o : Oper) (listed : Array Bool) (a : Act) (w : World), listed.size = ops.size → ops[i]? = some o → listed.getD i true = false → (∀ e ∈ o.after, Region.binds md e = true → listed.getD e.on false = true) → St listed a w →
      if Region.wanted o (yielded ops a.tmps) then o.wpIn F n P a w (fun a' w' => St (listed.setIfInBounds i true) a' w') Q else (∀ f, o.about P w a.eval = some f → F.fn f) ∧ St (listed.setIfInBounds i true) (a.put o.dst undef) w)
    (hend : ∀ (listed : Array Bool) (a : Act) (w : World), (∀ i, i < ops.size → listed.getD i false = true) → St listed a w → Q .normal a w) :
    ∀ (fuel : Nat) (listed : Array Bool) (a : Act) (w : World), listed.size = ops.size → (listed.toList.countP (· == false)) ≤ fuel → St listed a w → wpAnyIn F n P md ops Q fuel listed a w := by
  have full : ∀ listed : Array Bool, listed.size = ops.size → Region.ready md ops listed = [] → ∀ i, i < ops.size → listed.getD i false = true := by
    intro listed hl hr i
    induction i using Nat.strongRecOn with
    | _ i ih =>
      intro hi
      cases hb : listed.getD i true with
      | true =>
        have : i < listed.size := by omega
        simpa [Array.getD_eq_getD_getElem?, this] using hb
      | false =>
        have : i ∈ Region.ready md ops listed := mem_ready.2 ⟨hb, ops[i], by simp [hi], fun e he hbb => by
          have := hlow i ops[i] (by simp [hi]) e he hbb
          exact ih e.on this (by omega)⟩
        rw [hr] at this; cases this
  intro fuel
  induction fuel with
  | zero =>
    intro listed a w hl hc hw
    have hall : ∀ i, i < ops.size → listed.getD i false = true := fun i hi => by
      have hc0 : listed.toList.countP (· == false) = 0 := by omega
      rw [List.countP_eq_zero] at hc0
      have hil : i < listed.size := by omega
      have := hc0 listed[i] (by simp)
      simpa [Array.getD_eq_getD_getElem?, hil] using this
    refine ⟨?_, hend listed a w hall hw⟩
    rw [List.eq_nil_iff_forall_not_mem]
    intro j hj
    obtain ⟨h1, x, hx, _⟩ := mem_ready.1 hj
    have hjz := (Array.getElem?_eq_some_iff.1 hx).1
    have h2 := hall j hjz
    have : j < listed.size := by omega
    simp [Array.getD_eq_getD_getElem?, this] at h1 h2
    rw [h1] at h2; cases h2
  | succ fuel ih =>
    intro listed a w hl hc hw
    refine ⟨fun h0 => hend listed a w (full listed hl h0) hw, fun i hi => ?_⟩
    obtain ⟨h1, o, ho, h2⟩ := mem_ready.1 hi
    unfold wpOpIn
    simp only [ho]
    have hil : i < listed.size := by
      rcases Nat.lt_or_ge i listed.size with h | h
      · exact h
      · simp [Array.getD_eq_getD_getElem?, Array.getElem?_eq_none h] at h1
    have hlf : listed.toList[i]? = some false := by
      have : listed[i] = false := by simpa [Array.getD_eq_getD_getElem?, hil] using h1
      simp [hil, this]
    have hcnt : (listed.setIfInBounds i true).toList.countP (· == false) ≤ fuel := by
      have := countP_set listed.toList i hlf
      rw [Array.toList_setIfInBounds]
      omega
    have hh := hop i o listed a w hl ho h1 h2 hw
    split
    · rename_i hwt
      rw [if_pos hwt] at hh
      exact Oper.wpIn_mono (fun a' w' hq => ih _ _ _ (by simpa using hl) hcnt hq) hh
    · rename_i hwt
      rw [if_neg hwt] at hh
      exact ⟨hh.1, ih _ _ _ (by simpa using hl) hcnt hh.2⟩
end

def distFrom : List Oper → Bool
  | [] => true
  | o :: l => (match o.dst with | none => true | some d => l.all fun p => match p.dst with | none => true | some e => !Nat.beq d e) && distFrom l
theorem distFrom_get : ∀ (l : List Oper), distFrom l = true → ∀ (j k : Nat) (x y : Oper) (d : Tmp), l[j]? = some x → l[k]? = some y → x.dst = some d → y.dst = some d → j = k
  | [], _, j, k, x, y, d, hj, _, _, _ => by simp at hj
  | o :: l, h, j, k, x, y, d, hj, hk, hx, hy => by
    simp only [distFrom, Bool.and_eq_true] at h
    have no : ∀ {i : Nat} {z : Oper}, o.dst = some d → l[i]? = some z → z.dst = some d → False := fun {i z} ho hz hzd => by
      rw [ho] at h
      have := List.all_eq_true.1 h.1 z (List.mem_of_getElem? hz)
      rw [hzd] at this
      simp at this
    match j, k, hj, hk with
    | 0, 0, _, _ => rfl
    | 0, k + 1, hj, hk =>
      simp only [List.getElem?_cons_zero, Option.some.injEq] at hj
      subst hj
      exact (no hx (by simpa using hk) hy).elim
    | j + 1, 0, hj, hk =>
      simp only [List.getElem?_cons_zero, Option.some.injEq] at hk
      subst hk
      exact (no hy (by simpa using hj) hx).elim
    | j + 1, k + 1, hj, hk =>
      have := distFrom_get l h.2 j k x y d (by simpa using hj) (by simpa using hk) hx hy
      omega
theorem AtSt.old {l : List Oper} {vs : Nat → Value} {a0 a : Act} {listed : Array Bool} (h : AtSt l.toArray vs a0 listed a) (t : Tmp) (ht : l.all (fun o => match o.dst with | some d => !Nat.beq d t | none => true) = true) : a.tmps.getD t undef = a0.tmps.getD t undef :=
  h.other t fun j o _ ho hd => by
    have := List.all_eq_true.1 ht o (List.mem_of_getElem? (by simpa using ho))
    rw [hd] at this
    simp at this
theorem AtSt.new {l : List Oper} {vs : Nat → Value} {a0 a : Act} {listed : Array Bool} (h : AtSt l.toArray vs a0 listed a) (j : Nat) (hj : listed.getD j false = true) {o : Oper} {d : Tmp} (ho : l[j]? = some o) (hd : o.dst = some d) (hz : d < a0.tmps.size) : a.tmps.getD d undef = vs j := by
  have := h.done j o d hj (by simpa using ho) hd
  rwa [if_pos hz] at this
/-- is operation i over? -/
def on (listed : Array Bool) (i : Nat) : Bool := listed.getD i false
theorem on_set {listed : Array Bool} {i j : Nat} (h : j ≠ i) : on (listed.setIfInBounds i true) j = on listed j := by
  unfold on; simp [Array.getD_eq_getD_getElem?, Array.getElem?_setIfInBounds_ne (Ne.symm h)]
theorem on_self {listed : Array Bool} {i : Nat} (h : i < listed.size) : on (listed.setIfInBounds i true) i = true := by
  unfold on; simp [Array.getD_eq_getD_getElem?, h]
theorem on_no {listed : Array Bool} {i : Nat} (h : listed.getD i true = false) : on listed i = false := by
  unfold on
  simp only [Array.getD_eq_getD_getElem?] at *
  cases hx : listed[i]? with
  | none => rw [hx] at h; cases h
  | some b => rw [hx] at h; simpa using h
def statesOk (l : List Oper) : Bool := distFrom l && l.all (fun o => o.guard.isNone) && lowFrom 0 l

/-- **A region that draws its order, by its states.** -/
theorem wpIn_region_states {F : Fence} {n : Nat} {P : Program} {id : Nat} {Q : Exit → Act → World → Prop} {a0 : Act} {w : World} {l : List Oper} (vs : Nat → Value) (CW : Array Bool → World → Prop) (hm : P.follows .mixedOrders = true) (hok : statesOk l = true)
    (h0 : CW (Array.replicate l.length false) { w with drawn := w.drawn + 1 })
    (hop : ∀ (i : Nat) (o : Oper) (listed : Array Bool) (a : Act) (w : World), listed.size = l.length → l[i]? = some o → listed.getD i true = false → (∀ e ∈ o.after, Region.binds .any e = true → listed.getD e.on false = true) → AtSt l.toArray vs a0 listed a → CW listed w →
      o.wpIn F n P a w (fun a' w' => a' = a.put o.dst (vs i) ∧ CW (listed.setIfInBounds i true) w') Q)
    (hend : ∀ (listed : Array Bool) (a : Act) (w : World), (∀ i, i < l.length → listed.getD i false = true) → AtSt l.toArray vs a0 listed a → CW listed w → Q .normal a w) : (Code.region id l.toArray true).wpIn F n P Q a0 w := by
  simp only [statesOk, Bool.and_eq_true, List.all_eq_true] at hok
  obtain ⟨⟨hd, hg⟩, hlow⟩ := hok
  refine wpIn_region_any hm ?_
  refine wpAnyIn_states (ops := l.toArray) (vs := vs) (a0 := a0) (CW := CW) (fun j k x y d hj hk hx hy => distFrom_get l hd j k x y d (by simpa using hj) (by simpa using hk) hx hy) (fun i o ho => by simpa using hg o (List.mem_of_getElem? (by simpa using ho)))
    (fun i x hx e he hb => by have := lowFrom_get 0 l hlow i x (by simpa using hx) e he hb; omega)
    (fun i o listed a w hl ho h1 h2 ha hw => hop i o listed a w (by simpa using hl) (by simpa using ho) h1 h2 ha hw) (fun listed a w hall ha hw => hend listed a w (by simpa using hall) ha hw) _ _ _ _ (by simp) ?_ ⟨rfl, rfl, fun j o d hj => ?_, fun t _ => rfl⟩ (by simpa using h0)
  · simp [List.countP_replicate]
  · simp only [Array.getD_eq_getD_getElem?, Array.getElem?_replicate] at hj
    split at hj <;> simp at hj
theorem AtSt.swap {l : Array Oper} {vs vs' : Nat → Value} {a0 a : Act} {listed : Array Bool} (h : AtSt l vs a0 listed a) (hs : ∀ j, listed.getD j false = true → vs j = vs' j) : AtSt l vs' a0 listed a :=
  ⟨h.defers, h.size, fun j o d hj ho hd => by rw [← hs j hj]; exact h.done j o d hj ho hd, h.other⟩
/-- Where an operation is over all are that it waits for. -/
def Closed (l : List Oper) (listed : Array Bool) : Prop := ∀ (j : Nat) (o : Oper), l[j]? = some o → on listed j = true → ∀ e ∈ o.after, Region.binds .any e = true → on listed e.on = true
theorem on_set_mono {listed : Array Bool} {i j : Nat} (h : on listed j = true) : on (listed.setIfInBounds i true) j = true := by
  by_cases e : j = i
  · subst e
    refine on_self ?_
    unfold on at h
    rcases Nat.lt_or_ge j listed.size with h1 | h1
    · exact h1
    · simp [Array.getD_eq_getD_getElem?, Array.getElem?_eq_none h1] at h
  · rw [on_set e]; exact h
theorem Closed.set {l : List Oper} {listed : Array Bool} {i : Nat} {o : Oper} (h : Closed l listed) (ho : l[i]? = some o) (h2 : ∀ e ∈ o.after, Region.binds .any e = true → listed.getD e.on false = true) : Closed l (listed.setIfInBounds i true) := fun j x hx hj e he hb => by
  by_cases e1 : j = i
  · subst e1
    rw [ho] at hx; cases hx
    exact on_set_mono (h2 e he hb)
  · rw [on_set e1] at hj
    exact on_set_mono (h j x hx hj e he hb)
/-- **A region that draws its order, by an invariant of its states.** -/
theorem wpIn_region_inv {F : Fence} {n : Nat} {P : Program} {id : Nat} {Q : Exit → Act → World → Prop} {a0 : Act} {w : World} {l : List Oper} (St : Array Bool → Act → World → Prop) (hm : P.follows .mixedOrders = true) (hlow : lowFrom 0 l = true)
    (h0 : St (Array.replicate l.length false) a0 { w with drawn := w.drawn + 1 })
    (hop : ∀ (i : Nat) (o : Oper) (listed : Array Bool) (a : Act) (w : World), listed.size = l.length → l[i]? = some o → listed.getD i true = false → (∀ e ∈ o.after, Region.binds .any e = true → listed.getD e.on false = true) → Closed l listed → St listed a w →
      if Region.wanted o (yielded l.toArray a.tmps) then o.wpIn F n P a w (fun a' w' => St (listed.setIfInBounds i true) a' w') Q else (∀ f, o.about P w a.eval = some f → F.fn f) ∧ St (listed.setIfInBounds i true) (a.put o.dst undef) w)
    (hend : ∀ (listed : Array Bool) (a : Act) (w : World), (∀ i, i < l.length → listed.getD i false = true) → St listed a w → Q .normal a w) : (Code.region id l.toArray true).wpIn F n P Q a0 w := by
  refine wpIn_region_any hm ?_
  have low : ∀ (i : Nat) (x : Oper), l.toArray[i]? = some x → ∀ e ∈ x.after, Region.binds .any e = true → e.on < i := fun i x hx e he hb => by have := lowFrom_get 0 l hlow i x (by simpa using hx) e he hb; omega
  refine wpAnyIn_inv (ops := l.toArray) (St := fun listed a w => Closed l listed ∧ St listed a w) low (fun i o listed a w hl ho h1 h2 hw => ?_) (fun listed a w hall hw => hend listed a w (by simpa using hall) hw.2) _ _ _ _ (by simp) ?_ ⟨fun j o ho hj => ?_, by simpa using h0⟩
  · have ho' : l[i]? = some o := by simpa using ho
    have hc := hw.1.set ho' h2
    have := hop i o listed a w (by simpa using hl) ho' h1 h2 hw.1 hw.2
    split
    · rename_i hwt
      rw [if_pos hwt] at this
      exact Oper.wpIn_mono (fun a' w' hq => ⟨hc, hq⟩) this
    · rename_i hwt
      rw [if_neg hwt] at this
      exact ⟨this.1, hc, this.2⟩
  · simp [List.countP_replicate]
  · unfold on at hj
    simp only [Array.getD_eq_getD_getElem?, Array.getElem?_replicate] at hj
    split at hj <;> simp at hj
/-- The same, the invariant told of the text and of the activation at the region's start. -/
theorem wpIn_region_invL {F : Fence} {n : Nat} {P : Program} {id : Nat} {Q : Exit → Act → World → Prop} {a0 : Act} {w : World} {l : List Oper} (St : List Oper → Act → Array Bool → Act → World → Prop) (hm : P.follows .mixedOrders = true) (hlow : lowFrom 0 l = true)
    (h0 : St l a0 (Array.replicate l.length false) a0 { w with drawn := w.drawn + 1 })
    (hop : ∀ (i : Nat) (o : Oper) (listed : Array Bool) (a : Act) (w : World), listed.size = l.length → l[i]? = some o → listed.getD i true = false → (∀ e ∈ o.after, Region.binds .any e = true → listed.getD e.on false = true) → Closed l listed → St l a0 listed a w →
      if Region.wanted o (yielded l.toArray a.tmps) then o.wpIn F n P a w (fun a' w' => St l a0 (listed.setIfInBounds i true) a' w') Q else (∀ f, o.about P w a.eval = some f → F.fn f) ∧ St l a0 (listed.setIfInBounds i true) (a.put o.dst undef) w)
    (hend : ∀ (listed : Array Bool) (a : Act) (w : World), (∀ i, i < l.length → listed.getD i false = true) → St l a0 listed a w → Q .normal a w) : (Code.region id l.toArray true).wpIn F n P Q a0 w :=
  wpIn_region_inv (St l a0) hm hlow h0 hop hend
theorem arr_range (t : Array Value) : t = ((List.range t.size).map fun i => t.getD i undef).toArray := by
  apply Array.ext'
  apply List.ext_getElem?
  intro i
  rcases Nat.lt_or_ge i t.size with h | h
  · simp [h, Array.getD_eq_getD_getElem?]
  · simp [h]
/-- The temporaries, written out. -/
theorem AtSt.lit {l : Array Oper} {vs : Nat → Value} {a0 a : Act} {listed : Array Bool} (h : AtSt l vs a0 listed a) {n : Nat} (hn : a0.tmps.size = n) : ∃ y : Nat → Value, (∀ t, a.tmps.getD t undef = y t) ∧ a = { tmps := ((List.range n).map y).toArray, defers := a0.defers } := by
  refine ⟨fun t => a.tmps.getD t undef, fun _ => rfl, ?_⟩
  have := arr_range a.tmps
  rw [h.size, hn] at this
  obtain ⟨tm, df⟩ := a
  simp only at this ⊢
  rw [← this, ← h.defers]
end Go.Rg
