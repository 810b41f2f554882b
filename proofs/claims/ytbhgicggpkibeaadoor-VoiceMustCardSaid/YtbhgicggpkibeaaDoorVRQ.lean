/- Regions that draw their order, in any frame, whose last operation may write: one walk of the text's order serves every order. No conditions. -/
import Derived.Lib.QuietBelowIn
import Derived.Sort.QuietTacIn
import Derived.TacticsIn
set_option linter.all false
set_option linter.all false
namespace Go.Rg
open Go Go.Sort Go.RowKit

section
variable {F : Fence} {n : Nat} {P : Program} {ops ops' : Array Oper} {md : Region.Mode} {C : World → Prop}

def NoDefer (o : Oper) : Prop := ∀ c, o.op ≠ .defer c

theorem wpIn_of_quiet {o : Oper} {a : Act} {K : Act → Prop} {K' : Act → World → Prop} {Q' : Exit → Act → World → Prop} {w : World} (hnd : NoDefer o) (hw : C w) (h : ∀ a w', C w' → K a → K' a w')
    (ha : o.askedIn F P a C) (hh : o.quietIn F n P a C K) : o.wpIn F n P a w K' Q' := by
  obtain ⟨v, h1, h2⟩ := hh
  have h3 := h1 w hw
  unfold Oper.quietAtIn at h3
  unfold Oper.wpIn
  refine ⟨ha w hw, ?_⟩
  rw [Oper.semAt_eq _ _ _ hnd]
  generalize (execOp a.eval o).run P w = r at *
  cases r with
  | ok x w' =>
    cases x <;> simp only [Oper.quietUponIn] at h3 <;> simp only [Oper.uponIn]
    case value u =>
      obtain ⟨e1, e2⟩ := h3
      rw [e1, e2]
      exact h _ _ hw h2
    case skip =>
      obtain ⟨e1, e2⟩ := h3
      rw [e1, ← e2]
      exact h _ _ hw h2
    case enter f args =>
      obtain ⟨e1, hd, hc⟩ := h3
      rw [e1]
      exact ⟨hd, hc.mono fun e w'' ⟨he, hw''⟩ => by subst he; exact h _ _ hw'' h2⟩
  | halt x w' => simp only [Oper.quietUponIn] at h3

theorem wpOpIn_of_quiet {i : Nat} {a : Act} {K : Act → Prop} {K' : Act → World → Prop} {Q' : Exit → Act → World → Prop} {w : World} (hnd : ∀ o, ops[i]? = some o → NoDefer o) (hg : ∀ o, ops[i]? = some o → ∀ a : Act, Region.wanted o (yielded ops a.tmps) = Region.wanted o (yielded ops' a.tmps)) (hs : ops[i]? = ops'[i]?) (hC : C w) (h : ∀ a w', C w' → K a → K' a w')
    (hh : qOpIn F n P ops' C i K a) : wpOpIn F n P ops Q' i K' a w := by
  unfold qOpIn at hh
  unfold wpOpIn
  rw [← hs] at hh
  split
  · rename_i ho; simp only [ho] at hh; exact h _ _ hC hh
  · rename_i o ho
    simp only [ho] at hh
    obtain ⟨ha, hh⟩ := hh
    rw [← hg o ho] at hh
    split
    · rename_i hw; simp only [hw, if_true] at hh; exact wpIn_of_quiet (hnd o ho) hC h ha hh
    · rename_i hw; simp only [hw] at hh; exact ⟨ha w hC, h _ _ hC hh⟩

theorem getD_set {listed : Array Bool} {i j : Nat} (hij : i ≠ j) (d : Bool) : (listed.setIfInBounds i true).getD j d = listed.getD j d := by
  simp [Array.getD_eq_getD_getElem?, Array.getElem?_setIfInBounds_ne hij]

/-- Real operations beside quiet ones: only number m, the last, is another one. -/
theorem wpAnyIn_last {m : Nat} {o fk : Oper} {Q : Act → Prop} {Q' : Exit → Act → World → Prop} (hm : ops[m]? = some o) (hm' : ops'[m]? = some fk) (hs : ∀ i, i ≠ m → ops[i]? = ops'[i]?) (hsz : ops.size = m + 1)
    (hnd : ∀ (i : Nat) (x : Oper), ops[i]? = some x → NoDefer x) (hg : ∀ (i : Nat) (x : Oper), ops[i]? = some x → ∀ a : Act, Region.wanted x (yielded ops a.tmps) = Region.wanted x (yielded ops' a.tmps))
    (haf : fk.after = o.after) (hdst : fk.dst = none) (hgd : o.guard = none) (hgd' : fk.guard = none) (hlow : ∀ (i : Nat) (x : Oper), ops[i]? = some x → ∀ e ∈ x.after, Region.binds md e = true → e.on < i) (hall : ∀ j, j < m → ∃ e ∈ o.after, Region.binds md e = true ∧ e.on = j)
    (hQ : ∀ a w, C w → Q a → o.wpIn F n P a w (fun a w => Q' .normal a w) Q') :
    ∀ (fuel : Nat) (listed : Array Bool) (a : Act) (w : World), listed.size = m + 1 → C w → listed.getD m true = false → wpAnyQIn F n P md ops' C Q fuel listed a → wpAnyIn F n P md ops Q' fuel listed a w := by
  have mem : ∀ {listed j}, j ∈ Region.ready md ops listed ↔ j ∈ Region.ready md ops' listed := fun {listed j} => by
    rw [mem_ready, mem_ready]
    by_cases e : j = m
    · subst e; rw [hm, hm']
      constructor
      · rintro ⟨h1, x, hx, h2⟩; cases hx; exact ⟨h1, fk, rfl, haf ▸ h2⟩
      · rintro ⟨h1, x, hx, h2⟩; cases hx; exact ⟨h1, o, rfl, haf ▸ h2⟩
    · rw [hs j e]
  have nil : ∀ {listed}, Region.ready md ops listed = [] ↔ Region.ready md ops' listed = [] := fun {listed} => by
    simp only [List.eq_nil_iff_forall_not_mem, mem]
  have prog : ∀ listed : Array Bool, listed.size = m + 1 → listed.getD m true = false → Region.ready md ops listed ≠ [] := by
    intro listed hl hmf
    have : ∀ k, k ≤ m → (∃ i, i ≤ m ∧ i ∈ Region.ready md ops listed) ∨ ∀ i, i < k → listed.getD i true = true := by
      intro k
      induction k with
      | zero => exact fun _ => .inr fun i hi => by omega
      | succ k ih =>
        intro hk
        rcases ih (by omega) with h | h
        · exact .inl h
        · cases hb : listed.getD k true with
          | true =>
            refine .inr fun i hi => ?_
            by_cases e : i = k
            · rw [e]; exact hb
            · exact h i (by omega)
          | false =>
            have hk2 : k < ops.size := by omega
            refine .inl ⟨k, by omega, mem_ready.2 ⟨hb, ops[k], by simp [hk2], fun e he hbb => ?_⟩⟩
            have h1 := hlow k ops[k] (by simp [hk2]) e he hbb
            have h2 := h e.on h1
            simp only [Array.getD_eq_getD_getElem?] at h2 ⊢
            have : e.on < listed.size := by omega
            simpa [this] using h2
    rcases this m (Nat.le_refl _) with ⟨i, _, hi⟩ | h
    · intro e; rw [e] at hi; cases hi
    · intro e
      have : m ∈ Region.ready md ops listed := mem_ready.2 ⟨hmf, o, hm, fun e he hbb => by
        have h1 := hlow m o hm e he hbb
        have h2 := h e.on h1
        simp only [Array.getD_eq_getD_getElem?] at h2 ⊢
        have : e.on < listed.size := by omega
        simpa [this] using h2⟩
      rw [e] at this; cases this
  have last : ∀ listed : Array Bool, listed.size = m + 1 → m ∈ Region.ready md ops listed → Region.ready md ops (listed.setIfInBounds m true) = [] := by
    intro listed hl hr
    obtain ⟨_, x, hx, h2⟩ := mem_ready.1 hr
    rw [hm] at hx; cases hx
    rw [List.eq_nil_iff_forall_not_mem]
    intro j hj
    obtain ⟨h3, x, hx, _⟩ := mem_ready.1 hj
    have hjz : j < ops.size := (Array.getElem?_eq_some_iff.1 hx).1
    by_cases e : j = m
    · subst e
      simp [Array.getD_eq_getD_getElem?, hl] at h3
    · obtain ⟨e1, he1, hb1, rfl⟩ := hall j (by omega)
      rw [getD_set (Ne.symm e)] at h3
      have h4 := h2 e1 he1 hb1
      have : e1.on < listed.size := by omega
      simp [Array.getD_eq_getD_getElem?, this] at h3 h4
      rw [h3] at h4; cases h4
  intro fuel
  induction fuel with
  | zero =>
    intro listed a w hl hw hmf h
    exact absurd (nil.2 h.1) (prog listed hl hmf)
  | succ fuel ih =>
    intro listed a w hl hw hmf h
    refine ⟨fun h0 => absurd h0 (prog listed hl hmf), fun i hi => ?_⟩
    have h1 := h.2 i (mem.1 hi)
    by_cases e : i = m
    · subst e
      have hlast := last listed hl hi
      have hend : ∀ a w, Q' .normal a w → wpAnyIn F n P md ops Q' fuel (listed.setIfInBounds i true) a w := fun a w hq => by
        cases fuel with
        | zero => exact ⟨hlast, hq⟩
        | succ fuel => exact ⟨fun _ => hq, fun j hj => by rw [hlast] at hj; cases hj⟩
      unfold qOpIn at h1
      simp only [hm'] at h1
      obtain ⟨_, h1⟩ := h1
      have hwt : Region.wanted fk (yielded ops' a.tmps) = true := by simp [Region.wanted, hgd']
      rw [if_pos hwt] at h1
      obtain ⟨v, _, h2⟩ := h1
      have hq : Q a := by
        rw [hdst] at h2
        have h2 : wpAnyQIn F n P md ops' C Q fuel (listed.setIfInBounds i true) a := h2
        cases fuel with
        | zero => exact h2.2
        | succ fuel => exact h2.1 (nil.1 hlast)
      unfold wpOpIn
      simp only [hm]
      have hwo : Region.wanted o (yielded ops a.tmps) = true := by simp [Region.wanted, hgd]
      rw [if_pos hwo]
      exact Oper.wpIn_mono (fun a w hq => hend a w hq) (hQ a w hw hq)
    · exact wpOpIn_of_quiet (hnd i) (hg i) (hs i e) hw (fun a' w' hw' hK => ih (listed.setIfInBounds i true) a' w' (by simpa using hl) hw' ((getD_set e true).trans hmf) hK) h1
end

/-- An operation that does nothing in the place of another one. -/
def fake (o : Oper) : Oper := { o with op := .move (.const (.int .i64 0)) }
def fakeLast : List Oper → List Oper
  | [] => []
  | [o] => [fake o]
  | o :: p :: l => o :: fakeLast (p :: l)
def lastOf : List Oper → Option Oper
  | [] => none
  | [o] => some o
  | _ :: p :: l => lastOf (p :: l)
def notDefer : Op → Bool
  | .defer _ => false
  | _ => true
def lowFrom : Nat → List Oper → Bool
  | _, [] => true
  | i, o :: l => o.after.toList.all (fun e => !Region.binds .any e || Nat.blt e.on i) && lowFrom (i + 1) l
def lastOk (l : List Oper) : Bool :=
  Region.lexB .any (fakeLast l).toArray && l.all (fun o => o.guard.isNone && notDefer o.op) && lowFrom 0 l &&
    match lastOf l with
    | some o => o.dst.isNone && (List.range (l.length - 1)).all fun j => o.after.toList.any fun e => Region.binds .any e && Nat.beq e.on j
    | none => false
theorem fakeLast_len : ∀ l : List Oper, (fakeLast l).length = l.length
  | [] => rfl
  | [o] => rfl
  | o :: p :: l => by simp [fakeLast, fakeLast_len (p :: l)]
theorem fakeLast_get : ∀ (l : List Oper) (i : Nat), i ≠ l.length - 1 → l[i]? = (fakeLast l)[i]?
  | [], _, _ => rfl
  | [o], 0, h => absurd rfl h
  | [o], i + 1, h => by simp [fakeLast]
  | o :: p :: l, 0, h => by simp [fakeLast]
  | o :: p :: l, i + 1, h => by
    simp only [fakeLast, List.getElem?_cons_succ]
    exact fakeLast_get (p :: l) i (by simp at h ⊢; omega)
theorem lastOf_get : ∀ (l : List Oper) (o : Oper), lastOf l = some o → l[l.length - 1]? = some o ∧ (fakeLast l)[l.length - 1]? = some (fake o)
  | [], _, h => by cases h
  | [x], o, h => by cases h; exact ⟨rfl, rfl⟩
  | x :: p :: l, o, h => by
    have := lastOf_get (p :: l) o h
    simpa [fakeLast] using this
theorem lowFrom_get : ∀ (k : Nat) (l : List Oper), lowFrom k l = true → ∀ (i : Nat) (x : Oper), l[i]? = some x → ∀ e ∈ x.after, Region.binds .any e = true → e.on < k + i
  | _, [], _, i, x, h, _, _, _ => by simp at h
  | k, o :: l, hl, 0, x, h, e, he, hb => by
    simp only [lowFrom, Bool.and_eq_true, List.all_eq_true] at hl
    simp only [List.getElem?_cons_zero, Option.some.injEq] at h
    subst h
    have := hl.1 e (by simpa using he)
    simpa [Nat.blt_eq, hb] using this
  | k, o :: l, hl, i + 1, x, h, e, he, hb => by
    simp only [lowFrom, Bool.and_eq_true] at hl
    have := lowFrom_get (k + 1) l hl.2 i x (by simpa using h) e he hb
    omega

/-- **A region that draws its order and whose last operation waits for all others: one walk of the text's order serves every order.** -/
theorem wpIn_region_quiet_last {F : Fence} {n : Nat} {P : Program} {C : World → Prop} {id : Nat} {Q : Exit → Act → World → Prop} {a : Act} {w : World} {l : List Oper} {o : Oper} (hm : P.follows .mixedOrders = true) (hok : lastOk l = true) (hlo : lastOf l = some o)
    (hC : C { w with drawn := w.drawn + 1 })
    (h : wpQuietIn F n P (fakeLast l).toArray C (fun a' => ∀ w', C w' → o.wpIn F n P a' w' (fun a w => Q .normal a w) Q) (fakeLast l) a) : (Code.region id l.toArray true).wpIn F n P Q a w := by
  simp only [lastOk, Bool.and_eq_true, hlo] at hok
  obtain ⟨⟨⟨hB, hall⟩, hlow⟩, hdst, hwait⟩ := hok
  simp only [Region.lexB, Bool.and_eq_true] at hB
  obtain ⟨g1, g2⟩ := lastOf_get l o hlo
  have hne : l ≠ [] := by rintro rfl; cases hlo
  have hlen : l.length - 1 + 1 = l.length := by have := List.length_pos_iff.2 hne; omega
  simp only [List.all_eq_true, Bool.and_eq_true] at hall
  have hall' : ∀ (i : Nat) (x : Oper), l.toArray[i]? = some x → x.guard = none ∧ NoDefer x := fun i x hx => by
    have := hall x (List.mem_of_getElem? (by simpa using hx))
    refine ⟨by simpa using this.1, fun c e => ?_⟩
    rw [e] at this
    exact absurd this.2 (by simp [notDefer])
  have hq := wpAnyQIn_lex (F := F) (n := n) (C := C) (md := .any) hB.1 (fakeLast l) 0 (Array.replicate (fakeLast l).toArray.size false) a (by simp) (by simpa using hB.2) h
  refine wpIn_region_any hm ?_
  refine wpAnyIn_last (m := l.length - 1) (o := o) (fk := fake o) (ops := l.toArray) (ops' := (fakeLast l).toArray) (by simpa using g1) (by simpa using g2) (fun i hi => by simpa using fakeLast_get l i hi) (by simp [hlen])
    (fun i x hx => (hall' i x hx).2) (fun i x hx a => by simp [Region.wanted, (hall' i x hx).1]) rfl (by simpa [fake] using hdst) ((hall' _ o (by simpa using g1)).1) (by show o.guard = none; exact (hall' _ o (by simpa using g1)).1)
    (fun i x hx e he hb => by have := lowFrom_get 0 l hlow i x (by simpa using hx) e he hb; omega) (fun j hj => ?_) (Q := fun a' => ∀ w', C w' → o.wpIn F n P a' w' (fun a w => Q .normal a w) Q) (fun a w hw hQ => hQ w hw) l.toArray.size (Array.replicate l.toArray.size false) a _ (by simp [hlen]) hC ?_ (by simpa [fakeLast_len] using hq)
  rotate_left
  · have : l.length - 1 < l.length := by omega
    simp [Array.getD_eq_getD_getElem?, this]
  rw [List.all_eq_true] at hwait
  have := hwait j (List.mem_range.2 hj)
  rw [List.any_eq_true] at this
  obtain ⟨e, he, h2⟩ := this
  simp only [Bool.and_eq_true] at h2
  exact ⟨e, by simpa using he, h2.1, Nat.eq_of_beq_eq_true h2.2⟩
/-- The same at the class of worlds behind draws and new blocks. -/
theorem wpIn_region_below_last {F : Fence} {n : Nat} {P : Program} {id : Nat} {Q : Exit → Act → World → Prop} {a : Act} {w : World} {l : List Oper} {o : Oper} (hm : P.follows .mixedOrders = true) (hok : lastOk l = true) (hlo : lastOf l = some o)
    (h : wpQuietIn F n P (fakeLast l).toArray (fun w' => ∃ p : Regrown, w' = grow (redrawn w p.d) p.os) (fun a' => ∀ w', (∃ p : Regrown, w' = grow (redrawn w p.d) p.os) → o.wpIn F n P a' w' (fun a w => Q .normal a w) Q) (fakeLast l) a) : (Code.region id l.toArray true).wpIn F n P Q a w :=
  wpIn_region_quiet_last (C := fun w' => ∃ p : Regrown, w' = grow (redrawn w p.d) p.os) hm hok hlo ⟨⟨w.drawn + 1, #[]⟩, by rw [grow_empty]; rfl⟩ h
end Go.Rg
