/- The evaluator tells the truth: what it answers is what the machine does. No conditions. -/
import Derived.Test.YthgfbokfaidklaaGreatDoorAiC
import Derived.LoopNIn
set_option linter.all false
namespace Go.Ai
noncomputable section
open Classical
variable {E : Env} {ops : Array Oper} {b : Nat} {ST : Nat → Option Book} {FR : Nat → Fr} {HH : Nat → Hp}

/-! ### Counting -/
def cnt (P : Nat → Bool) (n : Nat) : Nat := ((List.range n).filter P).length
theorem cnt_succ (P : Nat → Bool) (n : Nat) : cnt P (n + 1) = cnt P n + if P n then 1 else 0 := by
  unfold cnt
  rw [List.range_succ, List.filter_append, List.length_append]
  cases h : P n <;> simp [h]
theorem cnt_mono (P : Nat → Bool) {n m : Nat} (h : n ≤ m) : cnt P n ≤ cnt P m := by
  induction m with
  | zero => obtain rfl : n = 0 := by omega
            exact Nat.le_refl _
  | succ m ih =>
    rcases Nat.lt_or_ge n (m + 1) with h' | h'
    · rw [cnt_succ]; exact Nat.le_trans (ih (by omega)) (Nat.le_add_right _ _)
    · obtain rfl : n = m + 1 := by omega
      exact Nat.le_refl _
theorem cnt_le {P Q : Nat → Bool} {n c : Nat} (h : ∀ x, x < n → P x = true → x < c ∧ Q x = true) : cnt P n ≤ cnt Q c := by
  have : ∀ m, m ≤ n → cnt P m ≤ cnt Q (min m c) := by
    intro m
    induction m with
    | zero => intro _; simp [cnt]
    | succ m ih =>
      intro hm
      have ih := ih (by omega)
      rw [cnt_succ]
      cases hp : P m with
      | true =>
        obtain ⟨h1, h2⟩ := h m (by omega) hp
        rw [show min (m + 1) c = m + 1 by omega, cnt_succ, h2]
        rw [show min m c = m by omega] at ih
        simpa using ih
      | false =>
        simp
        exact Nat.le_trans ih (cnt_mono Q (by omega))
  exact Nat.le_trans (this n (Nat.le_refl _)) (cnt_mono Q (by omega))

/-- Where nothing chained is done, what is born stays as it is. -/
theorem Text.calm (T : Text E ops b ST FR HH) {u : Nat} {o : Oper} (ho : ops[u]? = some o) (hc : ¬ chainC (cls o.op) ∨ wantedA ops.toList (FR u) o ≠ some true) {x : Nat} (hx : (HH u).born x) : (HH (u + 1)).t.get x = (HH u).t.get x := by
  have hu := size_of ho
  have hown := T.own u (by omega) u (Nat.le_refl _) hu
  have hlen : ops.toList.length - (ops.toList.drop (u + 1)).length - 1 = u := by simp; omega
  obtain ⟨bk, hbk, hb1⟩ := T.book u (by omega)
  have hnx : b + u < (HH u).next := by
    have := (T.evo_le (i := 0) (k := u) (by omega) (by omega)).next
    have := T.top
    omega
  have s := T.step u o ho
  rw [hbk] at s
  have hclk := T.nxt u (by omega)
  generalize ST (u + 1) = st' at s
  generalize HH (u + 1) = h' at s
  generalize FR (u + 1) = fr' at s
  cases s with
  | skip _ _ => rfl
  | p _ _ _ _ => rfl
  | q _ _ _ _ _ => rfl
  | a hw1 hc1 hl1 hd1 hst' =>
    rename_i B f id
    rcases hst' with ⟨e, _⟩ | ⟨b', i', is, ss, rs', e, e', hid, rfl⟩
    · cases e
    · cases e
      simp only at hb1
      subst hb1
      rw [hlen] at hid
      subst hid
      have g : Grew (HH u) ((HH u).put (b' + u) B) (b' + u) B := Grew.put B (Nat.le_refl _) hclk hnx
      rw [g.get, if_neg (fun (e : x = b' + u) => hown (by rw [← e]; exact hx))]
  | s hw' hc' _ _ _ _ =>
    rcases hc with hc | hc
    · exact absurd (.inr hc') hc
    · exact absurd hw' hc
  | c hw' hc' _ _ _ _ _ =>
    rcases hc with hc | hc
    · exact absurd (.inl hc') hc
    · exact absurd hw' hc

/-- Where a run in a drawn order stands, when it has done the set S. -/
structure At (E : Env) (ops : Array Oper) (b : Nat) (FR : Nat → Fr) (HH : Nat → Hp) (j0 : Nat → RB) (w0 : World) (S : Nat → Prop) (p : Nat) (j : Nat → RB) (H : Hp) (fr : Fr) (w : World) (a : Act) : Prop where
  ple : p ≤ ops.size
  chain : ∀ (c : Nat) (o : Oper), ops[c]? = some o → chainC (cls o.op) → (S c ↔ c < p)
  lays : ∀ (i : Nat) (o : Oper), ops[i]? = some o → cls o.op = .a → i < p → S i
  hS : ∀ i, i < ops.size → p ≤ i → S i → H.t.get (b + i) = (HH (i + 1)).t.get (b + i)
  hN : ∀ i, i < ops.size → p ≤ i → ¬ S i → H.t.get (b + i) = none
  hO : ∀ x, (∀ i, p ≤ i → i < ops.size → x ≠ b + i) → H.t.get x = (HH p).t.get x
  inv : Inv E.G j H w
  act : FrAt j H.born fr a
  tm : TmpAt ops FR S fr
  sz : fr.sz = (FR 0).sz
  rnd : fr.round = (FR 0).round
  marks : fr.marks = (FR 0).marks
  fp : Fp j0 j (HH 0) H w0 w

theorem chainB_iff {i : Nat} {o : Oper} (h : ops[i]? = some o) : chainB ops.toList i = true ↔ chainC (cls o.op) := by
  rw [chainB_of (by simpa using h)]
  unfold chainC
  simp
theorem chainB_some {i : Nat} (h : chainB ops.toList i = true) : ∃ o, ops[i]? = some o ∧ chainC (cls o.op) := by
  cases ho : ops[i]? with
  | none => unfold chainB at h; rw [show ops.toList[i]? = none by simpa using ho] at h; cases h
  | some o => exact ⟨o, rfl, (chainB_iff ho).1 h⟩
section
variable {j0 j : Nat → RB} {w0 w : World} {S : Nat → Prop} {p : Nat} {H : Hp} {fr : Fr} {a : Act}
theorem At.kk (A : At E ops b FR HH j0 w0 S p j H fr w a) {i : Nat} {o : Oper} (N : Next ops.toList S i o) (hq : cls o.op = .q) {c : Nat} (hc : chainB ops.toList c = true) (hS : ¬ S c) : kkOf ops.toList i ≤ (stamps ops.toList HH c).length := by
  rw [stamps_len]
  refine cnt_le (P := fun c => chainB ops.toList c && ((maskOf ops.toList).getD i 0).testBit c) (Q := chainB ops.toList) fun x _ hx => ?_
  simp only [Bool.and_eq_true] at hx
  obtain ⟨h1, h2⟩ := hx
  obtain ⟨ox, hox, hcx⟩ := chainB_some h1
  obtain ⟨oc, hoc, hcc⟩ := chainB_some hc
  have hxi : x ≠ i := fun e => by
    subst e
    have := N.at'
    rw [show ops.toList[x]? = some ox by simpa using hox] at this
    cases this
    rw [hq] at hcx
    rcases hcx with h | h <;> cases h
  have := (A.chain x ox hox hcx).1 (N.mask h2 hxi)
  have h3 : ¬ c < p := fun h => hS ((A.chain c oc hoc hcc).2 h)
  exact ⟨by omega, h1⟩
theorem At.mm (A : At E ops b FR HH j0 w0 S p j H fr w a) {i : Nat} {o : Oper} (N : Next ops.toList S i o) {c : Nat} (hc : chainB ops.toList c = true) (hS : S c) : (stamps ops.toList HH c).length < mOf ops.toList i := by
  rw [stamps_len]
  have h1 : cnt (chainB ops.toList) (c + 1) ≤ cnt (fun c => chainB ops.toList c && !((maskOf ops.toList).getD c 0).testBit i) ops.toList.length := by
    refine cnt_le fun x hx hcx => ?_
    obtain ⟨ox, hox, hcx'⟩ := chainB_some hcx
    obtain ⟨oc, hoc, hcc⟩ := chainB_some hc
    have hcp := (A.chain c oc hoc hcc).1 hS
    have hSx := (A.chain x ox hox hcx').2 (by omega)
    refine ⟨by simpa using size_of hox, ?_⟩
    simp only [hcx, Bool.true_and, Bool.not_eq_true']
    cases ht : ((maskOf ops.toList).getD x 0).testBit i with
    | false => rfl
    | true => exact absurd (mask_closed N.closed hSx ht) N.not
  rw [cnt_succ, hc] at h1
  exact h1
/-- What is read is the same, wherever the drawn order lets it be read. -/
theorem At.get (A : At E ops b FR HH j0 w0 S p j H fr w a) (T : Text E ops b ST FR HH) (h0 : ST 0 = some (b, drawInfo ops.toList, [], [])) {i : Nat} {o : Oper} (N : Next ops.toList S i o) (hw : wantedA ops.toList (FR i) o = some true) (hq : cls o.op = .q)
    {x : Nat} {y : Blk} (hr : reads (FR i).val o.op = some x) (hy : (HH i).get x = some y) (hb : H.born x) : H.get x = some y := by
  have ho : ops[i]? = some o := by simpa using N.at'
  have hi := size_of ho
  obtain ⟨v, hv⟩ := get_of hy
  have hver : (HH i).ver x = some v := by unfold Hp.ver; rw [hv]; rfl
  have hbi : (HH i).born x := by unfold Hp.born; rw [hv]; simp
  suffices h : H.t.get x = some (v, y) from get_some h
  rcases Nat.lt_or_ge i p with hip | hpi
  · have up : ∀ d, i + d ≤ p → (HH (i + d)).t.get x = some (v, y) := by
      intro d
      induction d with
      | zero => exact fun _ => hv
      | succ d ih =>
        intro hd
        have ih := ih (by omega)
        have hple := A.ple
        obtain ⟨ou, hou⟩ : ∃ ou, ops[i + d]? = some ou := ⟨ops[i + d], by simp [show i + d < ops.size by omega]⟩
        have hbu : (HH (i + d)).born x := by unfold Hp.born; rw [ih]; simp
        rw [← Nat.add_assoc]
        by_cases hc : chainC (cls ou.op) ∧ wantedA ops.toList (FR (i + d)) ou = some true
        · have hd0 : i ≠ i + d := fun e => by
            have hc1 := hc.1
            rw [← e, ho] at hou
            cases hou
            rw [hq] at hc1
            rcases hc1 with h | h <;> cases h
          have hSu : S (i + d) := (A.chain _ _ hou hc.1).2 (by omega)
          have hm := A.mm N ((chainB_iff hou).2 hc.1) hSu
          have hk := T.kept h0 ho hw hq hr hver (by omega) hou hc.2 hc.1 hm
          rcases (T.evo (i + d) (by omega)).evo x with e | ⟨v', y', e, hlt⟩
          · rw [e, ih]
          · have hk' : v' = v := by unfold Hp.ver at hk; rw [e] at hk; simpa using hk
            have := (T.low (i + d) (by omega) x v y ih).2
            omega
        · rw [T.calm hou (by
            by_cases h1 : chainC (cls ou.op)
            · exact .inr fun h2 => hc ⟨h1, h2⟩
            · exact .inl h1) hbu, ih]
    rw [A.hO x fun k hk hks e => T.own i (by omega) k (by omega) hks (e ▸ hbi)]
    have := up (p - i) (by omega)
    rwa [show i + (p - i) = p by omega] at this
  · have dn : ∀ d, d ≤ i → p ≤ i - d → (HH (i - d)).born x → (HH (i - d)).t.get x = some (v, y) := by
      clear hb
      intro d
      induction d with
      | zero => exact fun _ _ _ => hv
      | succ d ih =>
        intro hd hp hbu
        have e1 : i - d = i - (d + 1) + 1 := by omega
        generalize hu : i - (d + 1) = u at e1 hp hbu ⊢
        obtain ⟨ou, hou⟩ : ∃ ou, ops[u]? = some ou := ⟨ops[u], by simp [show u < ops.size by omega]⟩
        have ev := T.evo u (by omega)
        have ih := ih (by omega) (by omega) (by rw [e1]; exact ev.born hbu)
        rw [e1] at ih
        by_cases hc : chainC (cls ou.op)
        · have hSu : ¬ S u := fun h => by have := (A.chain _ _ hou hc).1 h; omega
          have hcb := (chainB_iff hou).2 hc
          have hle := T.read h0 ho hw hq hr hver (c := u) (by omega) hcb (A.kk N hq hcb hSu)
          rcases ev.evo x with e | ⟨v', y', e, hlt⟩
          · rw [← e, ih]
          · rw [e] at ih; cases ih; omega
        · rw [← T.calm hou (.inl hc) hbu, ih]
    by_cases hx : ∃ k, p ≤ k ∧ k < ops.size ∧ x = b + k
    · obtain ⟨k, hpk, hks, rfl⟩ := hx
      have hki : k < i := Nat.lt_of_not_le fun h => T.own i (by omega) k h hks hbi
      by_cases hSk : S k
      · have e := A.hS k hks hpk hSk
        have hbk : (HH (k + 1)).born (b + k) := by unfold Hp.born at hb ⊢; rwa [e] at hb
        have := dn (i - (k + 1)) (by omega) (by omega) (by rwa [show i - (i - (k + 1)) = k + 1 by omega])
        rw [show i - (i - (k + 1)) = k + 1 by omega] at this
        rw [e, this]
      · exact absurd (A.hN k hks hpk hSk) hb
    · have e := A.hO x fun k hk hks e => hx ⟨k, hk, hks, e⟩
      have hbp : (HH p).born x := by unfold Hp.born at hb ⊢; rwa [e] at hb
      have := dn (i - p) (by omega) (by omega) (by rwa [show i - (i - p) = p by omega])
      rw [show i - (i - p) = p by omega] at this
      rw [e, this]
end
end
end Go.Ai
namespace Go.Ai
noncomputable section
open Classical

/-- Who does not tell two homes of a block apart does not name it. -/
theorem Sc.tells {D : Nat → Prop} {v : Value} (h : Sc D v) {x : Nat} (t : ∀ j j' : Nat → RB, (j x).blk ≠ (j' x).blk → conc j' v ≠ conc j v) : D x := Classical.byContradiction fun hx =>
  t (fun _ => ⟨0, 0, 0⟩) (fun b => if b = x then ⟨1, 0, 0⟩ else ⟨0, 0, 0⟩) (by simp) (h _ _ fun b hb => by
    have : b ≠ x := fun e => hx (e ▸ hb)
    simp [this])
theorem Sc.ptrD {D : Nat → Prop} {a : Addr} (h : Sc D (.pointer (some a))) : D a.block := h.tells fun j j' hne e => by
  simp [conc, ca] at e; exact hne e.1.symm
theorem Sc.sl {D : Nat → Prop} {a : Addr} {l c : Nat} (h : Sc D (.slice (some a) l c)) : D a.block := h.tells fun j j' hne e => by
  simp [conc, ca] at e; exact hne e.1.1.symm
theorem Sc.mp {D : Nat → Prop} {r : Nat} (h : Sc D (.map (some r))) : D r := h.tells fun j j' hne e => by
  simp [conc] at e; exact hne e.symm
theorem Sc.ptrB {D : Nat → Prop} {v : Value} (h : Sc D v) {x : Nat} (hx : ptrB v = some x) : D x := by
  cases v <;> simp only [Go.Ai.ptrB] at hx <;> try (cases hx; done)
  case pointer p => cases p with
    | none => cases hx
    | some a => simp at hx; subst hx; exact h.ptrD
  case map r => subst hx; exact h.mp
  case slice p l c => cases p with
    | none => cases hx
    | some a => simp at hx; subst hx; exact h.sl
theorem Sc.mapB {D : Nat → Prop} {v : Value} (h : Sc D v) {x : Nat} (hx : mapB v = some x) : D x := by
  cases v <;> simp only [Go.Ai.mapB] at hx <;> try (cases hx; done)
  case map r => subst hx; exact h.mp
theorem Sc.openB {D : Nat → Prop} {v : Value} (h : Sc D v) {x : Nat} (hx : openB v = some x) : D x := by
  unfold Go.Ai.openB at hx
  split at hx
  · split at hx
    · cases hx
    · cases hx; exact h.sl
  · cases hx
theorem reads_born {D : Nat → Prop} {ρ : Operand → Value} {op : Op} (h : ∀ y ∈ op.operands, Sc D (ρ y)) {x : Nat} (hx : reads ρ op = some x) : D x := by
  cases op <;> simp only [reads] at hx <;> try (cases hx; done)
  case slice t v lo hi mx => exact (h v (by simp [Op.operands])).openB hx
  case load t a => exact (h a (by simp [Op.operands])).ptrB hx
  case lookup t m k ok => exact (h m (by simp [Op.operands])).ptrB hx
  case call c =>
    unfold readsB at hx
    split at hx
    · split at hx
      · split at hx
        · rename_i a ha
          refine (h a ?_).mapB hx
          have : a ∈ c.args.toList := by rw [ha]; simp
          have h2 : a ∈ c.args := Array.mem_toList_iff.1 this
          simp [Op.operands, Call.operands, h2]
        · cases hx
      · cases hx
    · cases hx
end
end Go.Ai
namespace Go.Ai
noncomputable section
open Classical
variable {E : Env} {ops : Array Oper} {b : Nat} {ST : Nat → Option Book} {FR : Nat → Fr} {HH : Nat → Hp}

/-! ### Two trees in one -/
def Tr.merge {α : Type} : Tr α → Tr α → Tr α
  | .nil, t => t
  | .node v l r, .nil => .node v l r
  | .node v l r, .node v' l' r' => .node (v.or v') (merge l l') (merge r r')
theorem Tr.get_merge {α : Type} (s t : Tr α) (n : Nat) : (Tr.merge s t).get n = (s.get n).or (t.get n) := by
  induction s generalizing t n with
  | nil => simp [Tr.merge, Tr.get_nil]
  | node v l r ihl ihr =>
    cases t with
    | nil => simp [Tr.merge, Tr.get_nil]
    | node v' l' r' =>
      cases n with
      | zero => simp [Tr.merge, Tr.get_node0]
      | succ m =>
        simp only [Tr.merge, Tr.get_nodeS]
        split
        · exact ihl _ _
        · exact ihr _ _

/-! ### Where the text does nothing chained -/
theorem Text.still (T : Text E ops b ST FR HH) {u : Nat} {o : Oper} (ho : ops[u]? = some o) (hc : ¬ chainC (cls o.op)) :
    (∀ x, x ≠ b + u → (HH (u + 1)).t.get x = (HH u).t.get x) ∧ (cls o.op ≠ .a → ∀ x, (HH (u + 1)).t.get x = (HH u).t.get x) := by
  have hu := size_of ho
  have hlen : ops.toList.length - (ops.toList.drop (u + 1)).length - 1 = u := by simp; omega
  obtain ⟨bk, hbk, hb1⟩ := T.book u (by omega)
  have hnx : b + u < (HH u).next := by
    have := (T.evo_le (i := 0) (k := u) (by omega) (by omega)).next
    have := T.top
    omega
  have s := T.step u o ho
  rw [hbk] at s
  have hclk := T.nxt u (by omega)
  generalize ST (u + 1) = st' at s
  generalize HH (u + 1) = h' at s
  generalize FR (u + 1) = fr' at s
  cases s with
  | skip _ _ => exact ⟨fun _ _ => rfl, fun _ _ => rfl⟩
  | p _ _ _ _ => exact ⟨fun _ _ => rfl, fun _ _ => rfl⟩
  | q _ _ _ _ _ => exact ⟨fun _ _ => rfl, fun _ _ => rfl⟩
  | a hw1 hc1 hl1 hd1 hst' =>
    rename_i B f id
    rcases hst' with ⟨e, _⟩ | ⟨b', i', is, ss, rs, e, e', hid, rfl⟩
    · cases e
    · cases e
      simp only at hb1
      subst hb1
      rw [hlen] at hid
      subst hid
      have g : Grew (HH u) ((HH u).put (b' + u) B) (b' + u) B := Grew.put B (Nat.le_refl _) hclk hnx
      exact ⟨fun x hx => by rw [g.get, if_neg hx], fun h => absurd hc1 h⟩
  | s hw' hc' _ _ _ _ => exact absurd (.inr hc') hc
  | c hw' hc' _ _ _ _ _ => exact absurd (.inl hc') hc

theorem Text.seg (T : Text E ops b ST FR HH) {p q : Nat} (hpq : p ≤ q) (hq : q ≤ ops.size) (hch : ∀ (c : Nat) (o : Oper), p ≤ c → c < q → ops[c]? = some o → ¬ chainC (cls o.op)) :
    (∀ x, (∀ k, p ≤ k → k < q → x ≠ b + k) → (HH q).t.get x = (HH p).t.get x) ∧ (∀ k, p ≤ k → k < q → (HH q).t.get (b + k) = (HH (k + 1)).t.get (b + k)) ∧
      ∀ (k : Nat) (o : Oper), p ≤ k → k < q → ops[k]? = some o → cls o.op ≠ .a → (HH (k + 1)).t.get (b + k) = none := by
  have third : ∀ (k : Nat) (o : Oper), p ≤ k → k < q → ops[k]? = some o → cls o.op ≠ .a → (HH (k + 1)).t.get (b + k) = none := fun k o h1 h2 h3 h4 => by
    rw [(T.still h3 (hch k o h1 h2 h3)).2 h4]
    have := T.own k (by omega) k (Nat.le_refl _) (by omega)
    simpa [Hp.born] using this
  refine ⟨?_, ?_, third⟩
  · clear third
    induction q with
    | zero => obtain rfl : p = 0 := by omega
              exact fun _ _ => rfl
    | succ q ih =>
      intro x hx
      rcases Nat.lt_or_ge q p with h | h
      · obtain rfl : p = q + 1 := by omega
        rfl
      · obtain ⟨o, ho⟩ : ∃ o, ops[q]? = some o := ⟨ops[q], by simp [show q < ops.size by omega]⟩
        rw [(T.still ho (hch q o h (by omega) ho)).1 x (hx q h (by omega)), ih h (by omega) (fun c o h1 h2 => hch c o h1 (by omega)) x fun k h1 h2 => hx k h1 (by omega)]
  · clear third
    intro k hk hkq
    have : ∀ d, k + 1 + d ≤ q → (HH (k + 1 + d)).t.get (b + k) = (HH (k + 1)).t.get (b + k) := by
      intro d
      induction d with
      | zero => exact fun _ => rfl
      | succ d ih =>
        intro hd
        obtain ⟨o, ho⟩ : ∃ o, ops[k + 1 + d]? = some o := ⟨ops[k + 1 + d], by simp [show k + 1 + d < ops.size by omega]⟩
        rw [← Nat.add_assoc, (T.still ho (hch _ o (by omega) (by omega) ho)).1 _ (by omega), ih (by omega)]
    have := this (q - (k + 1)) (by omega)
    rwa [show k + 1 + (q - (k + 1)) = q by omega] at this

section
variable {j0 j : Nat → RB} {w0 w : World} {S : Nat → Prop} {p : Nat} {H : Hp} {fr : Fr} {a : Act}
/-- The place may go on over what is not chained. -/
theorem At.move (A : At E ops b FR HH j0 w0 S p j H fr w a) (T : Text E ops b ST FR HH) {q : Nat} (hpq : p ≤ q) (hq : q ≤ ops.size) (hch : ∀ (c : Nat) (o : Oper), p ≤ c → c < q → ops[c]? = some o → ¬ chainC (cls o.op))
    (hl : ∀ (i : Nat) (o : Oper), ops[i]? = some o → cls o.op = .a → i < q → S i) : At E ops b FR HH j0 w0 S q j H fr w a := by
  obtain ⟨s1, s2, s3⟩ := T.seg hpq hq hch
  refine ⟨hq, fun c o ho hc => ?_, hl, fun i hi hqi => A.hS i hi (by omega), fun i hi hqi => A.hN i hi (by omega), fun x hx => ?_, A.inv, A.act, A.tm, A.sz, A.rnd, A.marks, A.fp⟩
  · rw [A.chain c o ho hc]
    refine ⟨fun h => by omega, fun h => Nat.lt_of_not_le fun h' => hch c o h' h ho hc⟩
  · by_cases h : ∃ k, p ≤ k ∧ k < q ∧ x = b + k
    · obtain ⟨k, h1, h2, rfl⟩ := h
      rw [s2 k h1 h2]
      by_cases hS : S k
      · exact A.hS k (by omega) h1 hS
      · obtain ⟨o, ho⟩ : ∃ o, ops[k]? = some o := ⟨ops[k], by simp [show k < ops.size by omega]⟩
        rw [A.hN k (by omega) h1 hS, s3 k o h1 h2 ho fun e => hS (hl k o ho e h2)]
    · have hx' : ∀ k, p ≤ k → k < q → x ≠ b + k := fun k h1 h2 e => h ⟨k, h1, h2, e⟩
      rw [s1 x hx']
      refine A.hO x fun k h1 h2 e => ?_
      rcases Nat.lt_or_ge k q with h3 | h3
      · exact h ⟨k, h1, h3, e⟩
      · exact hx k h3 h2 e
theorem At.here (A : At E ops b FR HH j0 w0 S p j H fr w a) (T : Text E ops b ST FR HH) (hd : drawOk ops.toList = true) {i : Nat} {o : Oper} (N : Next ops.toList S i o) (hc : chainC (cls o.op)) : At E ops b FR HH j0 w0 S i j H fr w a := by
  have ho : ops[i]? = some o := by simpa using N.at'
  have hi := size_of ho
  have bef : ∀ (k : Nat) (ok : Oper), ops[k]? = some ok → k < i → cls ok.op = .a ∨ chainC (cls ok.op) → S k := fun k ok hk hlt h => N.before hd (by simpa using hk) hlt (.inl ⟨hc, h⟩)
  refine A.move T ?_ (by omega) (fun c oc h1 h2 hoc hcc => ?_) fun k ok hk hka hlt => bef k ok hk hlt (.inl hka)
  · exact Nat.le_of_not_lt fun h => N.not ((A.chain i o ho hc).2 h)
  · have := (A.chain c oc hoc hcc).1 (bef c oc hoc h2 (.inr hcc))
    omega
theorem put_sz (fr : Fr) (d : Option Tmp) (v : Value) : (fr.put d v).sz = fr.sz := by cases d <;> rfl
theorem put_marks (fr : Fr) (d : Option Tmp) (v : Value) : (fr.put d v).marks = fr.marks := by cases d <;> rfl
/-- Nothing of the heap is touched, and the place stays. -/
theorem At.same (A : At E ops b FR HH j0 w0 S p j H fr w a) (T : Text E ops b ST FR HH) (hd : drawOk ops.toList = true) {i : Nat} {o : Oper} (N : Next ops.toList S i o) (hc : ¬ chainC (cls o.op)) (hh : HH (i + 1) = HH i) {v : Value} (hv : FR (i + 1) = (FR i).put o.dst v)
    (hsc : Sc H.born v) : At E ops b FR HH j0 w0 (fun k => S k ∨ k = i) p j H (fr.put o.dst v) w (a.put o.dst (conc j v)) := by
  have ho : ops[i]? = some o := by simpa using N.at'
  have hi := size_of ho
  refine ⟨A.ple, fun c oc hoc hcc => ?_, fun k ok hk hka hlt => .inl (A.lays k ok hk hka hlt), fun k hk hpk hS => ?_, fun k hk hpk hS => A.hN k hk hpk fun h => hS (.inl h), A.hO, A.inv,
    A.act.put hsc (fun d h => by rw [A.sz]; exact T.dst i o ho d h), A.tm.put T hd N hv, by rw [put_sz]; exact A.sz, by rw [put_round]; exact A.rnd, by rw [put_marks]; exact A.marks, A.fp⟩
  · rw [← A.chain c oc hoc hcc]
    refine ⟨fun h => h.resolve_right fun e => ?_, .inl⟩
    subst e
    rw [ho] at hoc; cases hoc
    exact hc hcc
  · rcases hS with hS | rfl
    · exact A.hS k hk hpk hS
    · rw [A.hN k hk hpk N.not, hh]
      have := T.own k (by omega) k (Nat.le_refl _) hk
      simp only [Hp.born, ne_eq, Classical.not_not] at this
      exact this.symm
end
end
end Go.Ai
namespace Go.Ai
noncomputable section
open Classical
variable {E : Env} {ops : Array Oper} {b : Nat} {ST : Nat → Option Book} {FR : Nat → Fr} {HH : Nat → Hp}
variable {j0 j : Nat → RB} {w0 w : World} {S : Nat → Prop} {p : Nat} {H : Hp} {fr : Fr} {a : Act}

theorem At.old (A : At E ops b FR HH j0 w0 S p j H fr w a) (T : Text E ops b ST FR HH) {x : Nat} (hx : (HH 0).born x) : H.t.get x = (HH p).t.get x :=
  A.hO x fun k _ hks e => T.own 0 (by omega) k (by omega) hks (e ▸ hx)
theorem At.mid (A : At E ops b FR HH j0 w0 S p j H fr w a) (T : Text E ops b ST FR HH) {H' : Hp} (hs : ∀ x v y, (HH 0).t.get x = some (v, y) → H'.t.get x = (HH 0).t.get x → H.t.get x = (HH 0).t.get x) : Mid (HH 0) H H' := by
  refine ⟨fun x hx => ?_, hs, fun c v x hc hl v' x' hc' => ?_⟩
  · unfold Hp.born
    rw [A.old T hx]
    exact (T.evo_le (Nat.zero_le p) A.ple).born hx
  · have hx : (HH 0).born c := by simp [Hp.born, hc']
    rw [A.old T hx] at hc
    exact (T.evo_le (Nat.zero_le p) A.ple).dead c v x hc hl v' x' hc'
theorem At.vals (A : At E ops b FR HH j0 w0 S p j H fr w a) (T : Text E ops b ST FR HH) (hd : drawOk ops.toList = true) {i : Nat} {o : Oper} (N : Next ops.toList S i o) : ∀ x ∈ o.op.operands, fr.val x = (FR i).val x := by
  intro x hx
  cases x with
  | tmp t =>
    refine A.tm.names T hd N ?_
    unfold names
    exact List.mem_append_left _ (List.mem_append_right _ (List.mem_filterMap.2 ⟨.tmp t, by simpa using hx, rfl⟩))
  | _ => rfl
theorem At.wanted (A : At E ops b FR HH j0 w0 S p j H fr w a) (T : Text E ops b ST FR HH) (hd : drawOk ops.toList = true) {i : Nat} {o : Oper} (N : Next ops.toList S i o) : wantedA ops.toList fr o = wantedA ops.toList (FR i) o := by
  unfold wantedA
  split
  · rfl
  · rename_i g want hg
    cases hn : nth ops.toList g with
    | none => rfl
    | some og =>
      cases hdg : og.dst with
      | none => simp only [hdg]
      | some d =>
        have : tmv fr.tm d = tmv (FR i).tm d := A.tm.names T hd N (by
          unfold names
          refine List.mem_append_right _ ?_
          rw [nth_eq] at hn
          simp only [hg, hn, Option.bind_some, hdg, Option.toList_some, List.mem_singleton])
        simp only [hdg, val_tmp, this]
theorem At.opAt (A : At E ops b FR HH j0 w0 S p j H fr w a) (T : Text E ops b ST FR HH) (hd : drawOk ops.toList = true) {i : Nat} {o : Oper} (N : Next ops.toList S i o) (hop : operOk E.G o = true) :
    OpAt j (FR i).val o a ∧ ∀ x ∈ o.op.operands, Sc H.born ((FR i).val x) := by
  obtain ⟨h1, h2⟩ := opAt_of A.inv A.act hop
  exact ⟨fun x hx => by rw [h1 x hx, A.vals T hd N x hx], fun x hx => by rw [← A.vals T hd N x hx]; exact h2 x hx⟩
theorem Text.vsc (T : Text E ops b ST FR HH) {i : Nat} {o : Oper} (ho : ops[i]? = some o) : ∀ x ∈ o.op.operands, Sc (HH i).born ((FR i).val x) := by
  have hi := size_of ho
  obtain ⟨h1, _, _⟩ := operOk_spec (T.ok o (Array.mem_of_getElem? ho))
  intro x hx
  have h1 := h1 x hx
  cases x with
  | tmp t => exact T.fsc i (by omega) t
  | const v => exact Sc.of_addrFree h1
  | global g =>
    have hlt : g < E.G := by simpa [opndOk, Nat.blt_eq] using h1
    exact Sc.ptr 0 (T.glob i (by omega) g hlt)
  | func f => intro j j' e; simp [Fr.val, cf]

/-- Nothing of the heap is touched by a chained operation that is left out. -/
theorem At.sameC {i : Nat} (A : At E ops b FR HH j0 w0 S i j H fr w a) (T : Text E ops b ST FR HH) (hd : drawOk ops.toList = true) {o : Oper} (N : Next ops.toList S i o) (hh : HH (i + 1) = HH i) {v : Value} (hv : FR (i + 1) = (FR i).put o.dst v)
    (hsc : Sc H.born v) : At E ops b FR HH j0 w0 (fun k => S k ∨ k = i) (i + 1) j H (fr.put o.dst v) w (a.put o.dst (conc j v)) := by
  have ho : ops[i]? = some o := by simpa using N.at'
  have hi := size_of ho
  refine ⟨hi, fun c oc hoc hcc => ?_, fun k ok hk hka hlt => ?_, fun k hk hpk hS => A.hS k hk (by omega) (hS.resolve_right (by omega)), fun k hk hpk hS => A.hN k hk (by omega) fun h => hS (.inl h), fun x hx => ?_, A.inv,
    A.act.put hsc (fun d h => by rw [A.sz]; exact T.dst i o ho d h), A.tm.put T hd N hv, by rw [put_sz]; exact A.sz, by rw [put_round]; exact A.rnd, by rw [put_marks]; exact A.marks, A.fp⟩
  · rw [A.chain c oc hoc hcc]; omega
  · rcases Nat.lt_or_ge k i with h | h
    · exact .inl (A.lays k ok hk hka h)
    · exact .inr (by omega)
  · rw [hh]
    by_cases hxi : x = b + i
    · subst hxi
      rw [A.hN i hi (Nat.le_refl _) N.not]
      have := T.own i (by omega) i (Nat.le_refl _) hi
      simp only [Hp.born, ne_eq, Classical.not_not] at this
      exact this.symm
    · exact A.hO x fun k hk hks e => by
        rcases Nat.lt_or_ge i k with h | h
        · exact hx k h hks e
        · obtain rfl : k = i := by omega
          exact hxi e

/-- One operation in a drawn order. -/
theorem At.step (hE : EnvOk E) (A : At E ops b FR HH j0 w0 S p j H fr w a) (T : Text E ops b ST FR HH) (hd : drawOk ops.toList = true) (h0 : ST 0 = some (b, drawInfo ops.toList, [], [])) {i : Nat} {o : Oper} (N : Next ops.toList S i o) {r : Option Nat} {K : Act → World → Prop} {Q : Exit → Act → World → Prop}
    (hK : ∀ p' j' H' fr' w' a', At E ops b FR HH j0 w0 (fun k => S k ∨ k = i) p' j' H' fr' w' a' → K a' w') : wpOpIn (Fw r) 0 E.P ops Q i K a w := by
  have ho : ops[i]? = some o := by simpa using N.at'
  have hi := size_of ho
  have hop := T.ok o (Array.mem_of_getElem? ho)
  obtain ⟨hR, hsc⟩ := A.opAt T hd N hop
  have hwq := A.wanted T hd N
  have hlen : ops.toList.length - (ops.toList.drop (i + 1)).length - 1 = i := by simp; omega
  obtain ⟨bk, hbk, hb1⟩ := T.book i (by omega)
  have hnx0 := T.nxt 0 (by omega)
  have htop := T.top
  have hnx : b + i < (HH i).next := by
    have := (T.evo_le (i := 0) (k := i) (by omega) (by omega)).next
    omega
  have hdst : ∀ d, o.dst = some d → d < fr.sz := fun d h => by rw [A.sz]; exact T.dst i o ho d h
  have own : ∀ k, i ≤ k → k < ops.size → (HH i).t.get (b + k) = none := fun k h1 h2 => by
    have := T.own i (by omega) k h1 h2
    simpa [Hp.born] using this
  have own0 : ∀ x, (HH 0).born x → ∀ k, k < ops.size → x ≠ b + k := fun x hx k h2 e => T.own 0 (by omega) k (by omega) h2 (e ▸ hx)
  have evi := T.evo_le (i := 0) (k := i) (by omega) (by omega)
  have s := T.step i o ho
  rw [hbk] at s
  generalize hst1 : ST (i + 1) = st' at s
  generalize hh1 : HH (i + 1) = h' at s
  generalize hf1 : FR (i + 1) = fr' at s
  cases s with
  | skip hw hdd =>
    have hwt := wanted_eq (hwq.trans hw) A.act.tm
    refine op_skip ho hwt ?_
    by_cases hc : chainC (cls o.op)
    · have := (A.here T hd N hc).sameC T hd N hh1 hf1 (Sc.undef _)
      rw [conc_undef] at this
      exact hK _ _ _ _ _ _ this
    · have := A.same T hd N hc hh1 hf1 (Sc.undef _)
      rw [conc_undef] at this
      exact hK _ _ _ _ _ _ this
  | p hw hc hq hdd =>
    have hwt := wanted_eq (hwq.trans hw) A.act.tm
    have hv := quiet_sc hE (n := H.born) hq hsc (fun x hx => by cases hx)
    refine op_wanted ho hwt (op_q hE hop hR hq (fun b _ x hx => by cases hx) (hK _ _ _ _ _ _ (A.same T hd N (by rw [hc]; intro h; rcases h with h | h <;> cases h) hh1 hf1 hv)))
  | q hw hc hq hdd hst =>
    have hwt := wanted_eq (hwq.trans hw) A.act.tm
    have look : ∀ x, reads (FR i).val o.op = some x → ∀ y, blkAt (HH i) (reads (FR i).val o.op) = some y → ∃ v, H.t.get x = some (v, y) := fun x hx y hy => by
      obtain ⟨c, v, hcx, hv⟩ := blkAt_some hy
      rw [hx] at hcx; cases hcx
      exact get_of (A.get T h0 N hw hc hx (get_some hv) (reads_born hsc hx))
    have hv := quiet_sc hE (n := H.born) hq hsc (fun y hy => by
      obtain ⟨c, v, hcx, hv⟩ := blkAt_some hy
      obtain ⟨v', hv'⟩ := look c hcx y hy
      exact (A.inv.low _ _ _ hv').2.2.2.2)
    refine op_wanted ho hwt (op_q hE hop hR hq (fun x hx y hy => ?_) (hK _ _ _ _ _ _ (A.same T hd N (by rw [hc]; intro h; rcases h with h | h <;> cases h) hh1 hf1 hv)))
    obtain ⟨v', hv'⟩ := look x hx y hy
    exact (A.inv.low _ _ _ hv').2.2.2.1
  | a hw hc hl hdd hst =>
    rename_i B f id
    have hwt := wanted_eq (hwq.trans hw) A.act.tm
    rcases hst with ⟨e, _⟩ | ⟨b', i', is, ss, rs, e, e', hid, rfl⟩
    · cases e
    cases e
    simp only at hb1
    subst hb1
    rw [hlen] at hid
    subst hid
    have hpi : p ≤ i := Nat.le_of_not_lt fun h => N.not (A.lays i o ho hc h)
    have hnb : ¬ H.born (b' + i) := by simp [Hp.born, A.hN i hi hpi N.not]
    have g1 : Grew (HH i) ((HH i).put (b' + i) B) (b' + i) B := Grew.put B (Nat.le_refl _) (T.nxt i (by omega)) hnx
    have htopH := A.inv.top
    have g : Grew H ⟨max H.next (HH 0).next, (H.put (b' + i) B).clk, (H.put (b' + i) B).t⟩ (b' + i) B := Grew.put B (by omega) (by omega) (by omega)
    generalize hH' : (⟨max H.next (HH 0).next, (H.put (b' + i) B).clk, (H.put (b' + i) B).t⟩ : Hp) = H' at g
    refine op_wanted ho hwt (op_a hE hop A.inv hR hl hsc hnb g fun j' w' R hfs => ?_)
    obtain ⟨H2, n2, c2, get2⟩ : ∃ H2 : Hp, H2.next = max H.next (HH 0).next ∧ H2.clk = max (H.clk + 1) ((HH i).clk + 1) ∧ ∀ x, H2.t.get x = if x = b' + i then some ((HH i).clk + 1, B) else H.t.get x :=
      ⟨⟨max H.next (HH 0).next, max (H.clk + 1) ((HH i).clk + 1), Tr.set 64 H.t (b' + i) (some ((HH i).clk + 1, B))⟩, rfl, rfl, fun x => Tr.get_set 64 _ _ _ _ (by omega)⟩
    have hge : ∀ x, H2.get x = H'.get x := fun x => by unfold Hp.get; rw [get2, g.get]; split <;> rfl
    have I2 : Inv E.G j' H2 w' := R.inv.rever hge (by omega) fun c v x hx => by
      rw [get2] at hx
      split at hx
      · cases hx; subst_vars; exact ⟨by omega, by omega⟩
      · have := A.inv.low _ _ _ hx
        exact ⟨by omega, by omega⟩
    have F2 : Fp j0 j' (HH 0) H2 w0 w' := by
      refine (A.fp.trans' R.fp (A.mid T fun x v y hx e => ?_)).rever hge fun x hx e => ?_
      · rwa [g.get, if_neg (own0 x (by simp [Hp.born, hx]) i hi)] at e
      · rw [get2, if_neg (own0 x hx i hi)] at e
        rw [g.get, if_neg (own0 x hx i hi)]
        exact e
    have born2 : ∀ x, H'.born x → H2.born x := fun x => by rw [born_iff_get, born_iff_get, hge]; exact id
    have Fr2 := ((A.act.ran R).put hfs hdst).ext (j' := j') (fun _ _ => rfl) born2
    have nchain : ¬ chainC (cls o.op) := by rw [hc]; intro h; rcases h with h | h <;> cases h
    refine hK p j' H2 _ w' _ ⟨A.ple, fun c oc hoc hcc => ?_, fun k ok hk hka hlt => .inl (A.lays k ok hk hka hlt), fun k hk hpk hS => ?_, fun k hk hpk hS => ?_, fun x hx => ?_, I2, Fr2, A.tm.put T hd N hf1, by rw [put_sz]; exact A.sz, by rw [put_round]; exact A.rnd, by rw [put_marks]; exact A.marks, F2⟩
    · rw [← A.chain c oc hoc hcc]
      refine ⟨fun h => h.resolve_right fun e => ?_, .inl⟩
      subst e
      rw [ho] at hoc; cases hoc
      exact nchain hcc
    · rw [get2]
      by_cases hki : k = i
      · subst hki
        rw [if_pos rfl, hh1, g1.get, if_pos rfl]
      · rw [if_neg (by omega)]
        exact A.hS k hk hpk (hS.resolve_right hki)
    · rw [get2, if_neg (by have : k ≠ i := fun e => hS (.inr e); omega)]
      exact A.hN k hk hpk fun h => hS (.inl h)
    · rw [get2, if_neg (hx i hpi hi)]
      exact A.hO x hx
  | s hw hc hb' hB hdd hst =>
    rename_i c B
    have hwt := wanted_eq (hwq.trans hw) A.act.tm
    have A := A.here T hd N (.inr hc)
    rcases hst with ⟨e, _⟩ | ⟨b', i', is, ss, rs, e, hro, e'⟩
    · cases e
    cases hg : (HH i).get c with
    | none =>
      rw [hg] at hB
      exfalso
      obtain ⟨d, op, ty, pos, aft, gd⟩ := o
      cases op <;> simp [written] at hB
      all_goals revert hB
      all_goals first
        | (unfold storeA; (repeat' split) <;> simp_all)
        | (unfold updateA; (repeat' split) <;> simp_all) | (unfold entryA; (repeat' split) <;> simp_all)
        | (unfold writtenB clearA; (repeat' split) <;> simp_all)
    | some B0 =>
      rw [hg] at hB
      obtain ⟨v, hv⟩ := get_of hg
      have hne : ∀ k, i ≤ k → k < ops.size → c ≠ b + k := fun k h1 h2 e => by rw [e, own k h1 h2] at hv; cases hv
      have hHc : H.t.get c = some (v, B0) := by rw [A.hO c hne]; exact hv
      have hlow := A.inv.low _ _ _ hHc
      have htopH := A.inv.top
      have g : Grew H (H.put c B) c B := Grew.put _ (Nat.le_refl _) htopH hlow.1
      have g1 : Grew (HH i) ((HH i).put c B) c B := Grew.put B (Nat.le_refl _) (T.nxt i (by omega)) (T.low i (by omega) _ _ _ hv).1
      generalize H.put c B = H' at g
      refine op_wanted ho hwt (op_s hE hop A.inv hR hb' (get_some hHc) hB hsc g fun w' R => ?_)
      obtain ⟨H2, n2, c2, get2⟩ : ∃ H2 : Hp, H2.next = H.next ∧ H2.clk = max (H.clk + 1) ((HH i).clk + 1) ∧ ∀ x, H2.t.get x = if x = c then some ((HH i).clk + 1, B) else H.t.get x :=
        ⟨⟨H.next, max (H.clk + 1) ((HH i).clk + 1), Tr.set 64 H.t c (some ((HH i).clk + 1, B))⟩, rfl, rfl, fun x => Tr.get_set 64 _ _ _ _ (by omega)⟩
      have hge : ∀ x, H2.get x = H'.get x := fun x => by unfold Hp.get; rw [get2, g.get]; split <;> rfl
      have I2 : Inv E.G j H2 w' := R.inv.rever hge (by omega) fun d v x hx => by
        rw [get2] at hx
        split at hx
        · cases hx; subst_vars; exact ⟨by omega, by omega⟩
        · have := A.inv.low _ _ _ hx
          exact ⟨by omega, by omega⟩
      have F2 : Fp j0 j (HH 0) H2 w0 w' := by
        refine (A.fp.trans' R.fp (A.mid T fun x v0 y0 hx e => ?_)).rever hge fun x hx e => ?_
        · rw [g.get] at e
          split at e
          · subst_vars
            rcases evi.evo x with e1 | ⟨v', x', e1, hlt⟩
            · rw [hHc, ← e1, hv]
            · exfalso
              rw [hv] at e1; cases e1
              rw [hx] at e; cases e
              have := (T.low 0 (by omega) _ _ _ hx).2
              omega
          · exact e
        · rw [get2] at e
          rw [g.get]
          split at e
          · exfalso
            have := (T.low 0 (by omega) _ _ _ e.symm).2
            have := evi.clk
            omega
          · rename_i hxc; rw [if_neg hxc]; exact e
      have born2 : ∀ x, H'.born x → H2.born x := fun x => by rw [born_iff_get, born_iff_get, hge]; exact id
      have hvs : Sc H'.born (writeVal o.op) := fun j1 j2 _ => by rw [conc_writeVal, conc_writeVal]
      have Fr2 := ((A.act.ran R).put hvs hdst).ext (j' := j) (fun _ _ => rfl) born2
      rw [conc_writeVal] at Fr2
      refine hK (i + 1) j H2 _ w' _ ⟨hi, fun c oc hoc hcc => ?_, fun k ok hk hka hlt => ?_, fun k hk hpk hS => ?_, fun k hk hpk hS => ?_, fun x hx => ?_, I2, Fr2, A.tm.put T hd N hf1, by rw [put_sz]; exact A.sz, by rw [put_round]; exact A.rnd, by rw [put_marks]; exact A.marks, F2⟩
      · rw [A.chain c oc hoc hcc]; omega
      · rcases Nat.lt_or_ge k i with h | h
        · exact .inl (A.lays k ok hk hka h)
        · exact .inr (by omega)
      · rw [get2, if_neg (fun e => hne k (by omega) hk e.symm)]
        exact A.hS k hk (by omega) (hS.resolve_right (by omega))
      · rw [get2, if_neg (fun e => hne k (by omega) hk e.symm)]
        exact A.hN k hk (by omega) fun h => hS (.inl h)
      · rw [get2, hh1, g1.get]
        split
        · rfl
        · by_cases hxi : x = b + i
          · subst hxi
            rw [A.hN i hi (Nat.le_refl _) N.not, own i (Nat.le_refl _) hi]
          · exact A.hO x fun k hk hks e => by
              rcases Nat.lt_or_ge i k with h | h
              · exact hx k h hks e
              · obtain rfl : k = i := by omega
                exact hxi e
  | c hw hc hch hev hfr hdd hst =>
    rename_i v
    have hwt := wanted_eq (hwq.trans hw) A.act.tm
    have A := A.here T hd N (.inl hc)
    have sub : ∀ x, (HH i).born x → H.t.get x = (HH i).t.get x := fun x hx => A.hO x fun k h1 h2 e => hx (by rw [e]; exact own k h1 h2)
    have I0 : Inv E.G j (HH i) w := A.inv.forget (fun x v y hx => get_some (by rw [sub x (by simp [Hp.born, hx])]; exact hx)) (T.nxt i (by omega)) (T.low i (by omega)) (T.glob i (by omega)) (T.sc i (by omega))
    refine op_wanted ho hwt (hch j w a r K Q I0 hR (T.vsc ho) fun j' w' R hv => ?_)
    have hlow1 : ∀ x v y, h'.t.get x = some (v, y) → x < h'.next ∧ v ≤ h'.clk := fun x v y hx => ⟨(R.inv.low _ _ _ hx).1, (R.inv.low _ _ _ hx).2.1⟩
    have htop1 := R.inv.top
    have htopH := A.inv.top
    obtain ⟨H2, n2, c2, get2⟩ : ∃ H2 : Hp, H2.next = max h'.next H.next ∧ H2.clk = max h'.clk H.clk ∧ ∀ x, H2.t.get x = if h'.born x then h'.t.get x else H.t.get x :=
      ⟨⟨max h'.next H.next, max h'.clk H.clk, Tr.merge h'.t H.t⟩, rfl, rfl, fun x => by
        show (Tr.merge h'.t H.t).get x = _
        rw [Tr.get_merge]
        unfold Hp.born
        cases h'.t.get x <;> simp⟩
    have hfr' : ∀ k, i ≤ k → k < ops.size → ¬ h'.born (b + k) := fun k h1 h2 => hfr _ (by have := evi.next; omega) (by simp [Hp.born, own k h1 h2])
    obtain ⟨jj, I2, F2, hjj⟩ := R.again A.inv (H' := H2) sub (fun x hx hn => by
      by_cases h : ∃ k, i ≤ k ∧ k < ops.size ∧ x = b + k
      · obtain ⟨k, h1, h2, rfl⟩ := h
        exact hfr' k h1 h2
      · exact absurd hx (by unfold Hp.born; rw [A.hO x fun k h1 h2 e => h ⟨k, h1, h2, e⟩]; exact hn)) get2 (by omega) (fun c v x hx => by
      rw [get2] at hx
      split at hx
      · have := hlow1 _ _ _ hx
        exact ⟨by omega, by omega⟩
      · have := A.inv.low _ _ _ hx
        exact ⟨by omega, by omega⟩)
    have up : ∀ x, H.born x → H2.born x := fun x hx => by
      unfold Hp.born
      rw [get2]
      split
      · assumption
      · exact hx
    have up' : ∀ x, h'.born x → H2.born x := fun x hx => by
      unfold Hp.born
      rw [get2, if_pos hx]
      exact hx
    have Fr2 := (A.act.ext F2.ext up).put (hv.mono up') hdst
    rw [hv j' jj hjj] at Fr2
    refine hK (i + 1) jj H2 _ w' _ ⟨hi, fun c oc hoc hcc => ?_, fun k ok hk hka hlt => ?_, fun k hk hpk hS => ?_, fun k hk hpk hS => ?_, fun x hx => ?_, I2, Fr2, A.tm.put T hd N hf1, by rw [put_sz]; exact A.sz, by rw [put_round]; exact A.rnd, by rw [put_marks]; exact A.marks, A.fp.trans' F2 (A.mid T fun x v y hx e => ?_)⟩
    · rw [A.chain c oc hoc hcc]; omega
    · rcases Nat.lt_or_ge k i with h | h
      · exact .inl (A.lays k ok hk hka h)
      · exact .inr (by omega)
    · rw [get2, if_neg (hfr' k (by omega) hk)]
      exact A.hS k hk (by omega) (hS.resolve_right (by omega))
    · rw [get2, if_neg (hfr' k (by omega) hk)]
      exact A.hN k hk (by omega) fun h => hS (.inl h)
    · rw [get2, hh1]
      split
      · rfl
      · rename_i hnb
        have e1 : h'.t.get x = none := by simpa [Hp.born] using hnb
        rw [e1]
        by_cases hxi : x = b + i
        · subst hxi
          exact A.hN i hi (Nat.le_refl _) N.not
        · rw [A.hO x fun k hk hks e => by
            rcases Nat.lt_or_ge i k with h | h
            · exact hx k h hks e
            · obtain rfl : k = i := by omega
              exact hxi e]
          have : ¬ (HH i).born x := fun h => hnb (hev.born h)
          simpa [Hp.born] using this
    · have hb0 : (HH 0).born x := by simp [Hp.born, hx]
      have hbi := evi.born hb0
      rw [get2, if_pos (hev.born hbi)] at e
      rw [sub x hbi]
      exact evi.same hev hx (T.low 0 (by omega) _ _ _ hx).2 e
end
end Go.Ai
namespace Go.Ai
noncomputable section
open Classical
variable {E : Env} {ops : Array Oper} {b : Nat} {ST : Nat → Option Book} {FR : Nat → Fr} {HH : Nat → Hp}

theorem Text.frame (T : Text E ops b ST FR HH) : ∀ i, i ≤ ops.size → (FR i).sz = (FR 0).sz ∧ (FR i).round = (FR 0).round ∧ (FR i).marks = (FR 0).marks := by
  intro i
  induction i with
  | zero => exact fun _ => ⟨rfl, rfl, rfl⟩
  | succ i ih =>
    intro hi
    obtain ⟨o, ho⟩ : ∃ o, ops[i]? = some o := ⟨ops[i], by simp [show i < ops.size by omega]⟩
    obtain ⟨v, hv⟩ := T.put i o ho
    rw [hv, put_sz, put_round, put_marks]
    exact ih (by omega)

theorem cnt_turn {P P' : Nat → Bool} {i : Nat} (hi : P i = true) (hi' : P' i = false) (h : ∀ k, k ≠ i → P' k = P k) : ∀ n, i < n → cnt P' n + 1 = cnt P n := by
  have same : ∀ n, n ≤ i → cnt P' n = cnt P n := by
    intro n
    induction n with
    | zero => exact fun _ => rfl
    | succ n ih => intro hn; rw [cnt_succ, cnt_succ, ih (by omega), h n (by omega)]
  intro n
  induction n with
  | zero => exact fun h => by omega
  | succ n ih =>
    intro hn
    rw [cnt_succ, cnt_succ]
    by_cases e : n = i
    · subst e; rw [same n (Nat.le_refl _), hi, hi']; simp
    · rw [h n e]; have := ih (by omega); omega
theorem cnt_zero {P : Nat → Bool} {n : Nat} (h : cnt P n = 0) : ∀ k, k < n → P k = false := by
  induction n with
  | zero => exact fun k hk => by omega
  | succ n ih =>
    rw [cnt_succ] at h
    intro k hk
    rcases Nat.lt_or_ge k n with h1 | h1
    · exact ih (by omega) k h1
    · obtain rfl : k = n := by omega
      cases hp : P k with
      | false => rfl
      | true => rw [hp] at h; simp at h

def Lst (l : Array Bool) (k : Nat) : Prop := l.getD k false = true
theorem Lst.set {l : Array Bool} {i : Nat} (hi : i < l.size) : Lst (l.setIfInBounds i true) = fun k => Lst l k ∨ k = i := by
  funext k
  apply propext
  unfold Lst
  by_cases e : k = i
  · subst e; simp [Array.getD, hi]
  · simp only [e, or_false, Array.getD_eq_getD_getElem?, Array.getElem?_setIfInBounds_ne (Ne.symm e)]

variable {j0 : Nat → RB} {w0 : World}
theorem any_of_at (hE : EnvOk E) (T : Text E ops b ST FR HH) (hd : drawOk ops.toList = true) (h0 : ST 0 = some (b, drawInfo ops.toList, [], [])) {r : Option Nat} {Q : Exit → Act → World → Prop}
    (hQ : ∀ S p j H fr w a, At E ops b FR HH j0 w0 S p j H fr w a → (∀ i, i < ops.size → S i) → Q .normal a w) :
    ∀ (fuel : Nat) (listed : Array Bool) (p : Nat) (j : Nat → RB) (H : Hp) (fr : Fr) (w : World) (a : Act), listed.size = ops.size → cnt (fun k => !(listed.getD k true)) ops.size ≤ fuel → Closed ops.toList (Lst listed) →
      At E ops b FR HH j0 w0 (Lst listed) p j H fr w a → wpAnyIn (Fw r) 0 E.P .any ops Q fuel listed a w := by
  have least : ∀ (listed : Array Bool), listed.size = ops.size → Region.ready .any ops listed = [] → ∀ i, i < ops.size → Lst listed i := by
    intro listed hs hr i
    induction i using Nat.strongRecOn with
    | ind i ih =>
      intro hi
      refine Classical.byContradiction fun hn => ?_
      have ho : ops[i]? = some ops[i] := by simp [hi]
      have : i ∈ Region.ready .any ops listed := by
        rw [mem_ready]
        refine ⟨?_, _, ho, fun e he hb => ?_⟩
        · have : i < listed.size := by omega
          unfold Lst at hn
          simp only [Array.getD, this, dite_true, Bool.not_eq_true] at hn ⊢
          exact hn
        · have := (drawOk_at hd (j := i) (oj := ops[i]) (by simp [hi])).2.1 e (by simpa using he) hb
          exact ih e.on this (by omega)
      rw [hr] at this; cases this
  intro fuel
  induction fuel with
  | zero =>
    intro listed p j H fr w a hs hc hcl A
    have hall : ∀ i, i < ops.size → Lst listed i := fun i hi => by
      have := cnt_zero (Nat.le_zero.1 hc) i hi
      have h' : i < listed.size := by omega
      unfold Lst
      simp only [Array.getD, h', dite_true, Bool.not_eq_false'] at this ⊢
      exact this
    refine ⟨?_, hQ _ _ _ _ _ _ _ A hall⟩
    apply List.eq_nil_iff_forall_not_mem.2
    intro i hi
    obtain ⟨h1, o, ho, _⟩ := mem_ready.1 hi
    have h' : i < listed.size := by have := size_of ho; omega
    have h2 := hall i (size_of ho)
    unfold Lst at h2
    simp only [Array.getD, h', dite_true] at h1 h2
    rw [h1] at h2; cases h2
  | succ fuel ih =>
    intro listed p j H fr w a hs hc hcl A
    refine ⟨fun hr => hQ _ _ _ _ _ _ _ A (least listed hs hr), fun i hi => ?_⟩
    obtain ⟨h1, o, ho, hall⟩ := mem_ready.1 hi
    have h' : i < listed.size := by have := size_of ho; omega
    have N : Next ops.toList (Lst listed) i o := by
      refine ⟨hcl, by simpa using ho, fun hL => ?_, fun e he hb => hall e (by simpa using he) hb⟩
      unfold Lst at hL
      simp only [Array.getD, h', dite_true] at h1 hL
      rw [h1] at hL; cases hL
    refine A.step hE T hd h0 N fun p' j' H' fr' w' a' A' => ?_
    rw [← Lst.set h'] at A'
    refine ih _ p' j' H' fr' w' a' (by simpa using hs) ?_ (by rw [Lst.set h']; exact N.closed') A'
    have := cnt_turn (P := fun k => !(listed.getD k true)) (P' := fun k => !((listed.setIfInBounds i true).getD k true)) (i := i) (by simp [h1]) (by simp [Array.getD, h']) (fun k hk => by
      simp only [Array.getD_eq_getD_getElem?, Array.getElem?_setIfInBounds_ne (Ne.symm hk)]) ops.size (size_of ho)
    omega

/-- A region that draws its order. -/
theorem region_any (hE : EnvOk E) {ops : Array Oper} (hops : ∀ o ∈ ops, operOk E.G o = true) (hd : drawOk ops.toList = true) {r : Option Nat} {b : Nat} {Q : Exit → Act → World → Prop} {fr fr' : Fr} {h h' : Hp}
    (t : Trace E ops.toList ops.toList (some (b, drawInfo ops.toList, [], [])) fr h fr' h') (hnx : b + ops.size ≤ h.next) (hb : ∀ k, k < ops.size → ¬ h.born (b + k)) {j : Nat → RB} {w : World} {a : Act} (I : Inv E.G j h w) (F : FrAt j h.born fr a)
    (hQ : ∀ j' w' a', Ran E.G j j' h h' w w' → FrAt j' h'.born fr' a' → Q .normal a' w') : wpAnyIn (Fw r) 0 E.P .any ops Q ops.size (Array.replicate ops.size false) a { w with drawn := w.drawn + 1 } := by
  obtain ⟨ST, FR, HH, h1, rfl, rfl, h2, h3, hstep⟩ := t.fns
  have T : Text E ops b ST FR HH := text_of hE hops (fun i o ho => hstep i o (by simpa using ho)) ⟨_, h1, rfl⟩ hnx hb I F
  have hsz : ops.toList.length = ops.size := by simp
  rw [hsz] at h2 h3
  subst h2
  subst h3
  have I1 : Inv E.G j (HH 0) { w with drawn := w.drawn + 1 } := I.heapEq rfl
  have hrep : Lst (Array.replicate ops.size false) = fun _ => False := by
    funext k
    apply propext
    unfold Lst
    by_cases hk : k < ops.size <;> simp [Array.getD, hk]
  refine any_of_at (j0 := j) (w0 := { w with drawn := w.drawn + 1 }) hE T hd h1 (fun S p j' H fr w' a' A hall => ?_) ops.size _ 0 j (HH 0) (FR 0) _ a (by simp) ?_ ?_ ?_
  · have A := A.move T A.ple (Nat.le_refl _) (fun c o h4 h5 h6 h7 => by have := (A.chain c o h6 h7).1 (hall c h5); omega) (fun i o _ _ hi => hall i hi)
    have hO : ∀ x, H.t.get x = (HH ops.size).t.get x := fun x => A.hO x fun k h4 h5 => by omega
    have hge : ∀ x, (HH ops.size).get x = H.get x := fun x => by unfold Hp.get; rw [hO]
    have hbn : ∀ x, H.born x → (HH ops.size).born x := fun x hx => by unfold Hp.born; rw [← hO]; exact hx
    have I2 := A.inv.rever hge (T.nxt _ (Nat.le_refl _)) (T.low _ (Nat.le_refl _))
    obtain ⟨f1, f2, f3⟩ := T.frame ops.size (Nat.le_refl _)
    have F2 : Fp j j' (HH 0) (HH ops.size) w w' := Fp.drew (A.fp.rever hge fun x hx e => by rw [hO]; exact e)
    refine hQ j' w' a' ⟨I2, T.evo_le (Nat.zero_le _) (Nat.le_refl _), F2⟩ ⟨⟨?_, by rw [f1]; exact T.small, fun t => ?_⟩, fun t => ?_, ?_, ?_, ?_⟩
    · rw [A.act.tm.size, A.sz, f1]
    · rw [A.act.tm.val t, A.tm.all T hall t]
    · rw [← A.tm.all T hall t]; exact (A.act.sc t).mono hbn
    · rw [A.act.marks, A.marks, f3]
    · intro c hc
      refine hbn _ (A.act.low.1 c ?_)
      rw [A.marks, ← f3]; exact hc
    · intro l hl
      refine hbn _ (A.act.low.2 l ?_)
      rw [A.rnd, ← f2]; exact hl
  · have : ∀ (P : Nat → Bool) n, cnt P n ≤ n := fun P n => by
      induction n with
      | zero => simp [cnt]
      | succ n ih => rw [cnt_succ]; split <;> omega
    exact this _ _
  · rw [hrep]; exact fun i o _ h => h.elim
  · rw [hrep]
    refine ⟨Nat.zero_le _, fun c o _ _ => ⟨fun h => h.elim, fun h => by omega⟩, fun i o _ _ h => by omega, fun i _ _ h => h.elim, fun i hi _ _ => ?_, fun x _ => rfl, I1, F, TmpAt.start, rfl, rfl, rfl, Fp.refl _ _ _⟩
    have := hb i hi
    simpa [Hp.born] using this
theorem lt_of_some'' {α : Type} {l : List α} {i : Nat} {x : α} (h : l[i]? = some x) : i < l.length := by
  rcases Nat.lt_or_ge i l.length with h' | h'
  · exact h'
  · rw [List.getElem?_eq_none h'] at h; cases h

/-! ### Another order of the text -/
theorem reOps_get {p : List Nat} {ops : List Oper} : ∀ {l : List Nat}, (∀ i ∈ l, i < ops.length) → ∀ m : Nat, (reOps p ops l)[m]? = (l[m]?).bind fun i => (ops[i]?).map (reOp p) := by
  intro l
  induction l with
  | nil => intro _ m; simp [reOps]
  | cons i l ih =>
    intro h m
    have hi := h i (by simp)
    have hn : nth ops i = some ops[i] := by rw [nth_eq]; simp [hi]
    simp only [reOps, hn]
    cases m with
    | zero => simp [hi]
    | succ m => simpa using ih (fun k hk => h k (by simp [hk])) m
structure Re (p : List Nat) (ops ops' : Array Oper) : Prop where
  size : ops'.size = ops.size
  get : ∀ (i : Nat) (o : Oper), ops[i]? = some o → idxF p i < ops.size ∧ ops'[idxF p i]? = some (reOp p o)
  sur : ∀ m, m < ops.size → ∃ i, i < ops.size ∧ idxF p i = m
  edge : ∀ (i : Nat) (o : Oper), ops[i]? = some o → (∀ e ∈ o.after, e.on < ops.size) ∧ ∀ g b, o.guard = some (g, b) → g < ops.size
  inj : ∀ i k, i < ops.size → k < ops.size → idxF p i = idxF p k → i = k
theorem re_of {p : List Nat} {ops : Array Oper} (h : reOk p ops.toList = true) : Re p ops ⟨reOps p ops.toList p⟩ := by
  simp only [reOk, Bool.and_eq_true, List.all_eq_true, List.mem_range, Nat.beq_eq] at h
  obtain ⟨⟨⟨h1, h2⟩, h3⟩, h4⟩ := h
  have hsz : ops.toList.length = ops.size := by simp
  rw [hsz] at h1 h2 h3
  have c2 : ∀ i, i < ops.size → p[idxF p i]? = some i := fun i hi => by
    have := h2 i hi
    rw [nth_eq] at this
    split at this
    · rename_i k hk; rw [hk, Nat.eq_of_beq_eq_true this]
    · cases this
  have c3 : ∀ m, m < ops.size → ∃ i, p[m]? = some i ∧ i < ops.size ∧ idxF p i = m := fun m hm => by
    have := h3 m hm
    rw [nth_eq] at this
    split at this
    · rename_i i hi
      simp only [Bool.and_eq_true, Nat.blt_eq, Nat.beq_eq] at this
      exact ⟨i, hi, by simpa using this.1, this.2⟩
    · cases this
  have hall : ∀ i ∈ p, i < ops.toList.length := fun i hi => by
    obtain ⟨m, hm, rfl⟩ := List.getElem_of_mem hi
    obtain ⟨i, e, hlt, _⟩ := c3 m (by omega)
    rw [List.getElem?_eq_getElem hm] at e
    cases e
    omega
  have hget := fun m => reOps_get (p := p) (ops := ops.toList) hall m
  have lt : ∀ i, i < ops.size → idxF p i < ops.size := fun i hi => by
    have := lt_of_some'' (c2 i hi)
    omega
  have hlen : (reOps p ops.toList p).length = ops.size := by
    apply Nat.le_antisymm
    · refine Nat.le_of_not_lt fun hlt => ?_
      have := hget ops.size
      rw [List.getElem?_eq_getElem hlt, List.getElem?_eq_none (by omega)] at this
      simp at this
    · refine Nat.le_of_not_lt fun hlt => ?_
      obtain ⟨i, e, hi, _⟩ := c3 (reOps p ops.toList p).length (by omega)
      have := hget (reOps p ops.toList p).length
      rw [e] at this
      simp [hi] at this
  refine ⟨by simpa using hlen, fun i o ho => ?_, fun m hm => ?_, fun i o ho => ?_, fun i k hi hk e => ?_⟩
  · have hi := size_of ho
    refine ⟨lt i hi, ?_⟩
    have := hget (idxF p i)
    rw [c2 i hi] at this
    simp only [List.getElem?_toArray, this, Option.bind_some, Array.getElem?_toList, ho, Option.map_some]
  · obtain ⟨i, _, hi, e⟩ := c3 m hm
    exact ⟨i, hi, e⟩
  · have hm : o ∈ ops.toList := by simpa using Array.mem_of_getElem? ho
    have := h4 o hm
    simp only [Bool.and_eq_true, List.all_eq_true, Nat.blt_eq, hsz] at this
    refine ⟨fun e he => this.1 e (by simpa using he), fun g b hg => ?_⟩
    have h5 := this.2
    rw [hg] at h5
    simpa [Nat.blt_eq] using h5
  · have a := c2 i hi
    rw [e, c2 k hk] at a
    cases a; rfl
theorem re_yielded {p : List Nat} {ops ops' : Array Oper} (R : Re p ops ops') {g : Nat} (hg : g < ops.size) (tmps : Array Value) : yielded ops' tmps (idxF p g) = yielded ops tmps g := by
  have ho : ops[g]? = some ops[g] := by simp [hg]
  unfold yielded
  rw [ho, (R.get g _ ho).2]
  rfl
theorem re_wpOpIn {p : List Nat} {ops ops' : Array Oper} (R : Re p ops ops') {F : Fence} {n : Nat} {P : Program} {Q : Exit → Act → World → Prop} {i : Nat} (hi : i < ops.size) {K : Act → World → Prop} {a : Act} {w : World} (h : wpOpIn F n P ops' Q (idxF p i) K a w) : wpOpIn F n P ops Q i K a w := by
  have ho : ops[i]? = some ops[i] := by simp [hi]
  have he := (R.edge i _ ho).2
  have hg := (R.get i _ ho).2
  generalize ops[i] = o at ho he hg
  unfold wpOpIn at *
  rw [hg] at h
  rw [ho]
  simp only at *
  have hw : Region.wanted (reOp p o) (yielded ops' a.tmps) = Region.wanted o (yielded ops a.tmps) := by
    unfold Region.wanted reOp
    obtain ⟨d, op, ty, pos, aft, gd⟩ := o
    cases gd with
    | none => rfl
    | some g =>
      obtain ⟨g, b⟩ := g
      simp only
      rw [re_yielded R (he g b rfl)]
  rw [hw] at h
  obtain ⟨d, op, ty, pos, aft, gd⟩ := o
  exact h
theorem re_any {p : List Nat} {ops ops' : Array Oper} (R : Re p ops ops') {F : Fence} {n : Nat} {P : Program} {Q : Exit → Act → World → Prop} : ∀ (fuel : Nat) (listed listed' : Array Bool) (a : Act) (w : World), listed.size = ops.size → listed'.size = ops.size →
    (∀ i, i < ops.size → listed'.getD (idxF p i) false = listed.getD i false) → wpAnyIn F n P .any ops' Q fuel listed' a w → wpAnyIn F n P .any ops Q fuel listed a w := by
  have tf : ∀ (l : Array Bool) (i : Nat), i < l.size → l.getD i true = l.getD i false := fun l i hi => by simp [Array.getD, hi]
  have up : ∀ (listed listed' : Array Bool), listed.size = ops.size → listed'.size = ops.size → (∀ i, i < ops.size → listed'.getD (idxF p i) false = listed.getD i false) →
      ∀ i, i < ops.size → (i ∈ Region.ready .any ops listed ↔ idxF p i ∈ Region.ready .any ops' listed') := by
    intro listed listed' hs hs' hl i hi
    have ho : ops[i]? = some ops[i] := by simp [hi]
    obtain ⟨lt, hg⟩ := R.get i _ ho
    have he := (R.edge i _ ho).1
    rw [mem_ready, mem_ready, tf listed i (by omega), tf listed' _ (by omega), hl i hi, ho, hg]
    simp only [Option.some.injEq, exists_eq_left']
    refine and_congr Iff.rfl ⟨fun h e hm hb => ?_, fun h e hm hb => ?_⟩
    · simp only [reOp, List.mem_toArray, List.mem_map] at hm
      obtain ⟨e0, hm0, rfl⟩ := hm
      have hm0 : e0 ∈ ops[i].after := by simpa using hm0
      have := h e0 hm0 hb
      show listed'.getD (idxF p e0.on) false = true
      rw [hl _ (he e0 hm0)]
      exact this
    · have := h (reEdge p e) (by simp only [reOp, List.mem_toArray, List.mem_map]; exact ⟨e, by simpa using hm, rfl⟩) hb
      rw [← hl _ (he e hm)]
      exact this
  have empty : ∀ (listed listed' : Array Bool), listed.size = ops.size → listed'.size = ops.size → (∀ i, i < ops.size → listed'.getD (idxF p i) false = listed.getD i false) → Region.ready .any ops listed = [] → Region.ready .any ops' listed' = [] := by
    intro listed listed' hs hs' hl h
    apply List.eq_nil_iff_forall_not_mem.2
    intro m hm
    obtain ⟨_, o, ho, _⟩ := mem_ready.1 hm
    obtain ⟨i, hi, rfl⟩ := R.sur m (by have := size_of ho; rwa [R.size] at this)
    have := (up listed listed' hs hs' hl i hi).2 hm
    rw [h] at this; cases this
  intro fuel
  induction fuel with
  | zero =>
    intro listed listed' a w hs hs' hl h
    refine ⟨?_, h.2⟩
    apply List.eq_nil_iff_forall_not_mem.2
    intro i hi
    obtain ⟨_, o, ho, _⟩ := mem_ready.1 hi
    have := (up listed listed' hs hs' hl i (size_of ho)).1 hi
    rw [h.1] at this; cases this
  | succ fuel ih =>
    intro listed listed' a w hs hs' hl h
    refine ⟨fun hr => h.1 (empty listed listed' hs hs' hl hr), fun i hi => ?_⟩
    obtain ⟨_, o, ho, _⟩ := mem_ready.1 hi
    have hlt := size_of ho
    have := re_wpOpIn R hlt (h.2 _ ((up listed listed' hs hs' hl i hlt).1 hi))
    refine wpOpIn_mono (fun a w hh => ih _ _ a w (by simpa using hs) (by simpa using hs') (fun k hk => ?_) hh) this
    by_cases e : k = i
    · subst e
      have h1 := (R.get k _ ho).1
      simp [Array.getD, hs, hs', hk, h1]
    · have : idxF p k ≠ idxF p i := fun h => e (R.inj k i hk hlt h)
      have h2 := hl k hk
      simp only [Array.getD_eq_getD_getElem?, Array.getElem?_setIfInBounds_ne (Ne.symm this), Array.getElem?_setIfInBounds_ne (Ne.symm e)] at h2 ⊢
      exact h2
theorem findOdd_spec {id : Nat} {ops : List Oper} : ∀ (l : List (Nat × Nat × List Nat)), findOdd id ops l = ops ∨ ∃ p, reOk p ops = true ∧ findOdd id ops l = reOps p ops p := by
  intro l
  induction l with
  | nil => exact .inl rfl
  | cons x l ih =>
    obtain ⟨i, n, p⟩ := x
    unfold findOdd
    split
    · split
      · exact .inr ⟨p, ‹_›, rfl⟩
      · exact .inl rfl
    · exact ih
theorem region_ord {odd : List (Nat × Nat × List Nat)} {id : Nat} {ops : Array Oper} {P : Program} (hm : P.follows .mixedOrders = true) {r : Option Nat} {Q : Exit → Act → World → Prop} {a : Act} {w : World} {ops' : Array Oper} (ho : ops' = ⟨ordOf odd id true ops.toList⟩)
    (h : wpAnyIn (Fw r) 0 P .any ops' Q ops'.size (Array.replicate ops'.size false) a { w with drawn := w.drawn + 1 }) : (Code.region id ops true).wpIn (Fw r) 0 P Q a w := by
  refine wpIn_region_any hm ?_
  rcases findOdd_spec (id := id) (ops := ops.toList) odd with e | ⟨p, hp, e⟩
  · have : ops' = ops := by rw [ho]; show (⟨findOdd id ops.toList odd⟩ : Array Oper) = ops; rw [e]
    subst this
    exact h
  · have e' : ops' = ⟨reOps p ops.toList p⟩ := by rw [ho]; show (⟨findOdd id ops.toList odd⟩ : Array Oper) = _; rw [e]
    subst e'
    have R := re_of hp
    rw [R.size] at h
    refine re_any R _ _ _ _ _ (by simp) (by simp) (fun i hi => ?_) h
    have hi2 := (R.get i _ (by simp [hi] : ops[i]? = some ops[i])).1
    simp [Array.getD, hi, hi2]
end
end Go.Ai
namespace Go.Ai
noncomputable section
open Classical
variable {E : Env}

/-! ### A scope without a goto -/
section
variable {F : Fence} {n : Nat} {P : Program} {Q : Exit → Act → World → Prop} {a : Act} {w : World} {b : Frame} {k : List Item} {cs : List Frame}
theorem stepR_scope {c : Code} : Go.step P (lone (b.atR a (.code (.scope c) :: k)) cs w) = .next (lone (b.atR a (.code c :: .inScope c :: k)) cs w) :=
  step_lone_go (by simp [stepG, stepG.exec, Frame.atR])
theorem stepR_inScope {c : Code} : Go.step P (lone (b.atR a (.inScope c :: k)) cs w) = .next (lone (b.atR a k) cs w) :=
  step_lone_go (by simp [stepG, stepG.exec, Frame.atR])
theorem wpIn_scope {c : Code} (h : c.wpIn F n P (fun e a w => (∀ l, e ≠ .goto l) ∧ Q e a w) a w) : (Code.scope c).wpIn F n P Q a w := by
  intro b k cs hro hb hr
  have h0 : (lone (b.atR a (.code (.scope c) :: k)) cs w).fenced P F := fenced_calm hb hr rfl
  obtain ⟨e, a₁, w₁, ⟨hg, hq⟩, harr⟩ := h b (.inScope c :: k) cs hro hb hr
  cases e with
  | normal => exact ⟨.normal, a₁, w₁, hq, .head h0 stepR_scope (StepsIn.trans harr (.one (fenced_calm hb hr rfl) stepR_inScope))⟩
  | exit id' =>
    have hx : exitTo id' (.inScope c :: k) = exitTo id' k := by simp [exitTo]
    exact ⟨.exit id', a₁, w₁, hq, fun k' hk => .head h0 stepR_scope (harr.1 k' (by rw [hx]; exact hk)),
      fun hr' hk => let ⟨k₁, h1, h2⟩ := harr.2 hr' (by rw [hx]; exact hk); ⟨k₁, h1, .head h0 stepR_scope h2⟩⟩
  | goto l => exact absurd rfl (hg l)
  | ret => exact ⟨_, a₁, w₁, hq, .of_steps (.one h0 stepR_scope) harr⟩
  | panic ch => exact ⟨_, a₁, w₁, hq, .of_steps (.one h0 stepR_scope) harr⟩
  | outgrown => exact ⟨_, a₁, w₁, hq, .of_steps (.one h0 stepR_scope) harr⟩
end

/-! ### What promises are worth -/
theorem wpCode_exists {r : Option Nat} {P : Program} {c : Code} {Q : Exit → Act → World → Prop} {a : Act} {w : World} (h : c.wpIn (Fw r) 0 P Q a w) : ∃ e a' w', Q e a' w' := by
  obtain ⟨e, a', w', q, _⟩ := h { (default : Frame) with roundOf := r } [] [] rfl trivial (room_Fw r _)
  exact ⟨e, a', w', q⟩
/-- What is not born below N is not born yet. -/
def Fresh (N : Nat) (h h' : Hp) : Prop := ∀ x, x < N → ¬ h.born x → ¬ h'.born x
theorem Fresh.refl (N : Nat) (h : Hp) : Fresh N h h := fun _ _ h => h
theorem Fresh.trans {N N' : Nat} {h h1 h2 : Hp} (a : Fresh N h h1) (b : Fresh N' h1 h2) (hN : N ≤ N') : Fresh N h h2 := fun x hx hn => b x (by omega) (a x hx hn)
theorem Fresh.less {N N' : Nat} {h h1 : Hp} (a : Fresh N h h1) (hN : N' ≤ N) : Fresh N' h h1 := fun x hx => a x (by omega)

theorem born_grew {h h' : Hp} {b : Nat} {x : Blk} (g : Grew h h' b x) {y : Nat} (hy : h'.born y) (hne : y ≠ b) : h.born y := by
  unfold Hp.born at *
  rwa [g.get, if_neg hne] at hy

/-- One operation: where the run is then. -/
theorem Step.go (hE : EnvOk E) {ops : Array Oper} {o : Oper} {st st' : Option Book} {fr fr' : Fr} {h h' : Hp} {i : Nat} (s : Step E ops.toList o (ops.toList.drop (i + 1)) st fr h st' fr' h') (hi : ops[i]? = some o) (hop : operOk E.G o = true)
    (hst : st = none ∨ ∃ bk, st = some bk ∧ bk.1 + ops.size ≤ h.next ∧ ∀ k, i ≤ k → k < ops.size → ¬ h.born (bk.1 + k)) {j : Nat → RB} {w : World} {a : Act} (I : Inv E.G j h w) (F : FrAt j h.born fr a) :
    (∃ j' w' a', Ran E.G j j' h h' w w' ∧ FrAt j' h'.born fr' a') ∧ (∀ N, N ≤ h.next → (∀ bk, st = some bk → N ≤ bk.1) → Fresh N h h') ∧
      (st = none ∧ st' = none ∨ ∃ bk bk', st = some bk ∧ st' = some bk' ∧ bk'.1 = bk.1 ∧ bk.1 + ops.size ≤ h'.next ∧ ∀ k, i + 1 ≤ k → k < ops.size → ¬ h'.born (bk.1 + k)) := by
  have hsz := size_of hi
  rcases hst with rfl | ⟨bk, rfl, hn, hb⟩
  · have hs := step_ok hE (r := none) (K := fun a' w' => ∃ j', Ran E.G j j' h h' w w' ∧ FrAt j' h'.born fr' a') (Q := fun _ _ _ => False) s hop I F hi fun j' w' a' R F' => ⟨j', R, F'⟩
    obtain ⟨h1, hrd, h3⟩ := hs
    obtain ⟨a', w', j', R, F'⟩ := wpOpIn_exists h3
    refine ⟨⟨j', w', a', R, F'⟩, fun N hN _ => ?_, .inl ⟨rfl, h1⟩⟩
    cases s with
    | skip _ _ => exact Fresh.refl _ _
    | p _ _ _ _ => exact Fresh.refl _ _
    | q _ _ _ _ _ => exact Fresh.refl _ _
    | a hw hc hl hd hst' =>
      rename_i B f id
      rcases hst' with ⟨_, e, rfl, ht, rfl⟩ | ⟨b, i, is, ss, rs, e, _⟩
      · have g : Grew h ⟨h.next + 1, (h.put h.next B).clk, (h.put h.next B).t⟩ h.next B := Grew.put _ (by omega) ht (by omega)
        exact fun x hx hn hb => hn (born_grew g hb (by omega))
      · cases e
    | s hw hc hb hB hd hst' =>
      rename_i b B
      have hbn : h.born b := by
        cases hg : h.get b with
        | none =>
          rw [hg] at hB
          exfalso
          obtain ⟨d, op, ty, pos, aft, gd⟩ := o
          cases op <;> simp [written] at hB
          all_goals revert hB
          all_goals first
            | (unfold storeA; (repeat' split) <;> simp_all)
            | (unfold updateA; (repeat' split) <;> simp_all) | (unfold entryA; (repeat' split) <;> simp_all)
            | (unfold writtenB clearA; (repeat' split) <;> simp_all)
        | some B0 => exact born_of_get hg
      obtain ⟨⟨v, y⟩, hv⟩ := Option.ne_none_iff_exists'.1 hbn
      have g : Grew h (h.put b B) b B := Grew.put _ (Nat.le_refl _) I.top (I.low _ _ _ hv).1
      exact fun x hx hn hb' => hn (born_grew g hb' fun e => hn (e ▸ hbn))
    | c hw hc hch hev hfr hd hst' => exact fun x hx hn => hfr x (by omega) hn
  · have hlen : ops.toList.length - (ops.toList.drop (i + 1)).length - 1 = i := by simp; omega
    obtain ⟨⟨bk', h1, h1'⟩, h2, _, _, j', w', a', R, F'⟩ := step_text hE s hop hlen (hb i (Nat.le_refl _) hsz) (by omega) I F
    refine ⟨⟨j', w', a', R, F'⟩, fun N hN hN' => ?_, .inr ⟨bk, bk', rfl, h1, h1', Nat.le_trans hn R.evo.next, fun k hk hks => h2 _ (by omega) (by omega) (hb k (by omega) hks)⟩⟩
    have := hN' bk rfl
    exact fun x hx hn => h2 x (by omega) (by omega) hn

/-! ### What a task must find, and what it does -/
def rnd (j : Nat → RB) (fr : Fr) : Option Nat := fr.round.map fun l => (j l).blk
def codePost (E : Env) (j : Nat → RB) (h : Hp) (w : World) (e : Exit) (fr' : Fr) (h' : Hp) : Exit → Act → World → Prop :=
  fun e' a' w' => e' = e ∧ ∃ j', Ran E.G j j' h h' w w' ∧ FrAt j' h'.born fr' a'
def SpecCode (E : Env) (c : Code) (fr : Fr) (h : Hp) (e : Exit) (fr' : Fr) (h' : Hp) : Prop :=
  match c with
  | .loop b => ∃ m, ∀ j w a, Inv E.G j h w → FrAt j h.born fr a → Code.roundsIn (Fw (rnd j fr)) 0 E.P b (codePost E j h w e fr' h') m a w
  | c => ∀ j w a, Inv E.G j h w → FrAt j h.born fr a → c.wpIn (Fw (rnd j fr)) 0 E.P (codePost E j h w e fr' h') a w
theorem SpecCode.wp {c : Code} {fr fr' : Fr} {h h' : Hp} {e : Exit} (s : SpecCode E c fr h e fr' h') {j : Nat → RB} {w : World} {a : Act} (I : Inv E.G j h w) (F : FrAt j h.born fr a) : c.wpIn (Fw (rnd j fr)) 0 E.P (codePost E j h w e fr' h') a w := by
  cases c with
  | loop b => obtain ⟨m, hm⟩ := s; exact wpIn_loop_rounds m (hm j w a I F)
  | _ => exact s j w a I F
def SpecCall (E : Env) (f : FuncId) (args : List Value) (h : Hp) (v : Value) (h' : Hp) : Prop :=
  (∃ fn, E.P.funcs[f]? = some fn ∧ fn.body.isNone = false ∧ (fn.name == "runtime.NumGoroutine") = false) ∧
  ∀ (j : Nat → RB) (w : World), Inv E.G j h w → (∀ x ∈ args, Sc h.born x) →
    CallsIn (Fw none) 0 E.P f ⟨args.map (conc j)⟩ w fun e w' => ∃ j', e = .returned (conc j' v) ∧ Ran E.G j j' h h' w w' ∧ Sc h'.born v
def SpecRound (E : Env) (l : Nat) (args : List Value) (h : Hp) (v : Value) (h' : Hp) : Prop :=
  ∀ (j : Nat → RB) (w : World), Inv E.G j h w → (∀ x ∈ args, Sc h.born x) → ∃ f tmps assign body,
    (Instr.yield (j l).blk ⟨args.map (conc j)⟩).run E.P w = .ok (.round (j l).blk f tmps assign body) w ∧
    ∀ r, RoundIn (Fw r) 0 E.P (j l).blk f tmps assign body w fun e w' => ∃ j', e = .returned (conc j' v) ∧ Ran E.G j j' h h' w w' ∧ Sc h'.born v

def Good (E : Env) : Task → Hp → Prop
  | .code c fr, h => codeOk E c = true ∧ ∃ j w a, Inv E.G j h w ∧ FrAt j h.born fr a
  | .ops all l st fr, h => (∀ o ∈ all, operOk E.G o = true) ∧ ∃ i, l = all.drop i ∧ i ≤ all.length ∧ (∃ j w a, Inv E.G j h w ∧ FrAt j h.born fr a) ∧
      (st = none ∨ ∃ bk, st = some bk ∧ bk.1 + all.length ≤ h.next ∧ ∀ k, i ≤ k → k < all.length → ¬ h.born (bk.1 + k))
  | .call _ args, h => ∃ j w, Inv E.G j h w ∧ ∀ x ∈ args, Sc h.born x
  | .round _ args, h => ∃ j w, Inv E.G j h w ∧ ∀ x ∈ args, Sc h.born x
def Does (E : Env) : Task → Hp → Res → Hp → Prop
  | .code c fr, h, res, h' => ∃ e fr', res = .code e fr' ∧ (∀ l, e ≠ .goto l) ∧ fr'.round = fr.round ∧ Evo h h' ∧ Fresh h.next h h' ∧ SpecCode E c fr h e fr' h'
  | .ops all l st fr, h, res, h' => ∃ fr', res = .code .normal fr' ∧ Trace E all l st fr h fr' h' ∧ ∀ N, N ≤ h.next → (∀ bk, st = some bk → N ≤ bk.1) → Fresh N h h'
  | .call f args, h, res, h' => ∃ v, res = .val v ∧ Evo h h' ∧ Fresh h.next h h' ∧ SpecCall E f args h v h'
  | .round l args, h, res, h' => ∃ v, res = .val v ∧ Evo h h' ∧ Fresh h.next h h' ∧ SpecRound E l args h v h'
/-- What is said of an evaluator. -/
def Snd (E : Env) (self : Self) : Prop := ∀ t h k ans, self t h k = some ans → Good E t h → ∃ res h', k res h' = some ans ∧ Does E t h res h'
end
end Go.Ai
namespace Go.Ai
noncomputable section
open Classical
variable {E : Env}

theorem readBook_some {h : Hp} {b : Option Nat} {st : Option Book} {f : Option Book → Option Ans} {ans : Ans} (hk : readBook h b st f = some ans) :
    ∃ st', f st' = some ans ∧ (st = none ∧ st' = none ∨ ∃ b0 kk m is ss rs, st = some (b0, (kk, m) :: is, ss, rs) ∧ readOk h b ss kk = true ∧ st' = some (b0, is, ss, addRec h b m rs)) := by
  unfold readBook at hk
  split at hk
  · exact ⟨_, hk, .inl ⟨rfl, rfl⟩⟩
  · rename_i b0 kk m is ss rs
    split at hk
    · exact ⟨_, hk, .inr ⟨b0, kk, m, is, ss, rs, rfl, ‹_›, rfl⟩⟩
    · cases hk
  · cases hk
theorem chained_some {st : Option Book} {c : Nat} {h : Hp} {f : Option Book → Option Ans} {ans : Ans} (hk : chained st c h f = some ans) :
    ∃ st', f st' = some ans ∧ (st = none ∧ st' = none ∨ ∃ b i is ss rs, st = some (b, i :: is, ss, rs) ∧ recsOk h rs ss.length = true ∧ st' = some (b, is, ss ++ [c], rs)) := by
  unfold chained at hk
  split at hk
  · exact ⟨_, hk, .inl ⟨rfl, rfl⟩⟩
  · rename_i b i is ss rs
    split at hk
    · exact ⟨_, hk, .inr ⟨b, i, is, ss, rs, rfl, ‹_›, rfl⟩⟩
    · cases hk
  · cases hk
theorem lay_some {all rest : List Oper} {st : Option Book} {h : Hp} {B : Blk} {f : Nat → Option Book → Hp → Option Ans} {ans : Ans} (hk : lay all rest st h B f = some ans) :
    ∃ id st' h', f id st' h' = some ans ∧ (st = none ∧ st' = none ∧ id = h.next ∧ h.next + 1 < 2 ^ 62 ∧ h' = ⟨h.next + 1, (h.put h.next B).clk, (h.put h.next B).t⟩ ∨
        ∃ b i is ss rs, st = some (b, i :: is, ss, rs) ∧ st' = some (b, is, ss, rs) ∧ id = b + (all.length - rest.length - 1) ∧ h' = h.put id B) := by
  unfold lay at hk
  split at hk
  · obtain ⟨h1, h2⟩ := newK_some hk
    exact ⟨_, _, _, h2, .inl ⟨rfl, rfl, rfl, h1, rfl⟩⟩
  · rename_i b i is ss rs
    rw [fN_eq, Hp.putK_eq] at hk
    exact ⟨_, _, _, hk, .inr ⟨b, i, is, ss, rs, rfl, rfl, rfl, rfl⟩⟩
  · cases hk
theorem Sc.fun {D : Nat → Prop} {fn : Fn} {first caps : Array Value} (h : Sc D (.func fn first caps)) : (∀ x ∈ first.toList, Sc D x) ∧ ∀ x ∈ caps.toList, Sc D x := by
  have key : ∀ j j' : Nat → RB, (∀ b, D b → j' b = j b) → first.toList.map (conc j') = first.toList.map (conc j) ∧ caps.toList.map (conc j') = caps.toList.map (conc j) := fun j j' e => by
    have := h j j' e
    rw [conc_func, conc_func] at this
    injection this with _ h1 h2
    injection h1 with h1
    injection h2 with h2
    exact ⟨h1, h2⟩
  exact ⟨fun x hx j j' e => List.map_inj_left.1 (key j j' e).1 x hx, fun x hx j j' e => List.map_inj_left.1 (key j j' e).2 x hx⟩
section
variable {o : Oper} {c : Call} {f : Operand} {ρ : Operand → Value} {first caps : Array Value} {h h' : Hp} {v : Value}
/-- A call of a function. -/
theorem chain_call (hop : operOk E.G o = true) (ho : o.op = .call c) (hc : c.callee = .value f) {g : FuncId} (hf : ρ f = .func (.func g) first caps)
    (s : SpecCall E g (first.toList ++ c.args.toList.map ρ ++ caps.toList) h v h') : Chain E o ρ h v h' := by
  intro j w a r next Q I hR hsc hn
  obtain ⟨⟨fn, h1, h2, h3⟩, s⟩ := s
  have hfo : f ∈ o.op.operands := by rw [ho]; simp [Op.operands, Call.operands, hc]
  have hao : ∀ x ∈ c.args, x ∈ o.op.operands := fun x hx => by rw [ho]; simp [Op.operands, Call.operands, hx]
  have hscf := hsc f hfo
  rw [hf] at hscf
  have hrun : (execOp (fun x => conc j (ρ x)) o).run E.P w = .ok (.enter g ⟨(first.toList ++ c.args.toList.map ρ ++ caps.toList).map (conc j)⟩) w := by
    have hf' : conc j (ρ f) = .func (.func g) ⟨first.toList.map (conc j)⟩ ⟨caps.toList.map (conc j)⟩ := by rw [hf, conc_func]; rfl
    have e : (⟨first.toList.map (conc j)⟩ : Array Value) ++ c.args.map (fun x => conc j (ρ x)) ++ (⟨caps.toList.map (conc j)⟩ : Array Value) = ⟨(first.toList ++ c.args.toList.map ρ ++ caps.toList).map (conc j)⟩ := by
      apply Array.ext'
      simp [Function.comp_def]
    simp only [execOp, ho, resolve, hc, hf', Deferred.ofValue, Sem.run_bind, Sem.run_pure, Result.andThen_ok, invoke, callFunc, run_program, h1, h2, h3, Bool.false_eq_true, if_false, e]
  refine ⟨fun _ _ => trivial, ?_⟩
  show o.uponIn _ _ _ _ _ _ ((o.semAt (Fw r).round a.eval).run E.P w)
  rw [sem_eq hop hR, hrun]
  refine ⟨fun h => by simp [Fw] at h, ?_⟩
  have hcall := s j w I (fun x hx => by
    simp only [List.mem_append, List.mem_map] at hx
    rcases hx with (hx | ⟨y, hy, rfl⟩) | hx
    · exact hscf.fun.1 x hx
    · exact hsc y (hao y (by simpa using hy))
    · exact hscf.fun.2 x hx)
  have := hcall.mono (R' := fun
      | .returned v, w'' => next (a.put o.dst v) w''
      | .panicked chain, w'' => Q (.panic chain) a w''
      | .outgrown, _ => LetsOut Q) (fun e w' ⟨j', he, R, hv⟩ => by subst he; exact hn j' w' R hv)
  exact this
/-- A call of a loop's yield. -/
theorem chain_yield (hop : operOk E.G o = true) (ho : o.op = .call c) (hc : c.callee = .value f) {l : Nat} (hf : ρ f = .func (.yield l) first caps)
    (s : SpecRound E l (first.toList ++ c.args.toList.map ρ) h v h') : Chain E o ρ h v h' := by
  intro j w a r next Q I hR hsc hn
  have hfo : f ∈ o.op.operands := by rw [ho]; simp [Op.operands, Call.operands, hc]
  have hao : ∀ x ∈ c.args, x ∈ o.op.operands := fun x hx => by rw [ho]; simp [Op.operands, Call.operands, hx]
  have hscf := hsc f hfo
  rw [hf] at hscf
  obtain ⟨f', tmps, assign, body, hy, hround⟩ := s j w I (fun x hx => by
    simp only [List.mem_append, List.mem_map] at hx
    rcases hx with hx | ⟨y, hy, rfl⟩
    · exact hscf.fun.1 x hx
    · exact hsc y (hao y (by simpa using hy)))
  have hrun : (execOp (fun x => conc j (ρ x)) o).run E.P w = .ok (.round (j l).blk f' tmps assign body) w := by
    have hf' : conc j (ρ f) = .func (.yield (j l).blk) ⟨first.toList.map (conc j)⟩ ⟨caps.toList.map (conc j)⟩ := by rw [hf, conc_func]; rfl
    have e : (⟨first.toList.map (conc j)⟩ : Array Value) ++ c.args.map (fun x => conc j (ρ x)) = ⟨(first.toList ++ c.args.toList.map ρ).map (conc j)⟩ := by
      apply Array.ext'
      simp [Function.comp_def]
    simp only [execOp, ho, resolve, hc, hf', Deferred.ofValue, Sem.run_bind, Sem.run_pure, Result.andThen_ok, invoke, e, hy]
  refine ⟨fun _ _ => trivial, ?_⟩
  show o.uponIn _ _ _ _ _ _ ((o.semAt (Fw r).round a.eval).run E.P w)
  rw [sem_eq hop hR, hrun]
  refine ⟨fun h => by simp [Fw] at h, ?_⟩
  have := (hround r).mono (R' := fun
      | .returned v, w'' => next (a.put o.dst v) w''
      | .panicked chain, w'' => Q (.panic chain) a w''
      | .outgrown, _ => LetsOut Q) (fun e w' ⟨j', he, R, hv⟩ => by subst he; exact hn j' w' R hv)
  exact this
end

/-- The entry of a map's key. -/
theorem entry_ran (hE : EnvOk E) {t : TypeId} {mv kv v : Value} {h : Hp} {b : Nat} {B : Blk} (hb : ptrB mv = some b) (hB : mapEntryA E t mv kv (h.get b) = some (B, v)) {j : Nat → RB} {w : World} (I : Inv E.G j h w) (hk : Sc h.born kv) :
    h.born b ∧ ∃ w', (Instr.mapEntry t (conc j mv) (conc j kv)).run E.P w = .ok (conc j v) w' ∧ Ran E.G j j h (h.put b B) w w' ∧ Sc (h.put b B).born v := by
  cases hg : h.get b with
  | none =>
    rw [hg] at hB
    exfalso
    revert hB
    unfold mapEntryA
    (repeat' split) <;> simp_all
  | some B0 =>
    rw [hg] at hB
    obtain ⟨ver, hv⟩ := get_of hg
    obtain ⟨i1, i2, i3, i4, i5⟩ := I.low _ _ _ hv
    have hl : B0.live := by
      cases B0 with
      | map es c => trivial
      | _ =>
        exfalso
        revert hB
        unfold mapEntryA
        (repeat' split) <;> simp_all
    obtain ⟨w', hrun, hw, hvs⟩ := mapEntry_ok hE hB hb hk i4 i5 (i3 hl)
    have gr : Grew h (h.put b B) b B := Grew.put _ (Nat.le_refl _) I.top i1
    obtain ⟨q1, q2, q3⟩ := I.write gr hv (fun _ => hl) hw.at' hw.sc hw.size hw.os hw.tape hw.output (fun r hr => hw.oth r (hr hl))
    exact ⟨by simp [Hp.born, hv], w', hrun, ⟨q1, q2, q3⟩, hvs.mono fun _ => gr.born⟩
theorem chain_entry (hE : EnvOk E) {o : Oper} {t : TypeId} {m key : Operand} (ho : o.op = .mapEntry t m key) (hop : operOk E.G o = true) {ρ : Operand → Value} {h : Hp} {b : Nat} {B : Blk} {v : Value} (hb : ptrB (ρ m) = some b) (hB : mapEntryA E t (ρ m) (ρ key) (h.get b) = some (B, v)) :
    Chain E o ρ h v (h.put b B) := by
  intro j w a r next Q I hR hsc hn
  obtain ⟨_, w', hrun, R, hvs⟩ := entry_ran hE hb hB I (hsc key (by rw [ho]; simp [Op.operands]))
  refine wp_value hop hR (v := conc j v) (w' := w') ?_ (hn j w' R hvs)
  simp [execOp, ho, hrun]

/-- What copy leaves. -/
def copied (h : Hp) (e : Option (Nat × Blk)) : Hp := match e with
  | some (b, B) => h.put b B
  | none => h
theorem copyK_some {β : Type} {tys : List TypeId} {args : List Value} {h : Hp} {k : Value → Hp → Option β} {r : β} (hk : copyK E tys args h k = some r) :
    ∃ e v, copyA E tys args h = some (e, v) ∧ k v (copied h e) = some r := by
  unfold copyK at hk
  split at hk
  · rename_i e v ha
    refine ⟨e, v, ha, ?_⟩
    cases e with
    | none => exact hk
    | some e =>
      obtain ⟨b, B⟩ := e
      simp only [forceB_eq, Hp.putK_eq] at hk
      exact hk
  · cases hk
theorem copy_ran (hE : EnvOk E) {tys : Array TypeId} {ty : TypeId} {args : List Value} {h : Hp} {e : Option (Nat × Blk)} {v : Value} (ha : copyA E tys.toList args h = some (e, v)) {j : Nat → RB} {w : World} (I : Inv E.G j h w) :
    (∀ b B, e = some (b, B) → h.born b) ∧ ∃ w', (Builtin.copy_ tys ty ⟨args.map (conc j)⟩).run E.P w = .ok (conc j v) w' ∧ Ran E.G j j h (copied h e) w w' ∧ Sc (copied h e).born v := by
  unfold copyA at ha
  split at ha
  · rename_i t trest base dl dc sb sl sc htys
    split at ha
    · rename_i elem hd
      split at ha
      · rename_i size hs
        have h0 : tys[0]? = some t := by rw [← Array.getElem?_toList, htys]; rfl
        have goI : ∀ n : Nat, conc j (goInt n) = goInt n := fun n => rfl
        have main : ∀ (n : Nat) (xs : List Value) (w' : World), Nat.min sl dl = n → (∀ a c, (Builtin.firstCells size n (.slice (sb.map (ca j)) a c)).run E.P w = .ok ⟨xs⟩ w) →
            (∀ a, base.map (ca j) = some a → (storeCells a xs).run E.P w = .ok () w') → (base = none → w' = w) →
            (Builtin.copy_ tys ty ⟨[Value.slice base dl dc, .slice sb sl sc].map (conc j)⟩).run E.P w = .ok (goInt n) w' := by
          intro n xs w' hn hf hst hnone
          have hund := run_und hE hd w
          have hsz := size_ok hE hs w
          simp only [List.map_cons, List.map_nil, conc_sliceAny, Builtin.copy_, Builtin.lenOf, h0, Sem.run_bind, Sem.run_pure, Result.andThen_ok, List.getElem?_toArray, List.getElem?_cons_zero, List.getElem?_cons_succ, hund, hsz, hn, hf]
          cases base with
          | none => simp [hnone rfl]
          | some a => simp [hst _ rfl]
        unfold copyN at ha
        split at ha
        · rename_i hn
          cases ha
          refine ⟨fun b B e => (by cases e), w, ?_, Ran.refl I, fun _ _ _ => rfl⟩
          exact main 0 [] w hn (fun a c => by cases sb <;> simp [Builtin.firstCells, loadCells, loadCellsFrom]) (fun a _ => by simp [storeCells]) (fun _ => rfl)
        · rename_i n hn
          split at ha
          · rename_i xs hxs
            rw [hn] at hxs
            obtain ⟨hr, hlen, hxsc⟩ := valueCells_ok I hxs E.P
            rw [conc_sliceAny] at hr
            unfold copyTo at ha
            split at ha
            · rename_i b off
              split at ha
              · rename_i g cs hg hone
                split at ha
                · rename_i cs' hsp
                  rw [hn] at ha
                  cases ha
                  obtain ⟨ver, hv⟩ := get_of hg
                  obtain ⟨i1, i2, i3, i4, i5⟩ := I.low _ _ _ hv
                  obtain ⟨hst, hw⟩ := Wrote.cells (D := h.born) i4 i5 hsp (fun v hv => List.all_eq_true.1 hone v hv) hxsc E.P
                  have gr : Grew h (h.put b (.cells true g cs')) b (.cells true g cs') := Grew.put _ (Nat.le_refl _) I.top i1
                  obtain ⟨q1, q2, q3⟩ := I.write gr hv (fun _ => trivial) hw.at' hw.sc hw.size hw.os hw.tape hw.output (fun r hr => hw.oth r (hr trivial))
                  refine ⟨fun b' B' e => ?_, _, ?_, ⟨q1, q2, q3⟩, fun _ _ _ => rfl⟩
                  · cases e; simp [Hp.born, hv]
                  · refine main (n + 1) (xs.map (conc j)) _ hn (fun a c => by cases sb <;> simpa [Builtin.firstCells] using hr) (fun a e => ?_) (fun e => by cases e)
                    simp only [Option.map_some, Option.some.injEq] at e
                    subst e
                    rw [ca]
                    exact hst
                · cases ha
              · cases ha
            · cases ha
          · cases ha
      · cases ha
    · cases ha
  · cases ha
theorem chain_copy (hE : EnvOk E) {o : Oper} {args : Array Operand} {tys : Array TypeId} (ho : o.op = .call { callee := .builtin .copy, args := args, argTypes := tys }) (hop : operOk E.G o = true) {ρ : Operand → Value} {h : Hp} {e : Option (Nat × Blk)} {v : Value}
    (ha : copyA E tys.toList (args.toList.map ρ) h = some (e, v)) : Chain E o ρ h v (copied h e) := by
  intro j w a r next Q I hR hsc hn
  obtain ⟨_, w', hrun, R, hvs⟩ := copy_ran hE (ty := o.type) ha I
  refine wp_value hop hR (v := conc j v) (w' := w') ?_ (hn j w' R hvs)
  have hmap : args.map (fun x => conc j (ρ x)) = ⟨(args.toList.map ρ).map (conc j)⟩ := by
    apply Array.ext'
    simp [Function.comp_def]
  simp only [execOp, ho, resolve, invoke, builtin, Sem.run_bind, Sem.run_pure, Result.andThen_ok, hmap, hrun]

def Eff.seen (h : Hp) : Eff → Prop
  | .write b _ => h.born b
  | .swap b _ => h.born b
  | _ => True
/-- Which blocks an append touches. -/
theorem append_born {tys : List TypeId} {args : List Value} {h : Hp} {e : Eff} {f : Nat → Value} (ha : appendA E tys args h = some (e, f)) : Eff.seen h e := by
  unfold appendA at ha
  simp only [appendAt, appendNone, appendShut, appendOpen] at ha
  (repeat' split at ha) <;> first | (cases ha; done) | (cases ha; trivial) | (cases ha; exact born_of_get ‹_›)
theorem applied_fresh {h h' : Hp} {e : Eff} {N : Nat} (ha : Applied h e N h') (hb : Eff.seen h e) (top : h.next < 2 ^ 62) (low : ∀ b v x, h.t.get b = some (v, x) → b < h.next) : Fresh h.next h h' := by
  have lt : ∀ b, h.born b → b < h.next := fun b hb => by
    obtain ⟨⟨v, y⟩, hv⟩ := Option.ne_none_iff_exists'.1 hb
    exact low _ _ _ hv
  cases ha with
  | keep => exact Fresh.refl _ _
  | write b x =>
    have g : Grew h (h.put b x) b x := Grew.put _ (Nat.le_refl _) top (lt b hb)
    exact fun y _ hn hy => hn (born_grew g hy fun e => hn (e ▸ hb))
  | lay x ht =>
    have g : Grew h ⟨h.next + 1, (h.put h.next x).clk, (h.put h.next x).t⟩ h.next x := Grew.put _ (by omega) ht (by omega)
    exact fun y hlt hn hy => hn (born_grew g hy (by omega))
  | swap b x ht =>
    have g : Grew h (h.put b .dead) b .dead := Grew.put _ (Nat.le_refl _) top (lt b hb)
    have g2 : Grew (h.put b .dead) ⟨h.next + 1, ((h.put b .dead).put h.next x).clk, ((h.put b .dead).put h.next x).t⟩ h.next x := Grew.put x (show h.next ≤ h.next + 1 by omega) ht (by omega)
    exact fun y hlt hn hy => hn (born_grew g (born_grew g2 hy (by omega)) fun e => hn (e ▸ hb))
end
end Go.Ai
namespace Go.Ai
noncomputable section
open Classical
variable {E : Env} (hE : EnvOk E) {self : Self} (hs : Snd E self)

theorem Good.split {all rest : List Oper} {o : Oper} {st : Option Book} {fr : Fr} {h : Hp} (g : Good E (.ops all (o :: rest) st fr) h) :
    ∃ i, all[i]? = some o ∧ rest = all.drop (i + 1) ∧ (∀ o ∈ all, operOk E.G o = true) ∧ (∃ j w a, Inv E.G j h w ∧ FrAt j h.born fr a) ∧
      (st = none ∨ ∃ bk, st = some bk ∧ bk.1 + all.length ≤ h.next ∧ ∀ k, i ≤ k → k < all.length → ¬ h.born (bk.1 + k)) := by
  obtain ⟨h1, i, h2, h3, h4, h5⟩ := g
  have h6 : all[i]? = some o := by
    have := congrArg (fun l => l[0]?) h2
    simpa using this.symm
  have hi := lt_of_some h6
  rw [List.drop_eq_getElem_cons hi] at h2
  injection h2 with _ h2
  exact ⟨i, h6, h2, h1, h4, h5⟩

include hE hs
theorem ops_step {all rest : List Oper} {o : Oper} {st st1 : Option Book} {fr fr1 : Fr} {h h1 : Hp} {k : Kont} {ans : Ans} (g : Good E (.ops all (o :: rest) st fr) h) (s : Step E all o rest st fr h st1 fr1 h1)
    (hk : self (.ops all rest st1 fr1) h1 k = some ans) : ∃ res h', k res h' = some ans ∧ Does E (.ops all (o :: rest) st fr) h res h' := by
  obtain ⟨i, hi, rfl, hops, ⟨j, w, a, I, F⟩, hst⟩ := g.split
  have hil := lt_of_some hi
  obtain ⟨⟨j1, w1, a1, R, F1⟩, hfr, hst1⟩ := Step.go hE (ops := ⟨all⟩) s (by simpa using hi) (hops o (List.mem_of_getElem? hi)) (by simpa using hst) I F
  have g1 : Good E (.ops all (all.drop (i + 1)) st1 fr1) h1 := by
    refine ⟨hops, i + 1, rfl, by omega, ⟨j1, w1, a1, R.inv, F1⟩, ?_⟩
    rcases hst1 with ⟨_, e⟩ | ⟨bk, bk', _, e, e', hn, hb⟩
    · exact .inl e
    · exact .inr ⟨bk', e, by rw [e']; simpa using hn, fun k h1 h2 => by rw [e']; exact hb k h1 (by simpa using h2)⟩
  obtain ⟨res, h', hk', fr', hres, t, hfr'⟩ := hs _ _ _ _ hk g1
  refine ⟨res, h', hk', fr', hres, .cons s t, fun N hN hN' => (hfr N hN hN').trans (hfr' N (Nat.le_trans hN R.evo.next) fun bk' hbk' => ?_) (Nat.le_refl _)⟩
  rcases hst1 with ⟨_, e⟩ | ⟨bk, bk1, e0, e, e', _, _⟩
  · rw [hbk'] at e; cases e
  · rw [hbk'] at e; cases e
    rw [e']; exact hN' bk e0

theorem snd_ops {all l : List Oper} {st : Option Book} {fr : Fr} {h : Hp} {k : Kont} {ans : Ans} (hk : doOps E self all l st fr h k = some ans) (g : Good E (.ops all l st fr) h) :
    ∃ res h', k res h' = some ans ∧ Does E (.ops all l st fr) h res h' := by
  cases l with
  | nil => exact ⟨_, _, hk, fr, rfl, .nil, fun _ _ _ => Fresh.refl _ _⟩
  | cons o rest =>
    obtain ⟨i, hi, hrest, hops, ⟨j, w, a, I, F⟩, hst⟩ := g.split
    have hop := hops o (List.mem_of_getElem? hi)
    obtain ⟨hR, hsc⟩ := opAt_of I F hop
    simp only [doOps] at hk
    split at hk
    · cases hk
    · rename_i wnt hw
      split at hk
      · obtain ⟨h1, h2⟩ := putK_some hk
        exact ops_step hE hs g (.skip hw h2) h1
      · rw [doWanted_eq] at hk
        unfold doSpec at hk
        split at hk
        · rename_i hc
          unfold doP at hk
          split at hk
          · rename_i v hq
            rw [fV_eq] at hk
            obtain ⟨h1, h2⟩ := putK_some hk
            exact ops_step hE hs g (.p hw hc hq h2) h1
          · cases hk
        · rename_i hc
          unfold doQ at hk
          split at hk
          · rename_i v hq
            obtain ⟨st', hk, hst'⟩ := readBook_some hk
            rw [fV_eq] at hk
            obtain ⟨h1, h2⟩ := putK_some hk
            exact ops_step hE hs g (.q hw hc hq h2 hst') h1
          · cases hk
        · rename_i hc
          unfold doA at hk
          split at hk
          · rename_i B f hl
            rw [forceB_eq] at hk
            obtain ⟨id, st', h', hk, hst'⟩ := lay_some hk
            rw [fV_eq] at hk
            obtain ⟨h1, h2⟩ := putK_some hk
            exact ops_step hE hs g (.a hw hc hl h2 hst') h1
          · cases hk
        · rename_i hc
          unfold doS at hk
          split at hk
          · rename_i b hb
            split at hk
            · rename_i B hB
              rw [forceB_eq, Hp.putK_eq] at hk
              obtain ⟨hk, h2⟩ := putK_some hk
              obtain ⟨st', h1, hst'⟩ := chained_some hk
              exact ops_step hE hs g (.s hw hc hb hB h2 hst') h1
            · cases hk
          · cases hk
        · rename_i hc
          unfold doC at hk
          split at hk
          · rename_i c hoc
            unfold doCall at hk
            split at hk
            · rename_i f hcal
              have hfo : f ∈ o.op.operands := by rw [hoc]; simp [Op.operands, Call.operands, hcal]
              have hao : ∀ x ∈ c.args.toList.map fr.val, Sc h.born x := fun x hx => by
                obtain ⟨y, hy, rfl⟩ := List.mem_map.1 hx
                refine hsc y ?_
                have hy' : y ∈ c.args := by simpa using hy
                rw [hoc]; simp [Op.operands, Call.operands, hy']
              split at hk
              · rename_i fn first caps hf
                have hscf := hsc f hfo
                rw [hf] at hscf
                unfold doFn at hk
                split at hk
                · rename_i gfn
                  rw [fGs_eq] at hk
                  obtain ⟨res, h', hk, v, rfl, ev, fs, sp⟩ := hs _ _ _ _ hk ⟨j, w, I, fun x hx => by
                    simp only [List.mem_append] at hx
                    rcases hx with (hx | hx) | hx
                    · exact hscf.fun.1 x hx
                    · exact hao x hx
                    · exact hscf.fun.2 x hx⟩
                  simp only [behindCall, onVal] at hk
                  obtain ⟨hk, h2⟩ := putK_some hk
                  obtain ⟨st', h1, hst'⟩ := chained_some hk
                  exact ops_step hE hs g (.c hw hc (chain_call hop hoc hcal hf sp) ev fs h2 hst') h1
                · rename_i l
                  rw [fGs_eq] at hk
                  obtain ⟨res, h', hk, v, rfl, ev, fs, sp⟩ := hs _ _ _ _ hk ⟨j, w, I, fun x hx => by
                    simp only [List.mem_append] at hx
                    rcases hx with hx | hx
                    · exact hscf.fun.1 x hx
                    · exact hao x hx⟩
                  simp only [behindCall, onVal] at hk
                  obtain ⟨hk, h2⟩ := putK_some hk
                  obtain ⟨st', h1, hst'⟩ := chained_some hk
                  exact ops_step hE hs g (.c hw hc (chain_yield hop hoc hcal hf sp) ev fs h2 hst') h1
                · cases hk
              · cases hk
            · rename_i hcal
              obtain ⟨callee, args, tys⟩ := c
              simp only at hcal
              subst hcal
              obtain ⟨e, f, N, h', ha, hap, hk⟩ := appendK_some hk
              rw [fV_eq] at hk
              obtain ⟨hk, h2⟩ := putK_some hk
              obtain ⟨st', h1, hst'⟩ := chained_some hk
              have hch := chain_append hE hoc hop ha hap
              have hev : Evo h h' := by
                obtain ⟨_, _, j', R⟩ := wpIn_exists (hch j w a none (fun a' w' => ∃ j', Ran E.G j j' h h' w w') (fun _ _ _ => False) I hR hsc fun j' w' R _ => ⟨j', R⟩)
                exact R.evo
              exact ops_step hE hs g (.c hw hc hch hev (applied_fresh hap (append_born ha) I.top fun b v x hx => (I.low b v x hx).1) h2 hst') h1
            · rename_i hcal
              obtain ⟨callee, args, tys⟩ := c
              simp only at hcal
              subst hcal
              obtain ⟨e, v, ha, hk⟩ := copyK_some hk
              rw [fV_eq] at hk
              obtain ⟨hk, h2⟩ := putK_some hk
              obtain ⟨st', h1, hst'⟩ := chained_some hk
              obtain ⟨hbn, w', _, R, _⟩ := copy_ran hE (ty := o.type) ha I
              refine ops_step hE hs g (.c hw hc (chain_copy hE hoc hop ha) R.evo (fun x _ hn hy => ?_) h2 hst') h1
              cases e with
              | none => exact hn hy
              | some e =>
                obtain ⟨b, B⟩ := e
                obtain ⟨⟨ver, y⟩, hv⟩ := Option.ne_none_iff_exists'.1 (hbn b B rfl)
                have g1 : Grew h (h.put b B) b B := Grew.put _ (Nat.le_refl _) I.top (I.low _ _ _ hv).1
                exact hn (born_grew g1 hy fun e => hn (e ▸ hbn b B rfl))
            · cases hk
          · rename_i t m key hoc
            split at hk
            · rename_i b hb
              split at hk
              · rename_i B v hB
                rw [forceB_eq, Hp.putK_eq, fV_eq] at hk
                obtain ⟨hk, h2⟩ := putK_some hk
                obtain ⟨st', h1, hst'⟩ := chained_some hk
                have hkey : Sc h.born (fr.val key) := hsc key (by rw [hoc]; simp [Op.operands])
                obtain ⟨hbn, w', _, R, _⟩ := entry_ran hE hb hB I hkey
                obtain ⟨⟨ver, y⟩, hv⟩ := Option.ne_none_iff_exists'.1 hbn
                have g1 : Grew h (h.put b B) b B := Grew.put _ (Nat.le_refl _) I.top (I.low _ _ _ hv).1
                exact ops_step hE hs g (.c hw hc (chain_entry hE hoc hop hb hB) R.evo (fun x _ hn hy => hn (born_grew g1 hy fun e => hn (e ▸ hbn))) h2 hst') h1
              · cases hk
            · cases hk
          · cases hk
end
end Go.Ai
namespace Go.Ai
noncomputable section
open Classical
variable {E : Env}

theorem putObj_other {w : World} {r k : Nat} {o : Obj} (h : k ≠ r) : (w.putObj r o).heap[k]? = w.heap[k]? := World.putObj_heap_other h
/-- A loop's record turns. -/
theorem Inv.reloop {G : Nat} {j : Nat → RB} {h : Hp} {w : World} (I : Inv G j h w) {l v : Nat} {st st' : LoopState} {pd pd' : Option Code} {tm : Tr Value} {sz : Nat} {ps : List Tmp} {as bd : Code} {d : Nat}
    (hl : h.t.get l = some (v, .loop st pd tm sz ps as bd d)) :
    ∃ r, w.heap[(j l).blk]? = some (.loop r) ∧ r.state = st ∧ r.pending = pd ∧ r.params = ⟨ps⟩ ∧ r.assign = as ∧ r.body = bd ∧ r.defers = (j d).blk ∧ TmAt j tm sz r.tmps ∧
      Ran G j j h (h.put l (.loop st' pd' tm sz ps as bd d)) w (w.putObj (j l).blk (.loop { r with state := st', pending := pd' })) := by
  obtain ⟨i1, i2, i3, i4, i5⟩ := I.low _ _ _ hl
  obtain ⟨fn, tmps, h1, h2⟩ := i4
  have hlt := i3 trivial
  refine ⟨_, h1, rfl, rfl, rfl, rfl, rfl, rfl, h2, ?_⟩
  have g : Grew h (h.put l (.loop st' pd' tm sz ps as bd d)) l (.loop st' pd' tm sz ps as bd d) := Grew.put _ (Nat.le_refl _) I.top i1
  obtain ⟨q1, q2, q3⟩ := I.write g hl (fun _ => trivial) (w' := w.putObj (j l).blk (.loop { state := st', pending := pd', fn := fn, tmps := tmps, params := ⟨ps⟩, assign := as, body := bd, defers := (j d).blk }))
    ⟨fn, tmps, World.putObj_heap_same hlt, h2⟩ i5 World.putObj_size rfl rfl rfl (fun r hr => putObj_other (hr trivial))
  exact ⟨q1, q2, q3⟩
/-- A block of deferred calls is taken. -/
theorem Inv.kill {G : Nat} {j : Nat → RB} {h : Hp} {w : World} (I : Inv G j h w) {m v : Nat} (hm : h.t.get m = some (v, .defd)) :
    w.heap[(j m).blk]? = some (.deferred (some [])) ∧ Ran G j j h (h.put m .dead) w (w.putObj (j m).blk (.deferred none)) := by
  obtain ⟨i1, i2, i3, i4, i5⟩ := I.low _ _ _ hm
  have hlt := i3 trivial
  refine ⟨i4, ?_⟩
  have g : Grew h (h.put m .dead) m .dead := Grew.put _ (Nat.le_refl _) I.top i1
  obtain ⟨q1, q2, q3⟩ := I.write g hm (fun _ => trivial) (w' := w.putObj (j m).blk (.deferred none)) trivial trivial World.putObj_size rfl rfl rfl (fun r hr => putObj_other (hr trivial))
  exact ⟨q1, q2, q3⟩
/-- The block for a loop's deferred calls. -/
theorem Inv.layDefd {G : Nat} {j : Nat → RB} {h : Hp} {w : World} (I : Inv G j h w) (ht : h.next + 1 < 2 ^ 62) :
    Ran G j (upd j h.next ⟨w.heap.size, 0, 0⟩) h ⟨h.next + 1, (h.put h.next .defd).clk, (h.put h.next .defd).t⟩ w (w.alloc (.deferred (some []))) := by
  have g : Grew h ⟨h.next + 1, (h.put h.next .defd).clk, (h.put h.next .defd).t⟩ h.next .defd := Grew.put _ (by omega) ht (by omega)
  obtain ⟨q1, q2, q3⟩ := I.lay (cap := 0) (o := .deferred (some [])) g (not_born_next I) trivial (World.alloc_heap_new _ _) trivial
  exact ⟨q1, q2, q3⟩
/-- A loop's record is laid. -/
theorem Inv.layLoop {G : Nat} {j : Nat → RB} {h : Hp} {w : World} (I : Inv G j h w) (ht : h.next + 1 < 2 ^ 62) {tm : Tr Value} {sz : Nat} {ps : List Tmp} {as bd : Code} {d : Nat} {tmps : Array Value} (ta : TmAt j tm sz tmps) (hsc : ∀ t, Sc h.born (tmv tm t)) (hd : h.born d) (fn : FuncId) :
    Ran G j (upd j h.next ⟨w.heap.size, 0, 0⟩) h ⟨h.next + 1, (h.put h.next (.loop .ready none tm sz ps as bd d)).clk, (h.put h.next (.loop .ready none tm sz ps as bd d)).t⟩ w
      (w.alloc (.loop { state := .ready, pending := none, fn := fn, tmps := tmps, params := ⟨ps⟩, assign := as, body := bd, defers := (j d).blk })) := by
  have g : Grew h ⟨h.next + 1, (h.put h.next (.loop .ready none tm sz ps as bd d)).clk, (h.put h.next (.loop .ready none tm sz ps as bd d)).t⟩ h.next (.loop .ready none tm sz ps as bd d) := Grew.put _ (by omega) ht (by omega)
  have hn := not_born_next I
  have hj : ∀ b, h.born b → upd j h.next ⟨w.heap.size, 0, 0⟩ b = j b := fun b hb => by
    unfold upd; rw [if_neg]; rintro rfl; exact hn hb
  obtain ⟨q1, q2, q3⟩ := I.lay (cap := 0) (o := .loop { state := .ready, pending := none, fn := fn, tmps := tmps, params := ⟨ps⟩, assign := as, body := bd, defers := (j d).blk }) g hn trivial
    ⟨fn, tmps, by rw [hj d hd]; exact World.alloc_heap_new _ _, ta.size, ta.small, fun t => by rw [ta.val t]; exact (hsc t _ _ hj).symm⟩ ⟨fun t => (hsc t).mono fun _ => g.born, g.born hd⟩
  exact ⟨q1, q2, q3⟩

theorem rnd_eq {j j' : Nat → RB} {D : Nat → Prop} {fr fr' : Fr} {a : Act} (F : FrAt j D fr a) (hr : fr'.round = fr.round) (e : ∀ b, D b → j' b = j b) : rnd j' fr' = rnd j fr := by
  unfold rnd
  rw [hr]
  cases h : fr.round with
  | none => rfl
  | some l => simp only [Option.map_some]; rw [e l (F.low.2 l h)]
theorem roundsIn_mono {F : Fence} {n : Nat} {P : Program} {c : Code} {Q Q' : Exit → Act → World → Prop} (hq : ∀ e a w, Q e a w → Q' e a w) : ∀ (m : Nat) (a : Act) (w : World), Code.roundsIn F n P c Q m a w → Code.roundsIn F n P c Q' m a w := by
  intro m
  induction m with
  | zero => exact fun _ _ h => h
  | succ m ih =>
    intro a w h
    rw [roundsIn_succ] at *
    refine wpIn_mono h fun e a w hh => ?_
    cases e <;> first | exact ih _ _ hh | exact hq _ _ _ hh
theorem codePost.trans {j j1 : Nat → RB} {h h1 h' : Hp} {w w1 : World} {e : Exit} {fr' : Fr} (I : Inv E.G j h w) (R : Ran E.G j j1 h h1 w w1) {e' : Exit} {a' : Act} {w' : World} (p : codePost E j1 h1 w1 e fr' h' e' a' w') : codePost E j h w e fr' h' e' a' w' := by
  obtain ⟨h1, j2, R2, F2⟩ := p
  exact ⟨h1, j2, R.trans I R2, F2⟩
end
end Go.Ai
namespace Go.Ai
noncomputable section
open Classical
variable {E : Env} (hE : EnvOk E) {self : Self} (hs : Snd E self)

/-- Most of what a piece of code does comes of its promise. -/
theorem does_code {c : Code} {fr fr' : Fr} {h h' : Hp} {e : Exit} (g : Good E (.code c fr) h) (he : ∀ l, e ≠ .goto l) (hr : fr'.round = fr.round) (hf : Fresh h.next h h') (s : SpecCode E c fr h e fr' h') : Does E (.code c fr) h (.code e fr') h' := by
  obtain ⟨_, j, w, a, I, F⟩ := g
  obtain ⟨_, a', w', _, j', R, F'⟩ := wpCode_exists (s.wp I F)
  exact ⟨e, fr', rfl, he, hr, R.evo, hf, s⟩

include hs
/-- A part of a piece of code, run. -/
theorem part_run {c : Code} {fr : Fr} {h : Hp} {k : Kont} {ans : Ans} (hk : self (.code c fr) h k = some ans) (hc : codeOk E c = true) (g : ∃ j w a, Inv E.G j h w ∧ FrAt j h.born fr a) :
    ∃ e fr' h', k (.code e fr') h' = some ans ∧ (∀ l, e ≠ .goto l) ∧ fr'.round = fr.round ∧ Evo h h' ∧ Fresh h.next h h' ∧ SpecCode E c fr h e fr' h' ∧ ∃ j w a, Inv E.G j h' w ∧ FrAt j h'.born fr' a := by
  obtain ⟨res, h', hk', e, fr', rfl, h1, h2, h3, h4, h5⟩ := hs _ _ _ _ hk ⟨hc, g⟩
  obtain ⟨j, w, a, I, F⟩ := g
  obtain ⟨_, a', w', _, j', R, F'⟩ := wpCode_exists (h5.wp I F)
  exact ⟨e, fr', h', hk', h1, h2, h3, h4, h5, j', w', a', R.inv, F'⟩

theorem snd_seq {a b : Code} {fr : Fr} {h : Hp} {k : Kont} {ans : Ans} (hk : self (.code a fr) h (fun r h => onNormal r (fun fr => self (.code b fr) h k) (k r h)) = some ans) (g : Good E (.code (.seq a b) fr) h) :
    ∃ res h', k res h' = some ans ∧ Does E (.code (.seq a b) fr) h res h' := by
  have hc := g.1
  simp only [codeOk, Bool.and_eq_true] at hc
  obtain ⟨e, fr1, h1, hk1, he, hr, ev, fs, sp, g1⟩ := part_run hs hk hc.1 g.2
  by_cases hen : e = .normal
  · subst hen
    simp only [onNormal] at hk1
    obtain ⟨e2, fr2, h2, hk2, he2, hr2, ev2, fs2, sp2, g2⟩ := part_run hs hk1 hc.2 g1
    refine ⟨_, h2, hk2, does_code g he2 (hr2.trans hr) (fs.trans fs2 ev.next) fun j w a I F => ?_⟩
    refine wpIn_seq (wpIn_mono (sp.wp I F) fun e' a' w' p => ?_)
    obtain ⟨rfl, j1, R, F1⟩ := p
    have := sp2.wp R.inv F1
    rw [rnd_eq F hr R.fp.ext] at this
    exact wpIn_mono this fun _ _ _ p => p.trans I R
  · have hk2 : k (.code e fr1) h1 = some ans := by cases e <;> first | exact absurd rfl hen | exact hk1
    refine ⟨_, h1, hk2, does_code g he hr fs fun j w a I F => ?_⟩
    refine wpIn_seq (wpIn_mono (sp.wp I F) fun e' a' w' p => ?_)
    have := p.1
    subst this
    cases e' <;> first | exact absurd rfl hen | exact p
theorem snd_loop {b : Code} {fr : Fr} {h : Hp} {k : Kont} {ans : Ans} (hk : self (.code b fr) h (fun r h => onNormal r (fun fr => self (.code (.loop b) fr) h k) (k r h)) = some ans) (g : Good E (.code (.loop b) fr) h) :
    ∃ res h', k res h' = some ans ∧ Does E (.code (.loop b) fr) h res h' := by
  have hc := g.1
  simp only [codeOk] at hc
  obtain ⟨e, fr1, h1, hk1, he, hr, ev, fs, sp, g1⟩ := part_run hs hk hc g.2
  by_cases hen : e = .normal
  · subst hen
    simp only [onNormal] at hk1
    obtain ⟨e2, fr2, h2, hk2, he2, hr2, ev2, fs2, ⟨m, hm⟩, g2⟩ := part_run hs hk1 g.1 g1
    refine ⟨_, h2, hk2, does_code g he2 (hr2.trans hr) (fs.trans fs2 ev.next) ⟨m + 1, fun j w a I F => ?_⟩⟩
    rw [roundsIn_succ]
    refine wpIn_mono (sp.wp I F) fun e' a' w' p => ?_
    obtain ⟨rfl, j1, R, F1⟩ := p
    have := hm j1 w' a' R.inv F1
    rw [rnd_eq F hr R.fp.ext] at this
    exact roundsIn_mono (fun _ _ _ p => p.trans I R) _ _ _ this
  · have hk2 : k (.code e fr1) h1 = some ans := by cases e <;> first | exact absurd rfl hen | exact hk1
    refine ⟨_, h1, hk2, does_code g he hr fs ⟨1, fun j w a I F => ?_⟩⟩
    rw [roundsIn_succ]
    refine wpIn_mono (sp.wp I F) fun e' a' w' p => ?_
    have := p.1
    subst this
    cases e' <;> first | exact absurd rfl hen | exact p
theorem snd_block {id : Nat} {b : Code} {fr : Fr} {h : Hp} {k : Kont} {ans : Ans} (hk : self (.code b fr) h (fun r h => onExit r id (fun fr => k (.code .normal fr) h) (k r h)) = some ans) (g : Good E (.code (.block id b) fr) h) :
    ∃ res h', k res h' = some ans ∧ Does E (.code (.block id b) fr) h res h' := by
  have hc := g.1
  simp only [codeOk] at hc
  obtain ⟨e, fr1, h1, hk1, he, hr, ev, fs, sp, g1⟩ := part_run hs hk hc g.2
  by_cases hen : e = .exit id
  · subst hen
    simp only [onExit, Nat.beq_refl] at hk1
    refine ⟨_, h1, hk1, does_code g (fun _ h => by cases h) hr fs fun j w a I F => ?_⟩
    refine wpIn_block (wpIn_mono (sp.wp I F) fun e' a' w' p => ?_)
    obtain ⟨rfl, p⟩ := p
    simp only [Exit.inBlock, if_true]
    exact ⟨rfl, p⟩
  · have hk2 : k (.code e fr1) h1 = some ans := by
      cases e with
      | exit i =>
        have : Nat.beq i id = false := by
          cases hb : Nat.beq i id with
          | false => rfl
          | true => exact absurd (congrArg Exit.exit (Nat.eq_of_beq_eq_true hb)) hen
        simpa only [onExit, this] using hk1
      | _ => exact hk1
    refine ⟨_, h1, hk2, does_code g he hr fs fun j w a I F => ?_⟩
    refine wpIn_block (wpIn_mono (sp.wp I F) fun e' a' w' p => ?_)
    have := p.1
    subst this
    cases e' with
    | exit i =>
      have : ¬ i = id := fun e => hen (by rw [e])
      simp only [Exit.inBlock, this, if_false]
      exact p
    | _ => exact p
theorem snd_scope {b : Code} {fr : Fr} {h : Hp} {k : Kont} {ans : Ans} (hk : self (.code b fr) h k = some ans) (g : Good E (.code (.scope b) fr) h) :
    ∃ res h', k res h' = some ans ∧ Does E (.code (.scope b) fr) h res h' := by
  have hc := g.1
  simp only [codeOk] at hc
  obtain ⟨e, fr1, h1, hk1, he, hr, ev, fs, sp, g1⟩ := part_run hs hk hc g.2
  exact ⟨_, h1, hk1, does_code g he hr fs fun j w a I F => wpIn_scope (wpIn_mono (sp.wp I F) fun e' a' w' p => ⟨p.1 ▸ he, p⟩)⟩
include hE
theorem snd_region {id : Nat} {ops : Array Oper} {d : Bool} {fr : Fr} {h : Hp} {k : Kont} {ans : Ans} (hk : doRegion self (ordOf E.odd id d ops.toList) d fr h k = some ans) (g : Good E (.code (.region id ops d) fr) h) :
    ∃ res h', k res h' = some ans ∧ Does E (.code (.region id ops d) fr) h res h' := by
  have hc := g.1
  simp only [codeOk, Bool.and_eq_true, List.all_eq_true, Bool.or_eq_true, Bool.not_eq_true'] at hc
  obtain ⟨hops, hdr⟩ := hc
  generalize hl2 : ordOf E.odd id d ops.toList = l2 at hk hops hdr
  obtain ⟨ops2, rfl⟩ : ∃ o2 : Array Oper, o2.toList = l2 := ⟨⟨l2⟩, rfl⟩
  have hl3 : ops2 = ⟨ordOf E.odd id d ops.toList⟩ := by rw [hl2]
  clear hl2
  have hops' : ∀ o ∈ ops2, operOk E.G o = true := fun o ho => hops o (by simpa using ho)
  obtain ⟨j0, w0, a0, I0, F0⟩ := g.2
  unfold doRegion at hk
  split at hk
  · have hl3 : ops2 = ops := hl3
    subst hl3
    obtain ⟨res, h', hk, fr', rfl, t, hfr⟩ := hs _ _ _ _ hk ⟨hops, 0, rfl, by omega, ⟨j0, w0, a0, I0, F0⟩, .inl rfl⟩
    exact ⟨_, h', hk, does_code g (fun _ h => by cases h) t.round (hfr _ (Nat.le_refl _) fun bk h => by cases h) fun j w a I F =>
      region_seq hE hops' t I F fun j' w' a' R F' => ⟨rfl, j', R, F'⟩⟩
  · split at hk
    · rename_i hlt
      rw [fN_eq] at hk
      have hlt : h.next + ops2.size < 2 ^ 62 := by
        have := Nat.blt_eq ▸ hlt
        simpa [Nat.blt_eq] using hlt
      have hd : drawOk ops2.toList = true := hdr.resolve_left (by simp)
      generalize hh1 : (⟨Nat.add h.next ops2.toList.length, h.clk, h.t⟩ : Hp) = h1 at hk
      have hn : h1.next = h.next + ops2.size := by subst hh1; simp
      have hcl : h1.clk = h.clk := by subst hh1; rfl
      have hgt : h1.t = h.t := by subst hh1; rfl
      have hge : ∀ x, h1.get x = h.get x := fun x => by unfold Hp.get; rw [hgt]
      have hbn : ∀ x, h1.born x ↔ h.born x := fun x => by unfold Hp.born; rw [hgt]
      have wide : ∀ {j : Nat → RB} {w : World}, Inv E.G j h w → Inv E.G j h1 w := fun I => I.rever hge (by omega) fun b v x hx => by
        rw [hgt] at hx
        have := I.low _ _ _ hx
        exact ⟨by omega, by omega⟩
      have wideF : ∀ {j : Nat → RB} {fr : Fr} {a : Act}, FrAt j h.born fr a → FrAt j h1.born fr a := fun F => F.ext (fun _ _ => rfl) fun x => (hbn x).2
      have free : ∀ k, k < ops2.size → ¬ h1.born (h.next + k) := fun k _ hb => by
        obtain ⟨⟨v, y⟩, hv⟩ := Option.ne_none_iff_exists'.1 ((hbn _).1 hb)
        have := (I0.low _ _ _ hv).1
        omega
      obtain ⟨res, h', hk, fr', rfl, t, hfr⟩ := hs _ _ _ _ hk ⟨hops, 0, rfl, by omega, ⟨j0, w0, a0, wide I0, wideF F0⟩, .inr ⟨_, rfl, by simp [hn], fun k _ hk => free k (by simpa using hk)⟩⟩
      have hfr := hfr h.next (by omega) fun bk h => by cases h; exact Nat.le_refl _
      refine ⟨_, h', hk, does_code g (fun _ h => by cases h) t.round (fun x hx hnb => hfr x hx fun hb => hnb ((hbn x).1 hb)) fun j w a I F =>
        region_ord hE.mixed hl3 (region_any hE hops' hd t (by omega) free (wide I) (wideF F) fun j' w' a' R F' => ⟨rfl, j', ⟨R.inv, ?_, ?_⟩, F'⟩)⟩
      · refine ⟨by have := R.evo.next; omega, by have := R.evo.clk; omega, fun b => ?_, fun b v x hb hl v' x' hb' => R.evo.dead b v x hb hl v' x' (by rw [hgt]; exact hb')⟩
        have := R.evo.evo b
        rw [hgt, hcl] at this
        exact this
      · refine ⟨R.fp.os, R.fp.tape, R.fp.output, R.fp.size, fun b hb => R.fp.ext b ((hbn b).2 hb), fun r hr hf => R.fp.frame r hr fun b v x hb hl hj => ?_, fun b hb hnb => ?_⟩
        · rw [hgt] at hb ⊢; exact hf b v x hb hl hj
        · have := R.fp.fresh b hb fun h => hnb ((hbn b).1 h)
          rw [hgt] at this
          exact this
    · cases hk
end
end Go.Ai
namespace Go.Ai
noncomputable section
open Classical
variable {E : Env} (hE : EnvOk E) {self : Self} (hs : Snd E self)

/-- Which way a loop over a function is left. -/
def Left (pd : Option Code) (e : Exit) : Prop := (pd = none ∧ e = .normal) ∨ (pd = some .ret ∧ e = .ret) ∨ ∃ id, pd = some (.exit id) ∧ e = .exit id

theorem range_core {g : FuncId} {args : List Value} {h2 h3 : Hp} {v : Value} (sp : SpecCall E g args h2 v h3) {l ver : Nat} {st : LoopState} {pd : Option Code} {tm : Tr Value} {sz : Nat} {ps : List Tmp} {as bd : Code} {d : Nat} (hbl : h2.born l)
    (hl : h3.t.get l = some (ver, .loop st pd tm sz ps as bd d)) (hb : st ≠ .busy) {e : Exit} (he : Left pd e) {fr' : Fr} {j2 : Nat → RB} {w2 : World} {a' : Act} (I2 : Inv E.G j2 h2 w2) (F2 : FrAt j2 h2.born fr' a') (hargs : ∀ x ∈ args, Sc h2.born x)
    {r : Option Nat} {Q : Exit → Act → World → Prop} (hQ : ∀ j' w', Ran E.G j2 j' h2 (h3.put l (.loop .exhausted pd tm sz ps as bd d)) w2 w' → FrAt j' (h3.put l (.loop .exhausted pd tm sz ps as bd d)).born fr' a' → Q e a' w') :
    CallsIn (Fw r) 0 E.P g ⟨args.map (conc j2)⟩ w2 (rangePost (Fw r) 0 E.P (j2 l).blk Q a') := by
  have := (sp.2 j2 w2 I2 hargs).mono (R' := rangePost (Fw r) 0 E.P (j2 l).blk Q a') (by
    rintro e' w3 ⟨j3, rfl, R, hv⟩
    obtain ⟨rec, hr1, hst, hpd, _, _, _, _, _, Rl⟩ := R.inv.reloop (st' := .exhausted) (pd' := pd) hl
    rw [R.fp.ext l hbl] at hr1 Rl
    have hrun := run_endLoop (P := E.P) hr1 (by rw [hst]; exact hb)
    have hw : { rec with state := .exhausted, pending := pd } = { rec with state := LoopState.exhausted } := by rw [← hpd]
    rw [hw] at Rl
    have R4 := R.trans I2 Rl
    have k := hQ _ _ R4 (F2.ran R4)
    rw [hpd] at hrun k
    refine ⟨_, _, hrun, ?_⟩
    rcases he with ⟨rfl, rfl⟩ | ⟨rfl, rfl⟩ | ⟨id, rfl, rfl⟩
    · exact k
    · exact wpIn_ret k
    · exact wpIn_exit k)
  exact this

theorem range_tail {f : Operand} {ps : Array Tmp} {assign body : Code} {fr fr' : Fr} {h h2 h3 : Hp} {g : FuncId} {first caps : Array Value} {l : Nat} {v : Value} (hop : opndOk E.G f = true) (hf : fr.val f = .func (.func g) first caps)
    (sp : SpecCall E g (first.toList ++ [.func (.yield l) #[] #[]] ++ caps.toList) h2 v h3) {ver : Nat} {st : LoopState} {pd : Option Code} {tm : Tr Value} {sz : Nat} {ps' : List Tmp} {as bd : Code} {d : Nat} (hbl : h2.born l)
    (hl : h3.t.get l = some (ver, .loop st pd tm sz ps' as bd d)) (hb : st ≠ .busy) {e : Exit} (he : Left pd e) {j : Nat → RB} {w : World} {a : Act} (I : Inv E.G j h w) (F : FrAt j h.born fr a)
    (henter : ∀ fn, ∃ mark w1 j2, (Instr.enterLoop fn a.tmps ps assign body (rnd j fr)).run E.P w = .ok ((j2 l).blk, mark) w1 ∧ Ran E.G j j2 h h2 w w1 ∧ FrAt j2 h2.born fr' { a with defers := mark ++ a.defers })
    {Q : Exit → Act → World → Prop} (hQ : ∀ j' a' w', Ran E.G j j' h (h3.put l (.loop .exhausted pd tm sz ps' as bd d)) w w' → FrAt j' (h3.put l (.loop .exhausted pd tm sz ps' as bd d)).born fr' a' → Q e a' w') :
    (Code.rangeFunc f ps assign body).wpIn (Fw (rnd j fr)) 0 E.P Q a w := by
  refine wpIn_rangeFunc fun fn _ => ?_
  obtain ⟨mark, w1, j2, hen, R, F2⟩ := henter fn
  obtain ⟨⟨fnn, f1, f2, f3⟩, _⟩ := id sp
  have hscf : Sc h.born (fr.val f) := val_sc F (fun g hg => (I.glob g hg).1) hop
  rw [hf] at hscf
  have hev : a.eval f = conc j (fr.val f) := val_ok F (fun g hg => (I.glob g hg).2) hop
  rw [hf, conc_func] at hev
  simp only [cf] at hev
  have e1 : first.toList.map (conc j) = first.toList.map (conc j2) := List.map_congr_left fun x hx => (hscf.fun.1 x hx j j2 R.fp.ext).symm
  have e2 : caps.toList.map (conc j) = caps.toList.map (conc j2) := List.map_congr_left fun x hx => (hscf.fun.2 x hx j j2 R.fp.ext).symm
  rw [e1, e2] at hev
  have eargs : (⟨first.toList.map (conc j2)⟩ : Array Value) ++ #[Value.func (.yield (j2 l).blk) #[] #[]] ++ (⟨caps.toList.map (conc j2)⟩ : Array Value) = ⟨(first.toList ++ [Value.func (.yield l) #[] #[]] ++ caps.toList).map (conc j2)⟩ := by
    apply Array.ext'
    simp [cf]
  refine ⟨(j2 l).blk, mark, w1, { target := .fn (.func g) ⟨caps.toList.map (conc j2)⟩, args := (⟨first.toList.map (conc j2)⟩ : Array Value) ++ #[Value.func (.yield (j2 l).blk) #[] #[]] }, w1, g, _, w1, hen, ?_, fun _ _ => trivial, ?_, fun h => by simp [Fw] at h, range_core (Q := Q) sp hbl hl hb he R.inv F2 ?_ fun j' w' R' F' => hQ j' _ w' (R.trans I R') F'⟩
  · have em : Array.map a.eval #[Operand.const (Value.func (.yield (j2 l).blk) #[] #[])] = #[Value.func (.yield (j2 l).blk) #[] #[]] := by simp [Act.eval]
    simp only [resolve, hev, Deferred.ofValue, Sem.run_pure, em]
  · simp only [invoke, callFunc, Sem.run_bind, run_program, Result.andThen_ok, f1, f2, f3, Bool.false_eq_true, if_false, Sem.run_pure, eargs]
  · intro x hx
    simp only [List.mem_append, List.mem_singleton] at hx
    rcases hx with (hx | rfl) | hx
    · exact (hscf.fun.1 x hx).mono fun _ => R.evo.born
    · intro j j' e
      simp [cf, e l hbl]
    · exact (hscf.fun.2 x hx).mono fun _ => R.evo.born

theorem loopDone_some {l : Nat} {fr : Fr} {k : Kont} {v : Value} {h : Hp} {ans : Ans} (hk : loopDone l fr k (.val v) h = some ans) :
    ∃ ver st pd tm sz ps as bd d e, h.t.get l = some (ver, .loop st pd tm sz ps as bd d) ∧ st ≠ .busy ∧ Left pd e ∧ k (.code e fr) (h.put l (.loop .exhausted pd tm sz ps as bd d)) = some ans := by
  simp only [loopDone, onVal] at hk
  split at hk
  · rename_i st pd tm sz ps as bd d hg
    obtain ⟨ver, hv⟩ := get_of hg
    have key : st ≠ .busy ∧ ∃ e, Left pd e ∧ k (.code e fr) (h.put l (.loop .exhausted pd tm sz ps as bd d)) = some ans := by
      split at hk
      · cases hk
      · rename_i hnb
        refine ⟨hnb, ?_⟩
        rw [Hp.putK_eq] at hk
        split at hk
        · exact ⟨_, .inl ⟨rfl, rfl⟩, hk⟩
        · split at hk
          · exact ⟨_, .inr (.inl ⟨rfl, rfl⟩), hk⟩
          · exact ⟨_, .inr (.inr ⟨_, rfl, rfl⟩), hk⟩
          · cases hk
    obtain ⟨h1, e, h2, h3⟩ := key
    exact ⟨ver, st, pd, tm, sz, ps, as, bd, d, e, hv, h1, h2, h3⟩
  · cases hk
theorem Left.nogoto {pd : Option Code} {e : Exit} (h : Left pd e) : ∀ l, e ≠ .goto l := by
  rcases h with ⟨_, rfl⟩ | ⟨_, rfl⟩ | ⟨id, _, rfl⟩ <;> intro l h <;> cases h
theorem put_fresh {h : Hp} {b : Nat} {x : Blk} {v : Nat} {y : Blk} (hb : h.t.get b = some (v, y)) (hlt : b < 2 ^ 62) (N : Nat) : Fresh N h (h.put b x) := fun z _ hn hz => by
  have : (h.put b x).t.get z = if z = b then some (h.clk + 1, x) else h.t.get z := Tr.get_set 64 _ _ _ _ (by omega)
  unfold Hp.born at hz
  rw [this] at hz
  split at hz
  · rename_i e; subst e; exact hn (by simp [Hp.born, hb])
  · exact hn hz
theorem new_get {h : Hp} {x : Blk} (ht : h.next + 1 < 2 ^ 62) : ∀ z, (⟨h.next + 1, (h.put h.next x).clk, (h.put h.next x).t⟩ : Hp).t.get z = if z = h.next then some (h.clk + 1, x) else h.t.get z :=
  fun z => Tr.get_set 64 _ _ _ _ (by omega)
theorem new_fresh {h : Hp} {x : Blk} (ht : h.next + 1 < 2 ^ 62) : Fresh h.next h ⟨h.next + 1, (h.put h.next x).clk, (h.put h.next x).t⟩ := fun z hz hn hb => by
  unfold Hp.born at hb
  rw [new_get ht, if_neg (by omega)] at hb
  exact hn hb

theorem enter_inner {P : Program} {w : World} (fn : FuncId) (tmps : Array Value) (ps : Array Tmp) (assign body : Code) {l : Nat} {r : Loop} (hl : w.heap[l]? = some (.loop r)) :
    (Instr.enterLoop fn tmps ps assign body (some l)).run P w = .ok (w.heap.size, []) (w.alloc (.loop { state := .ready, pending := none, fn, tmps, params := ps, assign, body, defers := r.defers })) := by
  unfold Instr.enterLoop
  simp only [Sem.run_bind, run_getLoop hl, run_newObj_alloc, Result.andThen, Sem.run_pure]

include hs
theorem snd_range {f : Operand} {ps : Array Tmp} {assign body : Code} {fr : Fr} {h : Hp} {k : Kont} {ans : Ans} (hk : doRangeFn self (fr.val f) ps.toList assign body fr h k = some ans) (g : Good E (.code (.rangeFunc f ps assign body) fr) h) :
    ∃ res h', k res h' = some ans ∧ Does E (.code (.rangeFunc f ps assign body) fr) h res h' := by
  have hc := g.1
  simp only [codeOk, Bool.and_eq_true] at hc
  obtain ⟨⟨hop, _⟩, _⟩ := hc
  obtain ⟨j0, w0, a0, I0, F0⟩ := g.2
  unfold doRangeFn at hk
  split at hk
  · rename_i fn first caps hf
    split at hk
    · rename_i gf
      have hscf : Sc h.born (fr.val f) := val_sc F0 (fun g hg => (I0.glob g hg).1) hop
      rw [hf] at hscf
      unfold doRange at hk
      split at hk
      · rename_i hround
        obtain ⟨ht1, hk⟩ := newK_some hk
        generalize hh1 : (⟨h.next + 1, (h.put h.next .defd).clk, (h.put h.next .defd).t⟩ : Hp) = h1 at hk
        have hn1 : h1.next = h.next + 1 := by subst hh1; rfl
        obtain ⟨ht2, hk⟩ := newK_some hk
        generalize hh2 : (⟨h1.next + 1, (h1.put h1.next (.loop .ready none fr.tm fr.sz ps.toList assign body h.next)).clk, (h1.put h1.next (.loop .ready none fr.tm fr.sz ps.toList assign body h.next)).t⟩ : Hp) = h2 at hk
        have hb1 : h1.born h.next := by
          subst hh1
          unfold Hp.born
          rw [new_get ht1, if_pos rfl]; simp
        have hb2 : h2.born h1.next := by
          subst hh2
          unfold Hp.born
          rw [new_get ht2, if_pos rfl]; simp
        have hfs : Fresh h.next h h2 := by
          have f1 : Fresh h.next h h1 := by subst hh1; exact new_fresh ht1
          have f2 : Fresh h1.next h1 h2 := by subst hh2; exact new_fresh ht2
          exact f1.trans f2 (by omega)
        have hn2 : h2.next = h.next + 2 := by subst hh2; show h1.next + 1 = _; omega
        have enter : ∀ (j : Nat → RB) (w : World) (a : Act), Inv E.G j h w → FrAt j h.born fr a → ∀ fn, ∃ mark w1 j2, (Instr.enterLoop fn a.tmps ps assign body none).run E.P w = .ok ((j2 h1.next).blk, mark) w1 ∧ Ran E.G j j2 h h2 w w1 ∧
            FrAt j2 h2.born ⟨fr.tm, fr.sz, h.next :: fr.marks, none⟩ { a with defers := mark ++ a.defers } := by
          intro j w a I F fn
          have R1 := I.layDefd ht1
          rw [hh1] at R1
          have F1 := F.ran R1
          have R2 := R1.inv.layLoop ht2 (ps := ps.toList) (as := assign) (bd := body) F1.tm F1.sc hb1 fn
          rw [hh2] at R2
          have R := R1.trans I R2
          have F2 := F.ran R
          have e1 : (upd j h.next ⟨w.heap.size, 0, 0⟩ h.next).blk = w.heap.size := by simp [upd]
          simp only [e1] at R
          have e2 : (upd (upd j h.next ⟨w.heap.size, 0, 0⟩) h1.next ⟨(w.alloc (.deferred (some []))).heap.size, 0, 0⟩ h1.next).blk = w.heap.size + 1 := by simp [upd]
          have e3 : (upd (upd j h.next ⟨w.heap.size, 0, 0⟩) h1.next ⟨(w.alloc (.deferred (some []))).heap.size, 0, 0⟩ h.next).blk = w.heap.size := by
            have : h.next ≠ h1.next := by omega
            simp [upd, this]
          refine ⟨[{ target := .collected w.heap.size, args := #[] }], _, _, ?_, R, ⟨F2.tm, F2.sc, ?_, ?_, fun l hl => by cases hl⟩⟩
          · rw [e2]; exact run_enterLoop_outer fn a.tmps ps assign body
          · simp only [List.map_cons, e3, ← F2.marks, List.singleton_append]
          · intro c hc
            rcases List.mem_cons.1 hc with rfl | hc
            · exact R2.evo.born hb1
            · exact F2.low.1 c hc
        have hargs : ∀ x ∈ first.toList ++ [Value.func (.yield h1.next) #[] #[]] ++ caps.toList, Sc h2.born x := by
          obtain ⟨_, w1, j2, _, R, _⟩ := enter j0 w0 a0 I0 F0 0
          intro x hx
          simp only [List.mem_append, List.mem_singleton] at hx
          rcases hx with (hx | rfl) | hx
          · exact (hscf.fun.1 x hx).mono fun _ => R.evo.born
          · intro j j' e
            simp [cf, e _ hb2]
          · exact (hscf.fun.2 x hx).mono fun _ => R.evo.born
        obtain ⟨_, w1, j2, _, R0, _⟩ := enter j0 w0 a0 I0 F0 0
        obtain ⟨res, h3, hk, v, rfl, ev, fs, sp⟩ := hs _ _ _ _ hk ⟨j2, w1, R0.inv, hargs⟩
        obtain ⟨ver, st, pd, tm, sz, ps', as, bd, d, e, hl, hbz, he, hk⟩ := loopDone_some hk
        have hlt : h1.next < 2 ^ 62 := by omega
        refine ⟨_, _, hk, does_code g he.nogoto hround.symm ((hfs.trans fs (by omega)).trans (put_fresh hl hlt h.next) (Nat.le_refl _)) fun j w a I F => ?_⟩
        have hr : rnd j fr = none := by unfold rnd; rw [hround]; rfl
        refine range_tail hop hf sp hb2 hl hbz he I F (fun fn => ?_) fun j' a' w' R F' => ⟨rfl, j', R, F'⟩
        rw [hr]
        exact enter j w a I F fn
      · rename_i l0 hround
        split at hk
        · rename_i st0 pd0 tm0 sz0 ps0 as0 bd0 d0 hg0
          obtain ⟨ver0, hl0⟩ := get_of hg0
          obtain ⟨ht2, hk⟩ := newK_some hk
          generalize hh2 : (⟨h.next + 1, (h.put h.next (.loop .ready none fr.tm fr.sz ps.toList assign body d0)).clk, (h.put h.next (.loop .ready none fr.tm fr.sz ps.toList assign body d0)).t⟩ : Hp) = h2 at hk
          have hb2 : h2.born h.next := by
            subst hh2
            unfold Hp.born
            rw [new_get ht2, if_pos rfl]; simp
          have hfs : Fresh h.next h h2 := by subst hh2; exact new_fresh ht2
          have hn2 : h2.next = h.next + 1 := by subst hh2; rfl
          have enter : ∀ (j : Nat → RB) (w : World) (a : Act), Inv E.G j h w → FrAt j h.born fr a → ∀ fn, ∃ mark w1 j2, (Instr.enterLoop fn a.tmps ps assign body (some (j l0).blk)).run E.P w = .ok ((j2 h.next).blk, mark) w1 ∧ Ran E.G j j2 h h2 w w1 ∧
              FrAt j2 h2.born fr { a with defers := mark ++ a.defers } := by
            intro j w a I F fn
            obtain ⟨rec, hr1, _, _, _, _, _, hdf, _, _⟩ := I.reloop (st' := st0) (pd' := pd0) hl0
            have R := I.layLoop ht2 (ps := ps.toList) (as := assign) (bd := body) F.tm F.sc (I.low _ _ _ hl0).2.2.2.2.2 fn
            rw [hh2] at R
            have F2 := F.ran R
            refine ⟨[], _, _, ?_, R, F2⟩
            rw [enter_inner fn a.tmps ps assign body hr1, hdf]
            simp [upd]
          have hargs : ∀ x ∈ first.toList ++ [Value.func (.yield h.next) #[] #[]] ++ caps.toList, Sc h2.born x := by
            obtain ⟨_, w1, j2, _, R, _⟩ := enter j0 w0 a0 I0 F0 0
            intro x hx
            simp only [List.mem_append, List.mem_singleton] at hx
            rcases hx with (hx | rfl) | hx
            · exact (hscf.fun.1 x hx).mono fun _ => R.evo.born
            · intro j j' e
              simp [cf, e _ hb2]
            · exact (hscf.fun.2 x hx).mono fun _ => R.evo.born
          obtain ⟨_, w1, j2, _, R0, _⟩ := enter j0 w0 a0 I0 F0 0
          obtain ⟨res, h3, hk, v, rfl, ev, fs, sp⟩ := hs _ _ _ _ hk ⟨j2, w1, R0.inv, hargs⟩
          obtain ⟨ver, st, pd, tm, sz, ps', as, bd, d, e, hl, hbz, he, hk⟩ := loopDone_some hk
          have hlt : h.next < 2 ^ 62 := by omega
          refine ⟨_, _, hk, does_code g he.nogoto rfl ((hfs.trans fs (by omega)).trans (put_fresh hl hlt h.next) (Nat.le_refl _)) fun j w a I F => ?_⟩
          have hr : rnd j fr = some (j l0).blk := by unfold rnd; rw [hround]; rfl
          refine range_tail hop hf sp hb2 hl hbz he I F (fun fn => ?_) fun j' a' w' R F' => ⟨rfl, j', R, F'⟩
          rw [hr]
          exact enter j w a I F fn
        · cases hk
    · cases hk
  · cases hk
end
end Go.Ai
namespace Go.Ai
noncomputable section
open Classical
variable {E : Env} (hE : EnvOk E) {self : Self} (hs : Snd E self)

/-! ### A function's arguments -/
def putArgs : Nat → List Value → Tr Value → Tr Value
  | _, [], t => t
  | i, v :: vs, t => putArgs (i + 1) vs (Tr.set 32 t i (some v))
theorem setArgs_eq {β : Type} (vs : List Value) : ∀ (i : Nat) (t : Tr Value) (k : Tr Value → β), setArgs i vs t k = k (putArgs i vs t) := by
  induction vs with
  | nil => exact fun _ _ _ => rfl
  | cons v vs ih => intro i t k; simp only [setArgs, fN_eq, Tr.setK_eq, ih, putArgs]
theorem putArgs_get (vs : List Value) : ∀ (i : Nat) (t : Tr Value), i + vs.length + 1 < 2 ^ 32 → ∀ n, (putArgs i vs t).get n = if i ≤ n ∧ n < i + vs.length then vs[n - i]? else t.get n := by
  induction vs with
  | nil => intro i t _ n; rw [if_neg (by intro ⟨h1, h2⟩; have h2 : n < i := h2; omega)]; rfl
  | cons v vs ih =>
    intro i t hi n
    simp only [List.length_cons] at hi ⊢
    rw [putArgs, ih _ _ (by omega)]
    by_cases h : n = i
    · subst h
      rw [if_neg (by omega), if_pos (by omega), Tr.get_set 32 _ _ _ _ (by omega), if_pos rfl]
      simp
    · by_cases h2 : i + 1 ≤ n ∧ n < i + 1 + vs.length
      · rw [if_pos h2, if_pos (by omega), show n - i = (n - (i + 1)) + 1 by omega]
        simp
      · rw [if_neg h2, if_neg (by omega), Tr.get_set 32 _ _ _ _ (by omega), if_neg h]
theorem args_at {j : Nat → RB} {args : List Value} {n : Nat} (ha : args.length ≤ n) (hn : n < 2147483647) :
    TmAt j (putArgs 0 args .nil) n ((⟨args.map (conc j)⟩ : Array Value) ++ Array.replicate (n - (⟨args.map (conc j)⟩ : Array Value).size) undef) := by
  refine ⟨by simp; omega, by omega, fun t => ?_⟩
  unfold tmv
  rw [putArgs_get args 0 .nil (by omega)]
  simp only [Nat.zero_le, true_and, Nat.zero_add, Nat.sub_zero, Tr.get_nil]
  by_cases h : t < args.length
  · rw [if_pos h]
    simp [Array.getD_eq_getD_getElem?, Array.getElem?_append, h]
  · rw [if_neg h]
    simp only [conc_undef]
    rw [Array.getD_eq_getD_getElem?, Array.getElem?_append_right (by simp; omega)]
    rw [Array.getElem?_replicate]
    split <;> rfl
theorem args_sc {D : Nat → Prop} {args : List Value} {n : Nat} (ha : args.length ≤ n) (hn : n < 2147483647) (h : ∀ x ∈ args, Sc D x) (t : Nat) : Sc D (tmv (putArgs 0 args .nil) t) := by
  unfold tmv
  rw [putArgs_get args 0 .nil (by omega)]
  split
  · rename_i v hv
    split at hv
    · exact h v (List.mem_of_getElem? hv)
    · cases hv
  · exact Sc.undef _

/-! ### A function's results -/
def resF (tmps : Array Value) : ResultVar → Sem Value
  | .tmp t => pure (tmps.getD t undef)
  | .cell b t => do loadVar t (← asAddr (tmps.getD b undef))
theorem results_eq (fn : Func) (tmps : Array Value) : results fn tmps = (do
    let vs ← fn.results.mapM (resF tmps)
    pure (if h : vs.size = 1 then vs[0] else .tuple vs)) := by
  unfold results
  congr 1
theorem resultsA_some {fr : Fr} {h : Hp} {t : Tmp} {rs : List ResultVar} {vs : List Value} (hr : resultsA E fr h (.tmp t :: rs) = some vs) : ∃ l, resultsA E fr h rs = some l ∧ vs = fr.val (.tmp t) :: l := by
  simp only [resultsA, Option.map_eq_some_iff] at hr
  obtain ⟨l, h1, h2⟩ := hr
  exact ⟨l, h1, h2.symm⟩
theorem resultsA_cell {fr : Fr} {h : Hp} {a : Tmp} {t : TypeId} {rs : List ResultVar} {vs : List Value} (hr : resultsA E fr h (.cell a t :: rs) = some vs) :
    ∃ b off rw g cs v l, fr.val (.tmp a) = .pointer (some ⟨b, off, none⟩) ∧ h.get b = some (.cells rw g cs) ∧ part E t cs off = some v ∧ resultsA E fr h rs = some l ∧ vs = v :: l := by
  simp only [resultsA] at hr
  split at hr
  · rename_i b off hv
    split at hr
    · rename_i rw g cs hg
      split at hr
      · rename_i v hp
        simp only [Option.map_eq_some_iff] at hr
        obtain ⟨l, h1, h2⟩ := hr
        exact ⟨b, off, rw, g, cs, v, l, hv, hg, hp, h1, h2.symm⟩
      · cases hr
    · cases hr
  · cases hr
include hE
theorem results_ok {G : Nat} {j : Nat → RB} {fr : Fr} {h h2 : Hp} {w : World} {a : Act} (F : FrAt j h2.born fr a) (I : Inv G j h2 w) (kept : ∀ b rw g cs, h.get b = some (.cells rw g cs) → h2.get b = some (.cells rw g cs)) :
    ∀ (rs : List ResultVar) (vs : List Value), resultsA E fr h rs = some vs →
      (rs.mapM (resF a.tmps)).run E.P w = .ok (vs.map (conc j)) w ∧ ∀ v ∈ vs, Sc h2.born v := by
  intro rs
  induction rs with
  | nil => intro vs hr; cases hr; exact ⟨by simp, fun v hv => by cases hv⟩
  | cons r rs ih =>
    intro vs hr
    cases r with
    | tmp t =>
      obtain ⟨l, h1, rfl⟩ := resultsA_some hr
      obtain ⟨i1, i2⟩ := ih l h1
      refine ⟨?_, fun v hv => ?_⟩
      · simp only [List.mapM_cons, resF, Sem.run_bind, Sem.run_pure, Result.andThen_ok, i1, List.map_cons, val_tmp, F.tm.val t]
      · rcases List.mem_cons.1 hv with rfl | hv
        · exact F.sc t
        · exact i2 v hv
    | cell b t =>
      obtain ⟨c, off, rw_, g, cs, v, l, hv, hg, hp, h1, rfl⟩ := resultsA_cell hr
      obtain ⟨i1, i2⟩ := ih l h1
      have hg2 := kept _ _ _ _ hg
      obtain ⟨ver, hl⟩ := get_of hg2
      obtain ⟨l1, l2, l3, l4, l5⟩ := I.low _ _ _ hl
      have hload := load_ok hE (t := t) (a := .pointer (some ⟨c, off, none⟩)) (v := v) (B := some (.cells rw_ g cs)) hp j w (fun b' hb' x hx => by cases hb'; cases hx; exact l4)
      have hval := F.tm.val b
      rw [← val_tmp, hv] at hval
      simp only [conc_ptr, Instr.loadAt, Instr.sureAddr, Sem.run_bind, Sem.run_pure, Result.andThen_ok] at hload
      refine ⟨?_, fun v' hv' => ?_⟩
      · have hA : (asAddr (a.tmps.getD b undef)).run E.P w = .ok ⟨(j c).blk, (j c).off + off, none⟩ w := by rw [hval]; simp [asAddr, ca]
        simp only [List.mapM_cons, resF, Sem.run_bind, Sem.run_pure, Result.andThen_ok, i1, List.map_cons, hA, hload]
      · rcases List.mem_cons.1 hv' with rfl | hv'
        · exact part_sc hp l5
        · exact i2 v' hv'
omit hE
theorem oneOrTuple_ok (P : Program) (j : Nat → RB) (vs : List Value) (fn : Func) (tmps : Array Value) (w : World)
    (h : (fn.results.toList.mapM (resF tmps)).run P w = .ok (vs.map (conc j)) w) : (results fn tmps).run P w = .ok (conc j (oneOrTuple vs)) w := by
  rw [results_eq]
  simp only [Array.mapM_eq_mapM_toList, Sem.run_bind, Sem.run_map, h, Result.andThen_ok, Sem.run_pure]
  congr 1
  match vs with
  | [] => simp [oneOrTuple]
  | [v] => simp [oneOrTuple]
  | v :: u :: l => simp [oneOrTuple]
theorem oneOrTuple_sc {D : Nat → Prop} {vs : List Value} (h : ∀ v ∈ vs, Sc D v) : Sc D (oneOrTuple vs) := by
  have ht : Sc D (.tuple ⟨vs⟩) := fun j j' e => by
    rw [conc_tuple, conc_tuple]
    have : vs.map (conc j') = vs.map (conc j) := List.map_congr_left fun x hx => h x hx j j' e
    simp [this]
  match vs with
  | [] => exact ht
  | [v] => exact h v (by simp)
  | v :: u :: l => exact ht

/-! ### The marks of a function's loops -/
inductive Closes : List Nat → Hp → Hp → Prop
  | nil {h} : Closes [] h h
  | cons {m ms h h2 v} (hm : h.t.get m = some (v, .defd)) (c : Closes ms (h.put m .dead) h2) : Closes (m :: ms) h h2
theorem closeMarks_some {β : Type} (ms : List Nat) : ∀ {h : Hp} {k : Hp → Option β} {r : β}, closeMarks ms h k = some r → ∃ h2, Closes ms h h2 ∧ k h2 = some r := by
  induction ms with
  | nil => intro h k r hk; exact ⟨h, .nil, hk⟩
  | cons m ms ih =>
    intro h k r hk
    simp only [closeMarks] at hk
    split at hk
    · rename_i hg
      obtain ⟨v, hv⟩ := get_of hg
      rw [Hp.putK_eq] at hk
      obtain ⟨h2, c, hk⟩ := ih hk
      exact ⟨h2, .cons hv c, hk⟩
    · cases hk
theorem Closes.kept {ms : List Nat} {h h2 : Hp} (c : Closes ms h h2) : ∀ {G : Nat} {j : Nat → RB} {w : World}, Inv G j h w → ∀ b rw g cs, h.get b = some (.cells rw g cs) → h2.get b = some (.cells rw g cs) := by
  induction c with
  | nil => exact fun _ _ _ _ _ h => h
  | @cons m ms h h2 v hm c ih =>
    intro G j w I b rw_ g cs hg
    obtain ⟨_, R⟩ := I.kill hm
    refine ih R.inv b rw_ g cs ?_
    have hlt := (I.low _ _ _ hm).1
    have htop := I.top
    unfold Hp.get
    have : (h.put m .dead).t.get b = if b = m then some (h.clk + 1, .dead) else h.t.get b := Tr.get_set 64 _ _ _ _ (by omega)
    rw [this, if_neg]
    · exact hg
    · rintro rfl
      have := get_some hm
      rw [hg] at this; cases this
theorem Closes.fresh {ms : List Nat} {h h2 : Hp} (c : Closes ms h h2) : ∀ {G : Nat} {j : Nat → RB} {w : World}, Inv G j h w → ∀ N, Fresh N h h2 := by
  induction c with
  | nil => exact fun _ _ => Fresh.refl _ _
  | @cons m ms h h2 v hm c ih =>
    intro G j w I N
    obtain ⟨_, R⟩ := I.kill hm
    exact (put_fresh hm (by have := (I.low _ _ _ hm).1; have := I.top; omega) N).trans (ih R.inv N) (Nat.le_refl _)
theorem Closes.leaves {ms : List Nat} {h h2 : Hp} (c : Closes ms h h2) : ∀ {j : Nat → RB} {w : World}, Inv E.G j h w → ∃ w2, Ran E.G j j h h2 w w2 ∧ ∀ {fn : Func} {tmps : Array Value} {R : Ending → World → Prop} {r : Option Nat},
    LeavesIn (Fw r) 0 E.P fn tmps R [] .returning w2 → LeavesInM (Fw r) 0 E.P fn tmps R (ms.map fun b => ({ target := .collected (j b).blk, args := #[] } : Deferred)) .returning w := by
  induction c with
  | nil => exact fun I => ⟨_, Ran.refl I, fun h => h⟩
  | @cons m ms h h2 v hm c ih =>
    intro j w I
    obtain ⟨hh, R⟩ := I.kill hm
    obtain ⟨w2, R2, hl⟩ := ih R.inv
    refine ⟨w2, R.trans I R2, fun hL => ?_⟩
    exact ⟨by simp, .inl ⟨_, _, rfl, run_takeDeferred hh, hl hL⟩⟩

include hE hs
theorem snd_call {f : FuncId} {args : List Value} {h : Hp} {k : Kont} {ans : Ans} (hk : doEnter E self f args h k = some ans) (g : Good E (.call f args) h) :
    ∃ res h', k res h' = some ans ∧ Does E (.call f args) h res h' := by
  unfold doEnter at hk
  split at hk
  · rename_i fn hfn
    have hfP := hE.fn _ _ hfn
    split at hk
    · rename_i c hbody
      unfold enterBody at hk
      split at hk
      · rename_i hcond
        simp only [Bool.and_eq_true, Bool.not_eq_true', Nat.ble_eq, Nat.blt_eq] at hcond
        obtain ⟨⟨⟨hc, hname⟩, hlen⟩, hntm⟩ := hcond
        rw [setArgs_eq] at hk
        have frm : ∀ (j : Nat → RB), (∀ x ∈ args, Sc h.born x) → FrAt j h.born ⟨putArgs 0 args .nil, fn.ntmps, [], none⟩ { tmps := (⟨args.map (conc j)⟩ : Array Value) ++ Array.replicate (fn.ntmps - (⟨args.map (conc j)⟩ : Array Value).size) undef, defers := [] } := fun j hsc =>
          ⟨args_at hlen hntm, args_sc hlen hntm hsc, rfl, ⟨fun b hb => by simp at hb, fun l hl => by cases hl⟩⟩
        obtain ⟨j0, w0, I0, hsc0⟩ := g
        obtain ⟨e, fr1, h1, hk, he, hr, ev, fs, sp, j1, w1, a1, I1, F1⟩ := part_run hs hk hc ⟨j0, w0, _, I0, frm j0 hsc0⟩
        have hdone : (e = .normal ∨ e = .ret) ∧ ∃ vs, resultsA E fr1 h1 fn.results.toList = some vs ∧ closeMarks fr1.marks h1 (fun h => fV (oneOrTuple vs) fun v => k (.val v) h) = some ans := by
          simp only [leave, onDone] at hk
          split at hk
          · split at hk
            · rename_i vs hvs; exact ⟨.inl rfl, vs, hvs, hk⟩
            · cases hk
          · split at hk
            · rename_i vs hvs; exact ⟨.inr rfl, vs, hvs, hk⟩
            · cases hk
          · cases hk
        obtain ⟨hen, vs, hvs, hk⟩ := hdone
        obtain ⟨h2, cl, hk⟩ := closeMarks_some _ hk
        rw [fV_eq] at hk
        obtain ⟨w2, R2, _⟩ := cl.leaves I1
        refine ⟨_, h2, hk, _, rfl, ev.trans R2.evo, fs.trans (cl.fresh I1 h.next) (Nat.le_refl _), ⟨⟨fn, hfP, by rw [hbody]; rfl, hname⟩, fun j w I hsc => ?_⟩⟩
        refine callsIn_of_wp_marks (F := Fw none) hfP hbody trivial (wpIn_mono (sp.wp I (frm j hsc)) fun e' a' w' p => ?_) rfl
        obtain ⟨rfl, j1, R, F⟩ := p
        obtain ⟨w2, R2, hl⟩ := cl.leaves R.inv
        have hL : LeavesInM (Fw none) 0 E.P fn a'.tmps (fun e w'' => ∃ j', e = .returned (conc j' (oneOrTuple vs)) ∧ Ran E.G j j' h h2 w w'' ∧ Sc h2.born (oneOrTuple vs)) a'.defers .returning w' := by
          rw [F.marks]
          refine hl ?_
          have F2 := F.ran R2
          obtain ⟨r1, r2⟩ := results_ok hE F2 R2.inv (cl.kept R.inv) fn.results.toList vs hvs
          exact ⟨_, oneOrTuple_ok E.P j1 vs fn a'.tmps w2 r1, j1, rfl, R.trans I R2, oneOrTuple_sc r2⟩
        rcases hen with rfl | rfl
        · exact hL
        · exact hL
      · cases hk
    · cases hk
  · cases hk
end
end Go.Ai
namespace Go.Ai
noncomputable section
open Classical
variable {E : Env} (hE : EnvOk E) {self : Self} (hs : Snd E self)

def putParams : List Tmp → List Value → Tr Value → Tr Value
  | p :: ps, v :: vs, t => putParams ps vs (Tr.set 32 t p (some v))
  | _, _, t => t
theorem setParams_some {β : Type} : ∀ (ps : List Tmp) (vs : List Value) (sz : Nat) (t : Tr Value) (k : Tr Value → Option β) (r : β), setParams ps vs sz t k = some r → k (putParams ps vs t) = some r ∧ ps.length = vs.length ∧ ∀ p ∈ ps, p < sz := by
  intro ps
  induction ps with
  | nil =>
    intro vs sz t k r h
    cases vs with
    | nil => exact ⟨h, rfl, fun p hp => by cases hp⟩
    | cons v vs => simp [setParams] at h
  | cons p ps ih =>
    intro vs sz t k r h
    cases vs with
    | nil => simp [setParams] at h
    | cons v vs =>
      simp only [setParams] at h
      split at h
      · rename_i hp
        rw [Tr.setK_eq] at h
        obtain ⟨h1, h2, h3⟩ := ih _ _ _ _ _ h
        refine ⟨h1, by simp [h2], fun q hq => ?_⟩
        rcases List.mem_cons.1 hq with rfl | hq
        · simpa [Nat.blt_eq] using hp
        · exact h3 q hq
      · cases h
theorem tmAt_set {j : Nat → RB} {tm : Tr Value} {sz : Nat} {tmps : Array Value} (h : TmAt j tm sz tmps) {p : Nat} (hp : p < sz) (v : Value) : TmAt j (Tr.set 32 tm p (some v)) sz (tmps.setIfInBounds p (conc j v)) := by
  have hsm := h.small
  have hb : p + 1 < 2 ^ 32 := by omega
  refine ⟨by simp [h.size], hsm, fun t => ?_⟩
  have hs := h.size
  unfold tmv
  rw [Tr.get_set 32 _ _ _ _ hb]
  by_cases e : t = p
  · subst e
    simp [Array.getD, hs, hp]
  · rw [if_neg e]
    have := h.val t
    unfold tmv at this
    rw [← this]
    simp only [Array.getD_eq_getD_getElem?, Array.getElem?_setIfInBounds_ne (Ne.symm e)]
theorem params_at {j : Nat → RB} {sz : Nat} : ∀ (ps : List Tmp) (vs : List Value) (tm : Tr Value) (tmps : Array Value), TmAt j tm sz tmps → (∀ p ∈ ps, p < sz) →
    TmAt j (putParams ps vs tm) sz ((ps.zip (vs.map (conc j))).foldl (fun tmps (t, a) => tmps.setIfInBounds t a) tmps) := by
  intro ps
  induction ps with
  | nil => intro vs tm tmps h _; exact h
  | cons p ps ih =>
    intro vs tm tmps h hp
    cases vs with
    | nil => exact h
    | cons v vs =>
      simp only [putParams, List.map_cons, List.zip_cons_cons, List.foldl_cons]
      exact ih vs _ _ (tmAt_set h (hp p (by simp)) v) fun q hq => hp q (by simp [hq])
theorem params_sc {D : Nat → Prop} {sz : Nat} (hsz : sz < 2 ^ 31) : ∀ (ps : List Tmp) (vs : List Value) (tm : Tr Value), (∀ t, Sc D (tmv tm t)) → (∀ v ∈ vs, Sc D v) → (∀ p ∈ ps, p < sz) → ∀ t, Sc D (tmv (putParams ps vs tm) t) := by
  intro ps
  induction ps with
  | nil => intro vs tm h _ _; exact h
  | cons p ps ih =>
    intro vs tm h hv hp
    cases vs with
    | nil => exact h
    | cons v vs =>
      simp only [putParams]
      refine ih vs _ (fun t => ?_) (fun v hv' => hv v (by simp [hv'])) fun q hq => hp q (by simp [hq])
      have hp0 : p < sz := hp p (by simp)
      have hb' : ∀ m : Nat, m < sz → m + 1 < 2 ^ 32 := fun m hm => by omega
      have hp1 := hb' p hp0
      unfold tmv
      rw [Tr.get_set 32 _ _ _ _ hp1]
      by_cases e : t = p
      · rw [if_pos e]; exact hv v (by simp)
      · rw [if_neg e]; exact h t

/-- How a round is left. -/
def RLeft (e : Exit) (jump : Option Code) (go : Bool) : Prop := (e = .normal ∧ jump = none ∧ go = true) ∨ (e = .ret ∧ jump = some .ret ∧ go = false) ∨ ∃ id, e = .exit id ∧ jump = some (.exit id) ∧ go = false
def goSt (go : Bool) : LoopState := match go with
  | true => .ready
  | false => .done
theorem roundFin_some {l : Nat} {jump : Option Code} {go : Bool} {h : Hp} {k : Kont} {ans : Ans} (hk : roundFin l jump go h k = some ans) :
    ∃ ver st pd tm sz ps as bd d, h.t.get l = some (ver, .loop st pd tm sz ps as bd d) ∧ k (.val (.bool go)) (h.put l (.loop (goSt go) jump tm sz ps as bd d)) = some ans := by
  unfold roundFin at hk
  split at hk
  · rename_i tm sz ps as bd d hg
    obtain ⟨ver, hv⟩ := get_of hg
    rw [Hp.putK_eq] at hk
    exact ⟨ver, _, _, tm, sz, ps, as, bd, d, hv, hk⟩
  · cases hk
theorem roundEnd_some {l : Nat} {k : Kont} {e : Exit} {fr : Fr} {h : Hp} {ans : Ans} (hk : roundEnd l k (.code e fr) h = some ans) :
    ∃ jump go, RLeft e jump go ∧ ∃ ver st pd tm sz ps as bd d, h.t.get l = some (ver, .loop st pd tm sz ps as bd d) ∧ k (.val (.bool go)) (h.put l (.loop (goSt go) jump tm sz ps as bd d)) = some ans := by
  simp only [roundEnd] at hk
  split at hk
  · exact ⟨_, _, .inl ⟨rfl, rfl, rfl⟩, roundFin_some hk⟩
  · exact ⟨_, _, .inr (.inl ⟨rfl, rfl, rfl⟩), roundFin_some hk⟩
  · exact ⟨_, _, .inr (.inr ⟨_, rfl, rfl, rfl⟩), roundFin_some hk⟩
  · cases hk

include hs
theorem snd_round {l : Nat} {args : List Value} {h : Hp} {k : Kont} {ans : Ans} (hk : doRound E self l args h k = some ans) (g : Good E (.round l args) h) :
    ∃ res h', k res h' = some ans ∧ Does E (.round l args) h res h' := by
  unfold doRound at hk
  split at hk
  · rename_i st0 pd0 tm sz ps assign body d hg
    obtain ⟨ver, hl⟩ := get_of hg
    split at hk
    · rename_i hcc
      simp only [Bool.and_eq_true] at hcc
      obtain ⟨hk, hlen, hps⟩ := setParams_some _ _ _ _ _ _ hk
      obtain ⟨j0, w0, I0, hsc0⟩ := g
      have hbl : h.born l := by simp [Hp.born, hl]
      have frm : ∀ (j : Nat → RB) (w : World), Inv E.G j h w → (∀ x ∈ args, Sc h.born x) → ∀ tmps, TmAt j tm sz tmps →
          FrAt j h.born ⟨putParams ps args tm, sz, [], some l⟩ { tmps := (ps.zip (args.map (conc j))).foldl (fun tmps (t, a) => tmps.setIfInBounds t a) tmps, defers := [] } := fun j w I hsc tmps ht =>
        ⟨params_at ps args tm tmps ht hps, params_sc ht.small ps args tm (I.low _ _ _ hl).2.2.2.2.1 hsc hps, rfl, ⟨fun b hb => by simp at hb, fun l' hl' => by cases hl'; exact hbl⟩⟩
      obtain ⟨rec0, hr0, _, _, _, _, _, _, ht0, _⟩ := I0.reloop (st' := .ready) (pd' := none) hl
      obtain ⟨e1, fr1, h1, hk, he1, hrd1, ev1, fs1, sp1, j1, w1, a1, I1, F1⟩ := part_run hs hk hcc.1 ⟨j0, w0, _, I0, frm j0 w0 I0 hsc0 _ ht0⟩
      have hb1 : e1 = .normal ∧ ∃ ver pd tm sz ps as bd d, h1.t.get l = some (ver, .loop .ready pd tm sz ps as bd d) ∧ self (.code body fr1) (h1.put l (.loop .busy pd tm sz ps as bd d)) (roundEnd l k) = some ans := by
        simp only [roundBody, onNormal] at hk
        split at hk
        · refine ⟨rfl, ?_⟩
          split at hk
          · rename_i st pd tm sz ps as bd d hg1
            obtain ⟨ver1, hv1⟩ := get_of hg1
            split at hk
            · rw [Hp.putK_eq] at hk
              exact ⟨ver1, pd, tm, sz, ps, as, bd, d, hv1, hk⟩
            · cases hk
          · cases hk
        · cases hk
      obtain ⟨rfl, ver1, pd1, tm1, sz1, ps1, as1, bd1, d1, hl1, hk⟩ := hb1
      obtain ⟨_, _, _, _, _, _, _, _, _, R1⟩ := I1.reloop (st' := .busy) (pd' := pd1) hl1
      obtain ⟨e2, fr2, h2, hk, he2, hrd2, ev2, fs2, sp2, j2, w2, a2, I2, F2⟩ := part_run hs hk hcc.2 ⟨j1, _, a1, R1.inv, F1.ran R1⟩
      obtain ⟨jump, go, hleft, ver2, st2, pd2, tm2, sz2, ps2, as2, bd2, d2, hl2, hk⟩ := roundEnd_some hk
      obtain ⟨_, _, _, _, _, _, _, _, _, R2⟩ := I2.reloop (st' := goSt go) (pd' := jump) hl2
      have f1 : ∀ N, Fresh N h1 (h1.put l (.loop .busy pd1 tm1 sz1 ps1 as1 bd1 d1)) := put_fresh hl1 (by have := (I1.low _ _ _ hl1).1; have := I1.top; omega)
      have f2 : ∀ N, Fresh N h2 (h2.put l (.loop (goSt go) jump tm2 sz2 ps2 as2 bd2 d2)) := put_fresh hl2 (by have := (I2.low _ _ _ hl2).1; have := I2.top; omega)
      refine ⟨_, _, hk, _, rfl, ((ev1.trans R1.evo).trans ev2).trans R2.evo, (((fs1.trans (f1 h1.next) ev1.next).trans fs2 (Nat.le_trans ev1.next R1.evo.next)).trans (f2 h.next) (Nat.le_refl _)), fun j w I hsc => ?_⟩
      obtain ⟨rec, hr, _, _, hpar, has, hbd, _, ht, _⟩ := I.reloop (st' := .ready) (pd' := none) hl
      have hF := frm j w I hsc _ ht
      have hfold : (rec.params.zip (⟨args.map (conc j)⟩ : Array Value)).foldl (fun tmps (t, a) => tmps.setIfInBounds t a) rec.tmps = (ps.zip (args.map (conc j))).foldl (fun tmps (t, a) => tmps.setIfInBounds t a) rec.tmps := by
        rw [hpar, ← Array.foldl_toList]
        simp
      refine ⟨rec.fn, (ps.zip (args.map (conc j))).foldl (fun tmps (t, a) => tmps.setIfInBounds t a) rec.tmps, assign, body, ?_, fun r => ?_⟩
      · rw [run_yield hr (by simp [hpar, hlen]), has, hbd, hfold]
      · refine roundIn_of_wpIn trivial ?_
        refine wpIn_mono (sp1.wp I hF) fun e a' w' p => ?_
        obtain ⟨rfl, j1', Ra, Fa⟩ := p
        obtain ⟨rec1, hr1, hst1, hpd1, _, _, _, _, _, Rb⟩ := Ra.inv.reloop (st' := .busy) (pd' := pd1) hl1
        rw [Ra.fp.ext l hbl] at hr1 Rb
        have hbegin := run_beginRound (P := E.P) hr1 hst1
        have hw1 : { rec1 with state := .busy, pending := pd1 } = { rec1 with state := LoopState.busy } := by rw [← hpd1]
        rw [hw1] at Rb
        refine ⟨_, hbegin, ?_⟩
        have Fb := Fa.ran Rb
        have hsp2 := sp2.wp Rb.inv Fb
        rw [rnd_eq hF hrd1 Ra.fp.ext] at hsp2
        refine wpIn_mono hsp2 fun e a'' w'' p => ?_
        obtain ⟨rfl, j2', Rc, Fc⟩ := p
        obtain ⟨rec2, hr2, hst2, hpd2, _, _, _, _, _, Rd⟩ := Rc.inv.reloop (st' := goSt go) (pd' := jump) hl2
        have hjl : j2' l = j l := by rw [Rc.fp.ext l (by simp [Rb.evo.born (Ra.evo.born hbl)]), Ra.fp.ext l hbl]
        rw [hjl] at hr2 Rd
        have R := ((Ra.trans I Rb).trans I Rc).trans I Rd
        have hend := run_endRound (P := E.P) jump hr2
        have hR : ∀ v, v = Value.bool go → ∃ j', Ending.returned v = .returned (conc j' (.bool go)) ∧ Ran E.G j j' h (h2.put l (.loop (goSt go) jump tm2 sz2 ps2 as2 bd2 d2)) w _ ∧ Sc (h2.put l (.loop (goSt go) jump tm2 sz2 ps2 as2 bd2 d2)).born (.bool go) := fun v hv => ⟨j2', by rw [hv]; rfl, R, Sc.of_addrFree rfl⟩
        rcases hleft with ⟨rfl, rfl, rfl⟩ | ⟨rfl, rfl, rfl⟩ | ⟨id, rfl, rfl, rfl⟩
        · exact ⟨_, _, hend, hR _ rfl⟩
        · exact ⟨_, _, hend, hR _ rfl⟩
        · exact ⟨_, _, hend, hR _ rfl⟩
    · cases hk
  · cases hk

theorem snd_cond {c : Operand} {a b : Code} {fr : Fr} {h : Hp} {k : Kont} {ans : Ans} (t : Bool) (hv : fr.val c = .bool t) (hk : self (.code (if t then a else b) fr) h k = some ans) (g : Good E (.code (.cond c a b) fr) h) :
    ∃ res h', k res h' = some ans ∧ Does E (.code (.cond c a b) fr) h res h' := by
  have hc := g.1
  simp only [codeOk, Bool.and_eq_true] at hc
  obtain ⟨⟨hop, hca⟩, hcb⟩ := hc
  have hci : codeOk E (if t then a else b) = true := by cases t <;> first | exact hcb | exact hca
  obtain ⟨e, fr1, h1, hk, he, hr, ev, fs, sp, _⟩ := part_run hs hk hci g.2
  refine ⟨_, h1, hk, does_code g he hr fs fun j w a' I F => ?_⟩
  have hev : a'.eval c = .bool t := by rw [val_ok F (fun g hg => (I.glob g hg).2) hop, hv]; rfl
  exact wpIn_cond hev (sp.wp I F)

include hE
theorem snd_code {c : Code} {fr : Fr} {h : Hp} {k : Kont} {ans : Ans} (hk : doCode E self c fr h k = some ans) (g : Good E (.code c fr) h) : ∃ res h', k res h' = some ans ∧ Does E (.code c fr) h res h' := by
  cases c with
  | skip => exact ⟨_, _, hk, does_code g (fun _ h => by cases h) rfl (Fresh.refl _ _) fun j w a I F => wpIn_skip ⟨rfl, j, Ran.refl I, F⟩⟩
  | label l => exact ⟨_, _, hk, does_code g (fun _ h => by cases h) rfl (Fresh.refl _ _) fun j w a I F => wpIn_label ⟨rfl, j, Ran.refl I, F⟩⟩
  | seq a b => exact snd_seq hs hk g
  | cond c a b =>
    simp only [doCode] at hk
    split at hk
    · rename_i t hv
      refine snd_cond hs t hv ?_ g
      cases t <;> exact hk
    · cases hk
  | block id b => exact snd_block hs hk g
  | loop b => exact snd_loop hs hk g
  | scope b => exact snd_scope hs hk g
  | exit id => exact ⟨_, _, hk, does_code g (fun _ h => by cases h) rfl (Fresh.refl _ _) fun j w a I F => wpIn_exit ⟨rfl, j, Ran.refl I, F⟩⟩
  | ret => exact ⟨_, _, hk, does_code g (fun _ h => by cases h) rfl (Fresh.refl _ _) fun j w a I F => wpIn_ret ⟨rfl, j, Ran.refl I, F⟩⟩
  | region id ops d => exact snd_region hE hs hk g
  | rangeFunc f ps a b => exact snd_range hs hk g
  | goto l => cases hk
  | refuse m => cases hk

omit hs
end
end Go.Ai
