/- Appends, regions in text order and in a drawn order. No conditions. -/
import Derived.Test.YthgfbokfaidklaaGreatDoorAiB
import Derived.IntWalk
import Derived.Laws.AppendOwn
import Derived.RangeFuncRecord
import Derived.OrdersIn
import Derived.TacticsIn
set_option linter.all false
namespace Go.Ai
noncomputable section
variable {E : Env} (hE : EnvOk E)

theorem get_of {h : Hp} {b : Nat} {x : Blk} (hg : h.get b = some x) : ∃ v, h.t.get b = some (v, x) := by
  unfold Hp.get at hg
  simp only [Option.map_eq_some_iff] at hg
  obtain ⟨⟨v, y⟩, h1, h2⟩ := hg
  simp at h2
  exact ⟨v, by rw [h1, h2]⟩
theorem Inv.heapEq {G : Nat} {j : Nat → RB} {h : Hp} {w w' : World} (I : Inv G j h w) (e : w'.heap = w.heap) : Inv G j h w' :=
  ⟨I.top, I.glob, fun b v x hx => by
    obtain ⟨h1, h2, h3, h4, h5⟩ := I.low b v x hx
    exact ⟨h1, h2, by rw [e]; exact h3, h4.move h5 (fun _ _ => rfl) (fun _ => by rw [e]), h5⟩, I.inj⟩
/-- A block of the book dies, another one takes its place in memory. -/
theorem Inv.replace {G : Nat} {j : Nat → RB} {h h' : Hp} {w w' : World} (I : Inv G j h w) {b N v v1 v2 : Nat} {x x2 : Blk} {rb : RB} (hb : h.t.get b = some (v, x)) (hx : x.live) (hN : ¬ h.born N)
    (hrb : rb.blk = (j b).blk) (hnx : h.next ≤ h'.next) (htop : h'.next < 2 ^ 62) (hlt : N < h'.next) (hclk : h.clk < v1 ∧ v1 ≤ h'.clk ∧ h.clk < v2 ∧ v2 ≤ h'.clk)
    (hget : ∀ c, h'.t.get c = if c = N then some (v2, x2) else if c = b then some (v1, .dead) else h.t.get c)
    (hsz : w'.heap.size = w.heap.size) (hos : w'.os = w.os) (htp : w'.tape = w.tape) (hou : w'.output = w.output) (hoth : ∀ r, r ≠ (j b).blk → w'.heap[r]? = w.heap[r]?)
    (hat : BlkAt (upd j N rb) rb w' x2) (hsc : BlkSc h'.born x2) :
    Inv G (upd j N rb) h' w' ∧ Evo h h' ∧ Fp j (upd j N rb) h h' w w' := by
  have hbn : h.born b := by simp [Hp.born, hb]
  have hNb : N ≠ b := fun e => hN (e ▸ hbn)
  have hNn : h.t.get N = none := by simpa [Hp.born] using hN
  have hj : ∀ c, h.born c → upd j N rb c = j c := fun c hc => by unfold upd; rw [if_neg]; rintro rfl; exact hN hc
  have hup : ∀ c, h.born c → h'.born c := fun c hc => by
    unfold Hp.born at *
    rw [hget]
    split
    · simp
    · split
      · simp
      · exact hc
  have hblt := (I.low _ _ _ hb).2.2.1 hx
  refine ⟨⟨htop, fun q hq => ⟨hup _ (I.glob q hq).1, by rw [hj q (I.glob q hq).1]; exact (I.glob q hq).2⟩, fun c vc y hy => ?_, fun c1 c2 u1 u2 y1 y2 h1 h2 l1 l2 hne => ?_⟩, ⟨hnx, by omega, fun c => ?_, fun c vc y hy l v' y' hy' => ?_⟩, ?_⟩
  · rw [hget] at hy
    split at hy
    · rename_i e
      subst e
      cases hy
      exact ⟨hlt, hclk.2.2.2, fun _ => by simp [upd]; rw [hrb, hsz]; exact hblt, by simpa [upd] using hat, hsc⟩
    · split at hy
      · rename_i e
        subst e
        cases hy
        exact ⟨Nat.lt_of_lt_of_le (I.low _ _ _ hb).1 hnx, hclk.2.1, fun l => l.elim, trivial, trivial⟩
      · rename_i hcN hcb
        obtain ⟨h1, h2, h3, h4, h5⟩ := I.low c vc y hy
        have hcn : h.born c := by simp [Hp.born, hy]
        refine ⟨Nat.lt_of_lt_of_le h1 hnx, by omega, fun l => ?_, ?_, h5.mono hup⟩
        · rw [hj c hcn, hsz]; exact h3 l
        · rw [hj c hcn]
          exact h4.move h5 hj fun l => hoth _ (I.inj _ _ _ _ _ _ hy hb l hx hcb)
  · rw [hget] at h1 h2
    have key : ∀ c vc y, (if c = N then some (v2, x2) else if c = b then some (v1, .dead) else h.t.get c) = some (vc, y) → y.live → (c = N ∧ (upd j N rb c).blk = (j b).blk) ∨
        (h.t.get c = some (vc, y) ∧ upd j N rb c = j c ∧ c ≠ b) := by
      intro c vc y hc l
      split at hc
      · rename_i e; exact .inl ⟨e, by simp [upd, e, hrb]⟩
      · split at hc
        · cases hc; exact l.elim
        · rename_i hcb; exact .inr ⟨hc, hj c (by simp [Hp.born, hc]), hcb⟩
    rcases key _ _ _ h1 l1 with ⟨e1, u1⟩ | ⟨e1, u1, s1⟩ <;> rcases key _ _ _ h2 l2 with ⟨e2, u2⟩ | ⟨e2, u2, s2⟩
    · exact absurd (e1.trans e2.symm) hne
    · rw [u1, u2]; exact fun e => I.inj _ _ _ _ _ _ hb e2 hx l2 (Ne.symm s2) e
    · rw [u1, u2]; exact I.inj _ _ _ _ _ _ e1 hb l1 hx s1
    · rw [u1, u2]; exact I.inj _ _ _ _ _ _ e1 e2 l1 l2 hne
  · rw [hget]
    split
    · exact .inr ⟨_, _, rfl, hclk.2.2.1⟩
    · split
      · exact .inr ⟨_, _, rfl, hclk.1⟩
      · exact .inl rfl
  · rw [hget] at hy
    split at hy
    · rename_i e; subst e; rw [hNn] at hy'; cases hy'
    · split at hy
      · cases hy; exact l.elim
      · rw [hy] at hy'; cases hy'; exact l
  · have hbt : h'.t.get b ≠ h.t.get b := by
      rw [hget, if_neg (Ne.symm hNb), if_pos rfl, hb]
      intro e
      have h2 := (I.low _ _ _ hb).2.1
      cases e
      omega
    refine ⟨hos, htp, hou, by rw [hsz]; exact Nat.le_refl _, hj, fun r hr hf => hoth r fun e => hbt (hf b v x hb hx e.symm), fun c hc hnc => .inr ⟨b, v, x, hb, hx, hbt, ?_⟩⟩
    have : c = N := by
      unfold Hp.born at hc hnc
      rw [hget] at hc
      by_cases e : c = N
      · exact e
      · rw [if_neg e] at hc
        split at hc
        · rename_i e2; subst e2; exact absurd hbn hnc
        · exact absurd hc hnc
    subst this
    simp [upd, hrb]

theorem growBy_le (newLen : Nat) : ∀ (r c : Nat), c ≤ newLen + (newLen + 768) / 4 → Builtin.growBy newLen r c ≤ newLen + (newLen + 768) / 4
  | 0, c, h => h
  | r + 1, c, h => by
    simp only [Builtin.growBy]
    split
    · exact h
    · exact growBy_le newLen r _ (by omega)
theorem next_le {need sCap : Nat} (h : ¬ need ≤ sCap) : Builtin.nextslicecap need sCap ≤ 2 * need + 768 := by
  unfold Builtin.nextslicecap
  split
  · omega
  · split
    · omega
    · have := growBy_le need 4 sCap (by omega)
      omega
/-- The cells of a slice's value, read. -/
theorem valueCells_ok {G : Nat} {j : Nat → RB} {h : Hp} {w : World} (I : Inv G j h w) {x : Value} {size n : Nat} {l : List Value} (hv : valueCells h x (n * size) = some l) (P : Program) :
    (Builtin.firstCells size n (conc j x)).run P w = .ok ⟨l.map (conc j)⟩ w ∧ l.length = n * size ∧ ∀ v ∈ l, Sc h.born v := by
  unfold valueCells at hv
  split at hv
  · split at hv
    · rename_i h0
      cases hv
      simp [Builtin.firstCells, h0]
    · cases hv
  · rename_i b off _ _
    split at hv
    · rename_i h0
      cases hv
      simp [Builtin.firstCells, h0, ca, loadCells, loadCellsFrom]
    · split at hv
      · rename_i rw_ g cs hg
        obtain ⟨v, hg⟩ := get_of hg
        obtain ⟨_, _, _, hat, hsc⟩ := I.low _ _ _ hg
        have hl := (cut_ok hv).2
        have hr := run_loadCells_list (P := P) (w := w) ⟨(j b).blk, (j b).off + off, none⟩ (l.map (conc j)) (fun i u hu => by
          simp only [List.getElem?_map, Option.map_eq_some_iff] at hu
          obtain ⟨u', hu', rfl⟩ := hu
          have := (hat.1 _ _ (cut_get hv i u' hu')).1
          rw [add_off, Nat.add_assoc]; exact this)
        rw [List.length_map, hl] at hr
        refine ⟨by simpa [Builtin.firstCells, ca] using hr, hl, fun u hu => ?_⟩
        obtain ⟨i, hi, rfl⟩ := List.getElem_of_mem hu
        exact hsc _ (List.mem_of_getElem? (cut_get hv i _ (List.getElem?_eq_getElem hi)))
      · cases hv
  · cases hv
end
end Go.Ai
namespace Go.Ai
noncomputable section
variable {E : Env} (hE : EnvOk E)

structure AppTypes (E : Env) (tys : Array TypeId) (elem : TypeId) (size : Nat) (z : Value) (by_ : Nat) : Prop where
  h0 : ∃ t, tys[0]? = some t ∧ E.und t = some (.slice elem)
  h1 : ∃ t e, tys[1]? = some t ∧ E.und t = some (.slice e)
  hs : E.size elem = some size
  hz : E.zero elem = some z
  hb : E.bytes elem = some by_
include hE
theorem run_append_fits {tys : Array TypeId} {ty elem : TypeId} {size by_ : Nat} {z : Value} (T : AppTypes E tys elem size z by_) {base xb : Option Addr} {sl C n xc : Nat} {w w' : World} {new : Array Value}
    (hfit : sl + n ≤ C) (hnew : (Builtin.firstCells size n (.slice xb n xc)).run E.P w = .ok new w)
    (hst : ∀ a, base = some a → (storeCells (a.add (sl * size)) new.toList).run E.P w = .ok () w') (hno : base = none → w' = w) :
    (Builtin.append_ tys ty #[.slice base sl C, .slice xb n xc]).run E.P w = .ok (.slice base (sl + n) C) w' := by
  obtain ⟨t, ht, hu⟩ := T.h0
  obtain ⟨t1, e1, ht1, hu1⟩ := T.h1
  cases base with
  | none =>
    simp [Builtin.append_, ht, ht1, run_und hE hu, run_und hE hu1, size_ok hE T.hs, Builtin.lenOf, hfit, hnew, hno rfl]
  | some a =>
    have := hst a rfl
    simp [Builtin.append_, ht, ht1, run_und hE hu, run_und hE hu1, size_ok hE T.hs, Builtin.lenOf, hfit, hnew, this]
theorem run_append_grows {tys : Array TypeId} {ty elem : TypeId} {size by_ : Nat} {z : Value} (T : AppTypes E tys elem size z by_) {base xb : Option Addr} {sl C n xc : Nat} {w : World} {old new : Array Value}
    (hfit : ¬ sl + n ≤ C) (hby : (2 * (sl + n) + 768) * by_ ≤ 2 ^ 47) (hneed : sl + n ≤ 2 ^ 47)
    (hold : (Builtin.firstCells size sl (.slice base sl C)).run E.P w.drew = .ok old w.drew) (hnew : (Builtin.firstCells size n (.slice xb n xc)).run E.P w.drew = .ok new w.drew) :
    ∃ cap, sl + n ≤ cap ∧ (Builtin.append_ tys ty #[.slice base sl C, .slice xb n xc]).run E.P w = .ok (.slice (some ⟨w.heap.size, 0, none⟩) (sl + n) cap) (w.drew.alloc (.cells (old ++ new ++ Builtin.zeroCells z.cells (cap - (sl + n))) elem)) := by
  obtain ⟨t, ht, hu⟩ := T.h0
  obtain ⟨t1, e1, ht1, hu1⟩ := T.h1
  obtain ⟨i, hi, hib⟩ := bytes_ok hE T.hb
  have hti : ∀ w, (typeInfo elem).run E.P w = .ok i w := fun w => by simp [typeInfo, hi]
  have hnx := next_le hfit
  refine ⟨grownCap w (sl + n) C elem, grownCap_ge _ _ _ _, ?_⟩
  have h63' : ¬ (9223372036854775807 < ((sl : Int) + (n : Int))) := by omega
  have h48' : ¬ (281474976710656 < Builtin.nextslicecap (sl + n) C * i.bytes) := by
    rw [hib]
    have : Builtin.nextslicecap (sl + n) C * by_ ≤ (2 * (sl + n) + 768) * by_ := Nat.mul_le_mul_right _ hnx
    omega
  have hz : (zeroValue elem).run E.P w.drew = .ok z w.drew := (zero_ok hE T.hz w.drew).1
  simp [Builtin.append_, ht, ht1, run_und hE hu, run_und hE hu1, size_ok hE T.hs, Builtin.lenOf, hfit, h63', h48', hti, hold, hnew, hz, Question.forced, newRow, grownCap]
/-- 'append(s, make(.., n)...)', where s has no room. -/
theorem run_append_made {tys : Array TypeId} {ty elem : TypeId} {size by_ : Nat} {z : Value} (h0 : ∃ t, tys[0]? = some t ∧ E.und t = some (.slice elem)) (h1 : ∃ t k, tys[1]? = some t ∧ E.und t = some (.int k))
    (hs : E.size elem = some size) (hz : E.zero elem = some z) (hb : E.bytes elem = some by_) (hs1 : 1 ≤ size) {base : Option Addr} {sl C n : Nat} {w : World} {old : Array Value} (hn : 1 ≤ n)
    (hfit : ¬ sl + n ≤ C) (hby : (2 * (sl + n) + 768) * by_ ≤ 2 ^ 47) (hneed : sl + n ≤ 2 ^ 24) (hold : (Builtin.firstCells size sl (.slice base sl C)).run E.P w.drew = .ok old w.drew) :
    ∃ cap, sl + n ≤ cap ∧ (Builtin.append_ tys ty #[.slice base sl C, .int .i64 (.ofNat n)]).run E.P w = .ok (.slice (some ⟨w.heap.size, 0, none⟩) (sl + n) cap) (w.drew.alloc (.cells (old ++ Builtin.zeroCells z.cells n ++ Builtin.zeroCells z.cells (cap - (sl + n))) elem)) := by
  obtain ⟨t, ht, hu⟩ := h0
  obtain ⟨t1, k1, ht1, hu1⟩ := h1
  obtain ⟨i, hi, hib⟩ := bytes_ok hE hb
  have hti : ∀ w, (typeInfo elem).run E.P w = .ok i w := fun w => by simp [typeInfo, hi]
  have hnx := next_le hfit
  refine ⟨grownCap w (sl + n) C elem, grownCap_ge _ _ _ _, ?_⟩
  have hwrap : IntKind.i64.wrap (n : Int) = n := IntWalk.i64_in _ ⟨by omega, by omega⟩
  have hneg : ¬ ((n : Int) < 0) := by omega
  have hnb : n * by_ ≤ 2 ^ 47 := Nat.le_trans (Nat.mul_le_mul_right _ (by omega)) hby
  have hbig : ¬ (281474976710656 < (n : Int) * (i.bytes : Int)) := by
    rw [hib]
    have h1 : n * by_ ≤ 140737488355328 := Nat.le_trans hnb (by decide)
    have h2 : ((n * by_ : Nat) : Int) ≤ ((140737488355328 : Nat) : Int) := Int.ofNat_le.2 h1
    rw [← Int.natCast_mul]
    omega
  have h63' : ¬ (9223372036854775807 < ((sl : Int) + (n : Int))) := by omega
  have h48' : ¬ (281474976710656 < Builtin.nextslicecap (sl + n) C * i.bytes) := by
    rw [hib]
    have : Builtin.nextslicecap (sl + n) C * by_ ≤ (2 * (sl + n) + 768) * by_ := Nat.mul_le_mul_right _ hnx
    omega
  have hz' : (zeroValue elem).run E.P w.drew = .ok z w.drew := (zero_ok hE hz w.drew).1
  have hns : ¬ n * size = 0 := Nat.mul_ne_zero (by omega) (by omega)
  simp [Builtin.append_, ht, ht1, run_und hE hu, run_und hE hu1, size_ok hE hs, asInt, asIntOf, hwrap, hneg, hbig, hfit, h63', h48', hti, hold, hz', Question.forced, newRow, grownCap]
  exact fun h => absurd h hns
end
end Go.Ai
namespace Go.Ai
noncomputable section
variable {E : Env} (hE : EnvOk E)

inductive Applied (h : Hp) : Eff → Nat → Hp → Prop
  | keep : Applied h .keep 0 h
  | write (b : Nat) (x : Blk) : Applied h (.write b x) 0 (h.put b x)
  | lay (x : Blk) (ht : h.next + 1 < 2 ^ 62) : Applied h (.lay x) h.next ⟨h.next + 1, (h.put h.next x).clk, (h.put h.next x).t⟩
  | swap (b : Nat) (x : Blk) (ht : h.next + 1 < 2 ^ 62) : Applied h (.swap b x) h.next ⟨h.next + 1, ((h.put b .dead).put h.next x).clk, ((h.put b .dead).put h.next x).t⟩
theorem newK_some {β : Type} {h : Hp} {x : Blk} {k : Nat → Hp → Option β} {r : β} (hk : h.newK x k = some r) :
    h.next + 1 < 2 ^ 62 ∧ k h.next ⟨h.next + 1, (h.put h.next x).clk, (h.put h.next x).t⟩ = some r := by
  unfold Hp.newK at hk
  split at hk
  · rename_i hb
    rw [fN_eq, Hp.putK_eq] at hk
    have : Nat.succ h.next < 4611686018427387904 := by simpa [Nat.blt_eq] using hb
    exact ⟨this, hk⟩
  · cases hk
theorem applyK_some {β : Type} {h : Hp} {e : Eff} {k : Nat → Hp → Option β} {r : β} (hk : applyK h e k = some r) : ∃ N h', Applied h e N h' ∧ k N h' = some r := by
  cases e with
  | keep => exact ⟨_, _, .keep, hk⟩
  | write b x => simp only [applyK, Hp.putK_eq] at hk; exact ⟨_, _, .write b x, hk⟩
  | lay x =>
    obtain ⟨h1, h2⟩ := newK_some hk
    exact ⟨_, _, .lay x h1, h2⟩
  | swap b x =>
    simp only [applyK, Hp.putK_eq] at hk
    obtain ⟨h1, h2⟩ := newK_some hk
    exact ⟨_, _, .swap b x h1, h2⟩
/-- One piece of a run: what is there afterwards. -/
structure Ran (G : Nat) (j j' : Nat → RB) (h h' : Hp) (w w' : World) : Prop where
  inv : Inv G j' h' w'
  evo : Evo h h'
  fp : Fp j j' h h' w w'
theorem Ran.refl {G : Nat} {j : Nat → RB} {h : Hp} {w : World} (I : Inv G j h w) : Ran G j j h h w w := ⟨I, Evo.refl h, Fp.refl j h w⟩
theorem Ran.trans {G : Nat} {j j1 j2 : Nat → RB} {h h1 h2 : Hp} {w w1 w2 : World} (I : Inv G j h w) (a : Ran G j j1 h h1 w w1) (b : Ran G j1 j2 h1 h2 w1 w2) : Ran G j j2 h h2 w w2 :=
  ⟨b.inv, a.evo.trans b.evo, a.fp.trans b.fp a.evo b.evo fun c v x hc => (I.low c v x hc).2.1⟩
theorem Fp.drew {j j' : Nat → RB} {h h' : Hp} {w w' : World} (a : Fp j j' h h' w.drew w') : Fp j j' h h' w w' := ⟨a.os, a.tape, a.output, a.size, a.ext, a.frame, a.fresh⟩
theorem room_of {j : Nat → RB} {rb : RB} {w : World} {s : Nat} {cs : List Value} (h : BlkAt j rb w (.cells true (s + 1) cs)) (i : Nat) (hi : i < rb.cap * s) :
    (w.cell? ⟨rb.blk, rb.off + i, none⟩).isSome = true ∧ w.frozen? ⟨rb.blk, rb.off + i, none⟩ = false := by
  obtain ⟨h1, h2⟩ := h
  obtain ⟨h3, h4⟩ := h2 s rfl
  by_cases hc : i < cs.length
  · have := h1 i _ (List.getElem?_eq_getElem hc)
    exact ⟨by rw [this.1]; rfl, this.2 rfl⟩
  · exact h4 i (by omega) hi
/-- The block that a growing append lays. -/
theorem grown_at {D : Nat → Prop} {j : Nat → RB} {N cap need size : Nat} {cs : List Value} {z : Array Value} (hcs : ∀ v ∈ cs, Sc D v) (hN : ¬ D N) (w : World) (t : TypeId) (hlen : cs.length = need * size) (hz : z.size = size) (hcap : need ≤ cap) :
    BlkAt (upd j N ⟨w.heap.size, 0, cap⟩) ⟨w.heap.size, 0, cap⟩ (w.alloc (.cells (⟨cs.map (conc j)⟩ ++ Builtin.zeroCells z (cap - need)) t)) (.cells true (size + 1) cs) := by
  have hj : ∀ b', D b' → upd j N ⟨w.heap.size, 0, cap⟩ b' = j b' := fun b' hb' => by
    unfold upd; rw [if_neg]; rintro rfl; exact hN hb'
  have htot : (⟨cs.map (conc j)⟩ ++ Builtin.zeroCells z (cap - need) : Array Value).size = cap * size := by
    simp [size_zeroCells, hz, hlen]
    rw [← Nat.add_mul]
    congr 1; omega
  refine ⟨fun i v hv => ⟨?_, fun _ => ?_⟩, fun s hs => ?_⟩
  · have hi := (List.getElem?_eq_some_iff.1 hv).1
    have := World.cell?_alloc_new w (⟨cs.map (conc j)⟩ ++ Builtin.zeroCells z (cap - need)) t (0 + i)
    rw [this]
    rw [Array.getElem?_append_left (by simpa using hi)]
    simp only [Nat.zero_add, List.getElem?_toArray, List.getElem?_map, hv, Option.map_some]
    rw [hcs v (List.mem_of_getElem? hv) j _ hj]
  · exact World.frozen?_alloc_new w _ t (0 + i)
  · have hs : s = size := by omega
    subst hs
    refine ⟨by rw [hlen]; exact Nat.mul_le_mul_right _ hcap, fun i hi hc => ⟨?_, World.frozen?_alloc_new w _ t (0 + i)⟩⟩
    have := World.cell?_alloc_new w (⟨cs.map (conc j)⟩ ++ Builtin.zeroCells z (cap - need)) t (0 + i)
    simp only [this]
    rw [Array.getElem?_eq_getElem (by rw [htot]; simpa using hc)]
    rfl
theorem un_OPEN : un OPEN = 0 := by simp [un]
theorem not_lt_OPEN : ¬ OPEN < OPEN := Nat.lt_irrefl _
/-- A growing append, at last. -/
theorem grow_ran {G : Nat} {j : Nat → RB} {h : Hp} {w : World} (I : Inv G j h w) {h1 : Hp} {size need cap : Nat} {cs : List Value} {z : Array Value} {t : TypeId} {x : Blk}
    (hx : x = .cells true (size + 1) cs) (ht : h.next + 1 < 2 ^ 62) (hh : h1 = ⟨h.next + 1, (h.put h.next x).clk, (h.put h.next x).t⟩) (hcs : ∀ v ∈ cs, Sc h.born v) (hlen : cs.length = need * size) (hz : z.size = size) (hcap : need ≤ cap) :
    Ran G j (upd j h.next ⟨w.heap.size, 0, cap⟩) h h1 w (w.drew.alloc (.cells (⟨cs.map (conc j)⟩ ++ Builtin.zeroCells z (cap - need)) t)) ∧
    conc (upd j h.next ⟨w.heap.size, 0, cap⟩) (.slice (some ⟨h.next, 0, none⟩) need OPEN) = .slice (some ⟨w.heap.size, 0, none⟩) need cap ∧ Sc h1.born (.slice (some ⟨h.next, 0, none⟩) need OPEN) := by
  subst hx hh
  have hN : ¬ h.born h.next := by
    intro hb
    obtain ⟨⟨v, y⟩, hy⟩ := Option.ne_none_iff_exists'.1 hb
    have := (I.low _ _ _ hy).1
    omega
  have g : Grew h ⟨h.next + 1, (h.put h.next (.cells true (size + 1) cs)).clk, (h.put h.next (.cells true (size + 1) cs)).t⟩ h.next (.cells true (size + 1) cs) :=
    Grew.put _ (by omega) ht (by omega)
  have I' : Inv G j h w.drew := I.heapEq rfl
  have hat := grown_at (j := j) (N := h.next) (cap := cap) (t := t) hcs hN w.drew hlen hz hcap
  obtain ⟨i1, i2, i3⟩ := I'.lay g hN trivial hat (fun v hv => (hcs v hv).mono fun _ => g.born)
  have hb : Hp.born ⟨h.next + 1, (h.put h.next (.cells true (size + 1) cs)).clk, (h.put h.next (.cells true (size + 1) cs)).t⟩ h.next := by
    unfold Hp.born; rw [g.get, if_pos rfl]; simp
  refine ⟨⟨i1, i2, i3.drew⟩, ?_, Sc.slice hb⟩
  simp only [conc_slice, ca, ccap, if_neg not_lt_OPEN, un_OPEN, upd_same]
  rfl
end
end Go.Ai
namespace Go.Ai
noncomputable section
variable {E : Env} (hE : EnvOk E)

theorem fits_of {G : Nat} {j : Nat → RB} {h : Hp} {w : World} (I : Inv G j h w) {b size sl sc : Nat} (hf : openFits (h.get b) size sl sc = true) :
    1 ≤ size ∧ un sc + sl ≤ (j b).cap := by
  unfold openFits at hf
  split at hf
  · rename_i rw_ g cs hg
    simp only [Bool.and_eq_true] at hf
    obtain ⟨⟨hg', hl⟩, h1⟩ := hf
    have hg' : g = size + 1 := Nat.eq_of_beq_eq_true hg'
    have hl : (un sc + sl) * size ≤ cs.length := Nat.le_of_ble_eq_true hl
    have h1 : 1 ≤ size := Nat.le_of_ble_eq_true h1
    obtain ⟨v, hv⟩ := get_of hg
    have hat := (I.low _ _ _ hv).2.2.2.1
    have := (hat.2 size hg').1
    exact ⟨h1, Nat.le_of_mul_le_mul_right (Nat.le_trans hl this) h1⟩
  · cases hf
theorem ccap_open {j : Nat → RB} {b c : Nat} (h : ¬ c < OPEN) : ccap j b c = (j b).cap - un c := by unfold ccap; rw [if_neg h]
theorem ccap_shut {j : Nat → RB} {b c : Nat} (h : c < OPEN) : ccap j b c = c := by unfold ccap; rw [if_pos h]
def realCap (j : Nat → RB) (base : Option Addr) (c : Nat) : Nat := match base with
  | some a => ccap j a.block c
  | none => c
theorem conc_sliceAny (j : Nat → RB) (base : Option Addr) (l c : Nat) : conc j (.slice base l c) = .slice (base.map (ca j)) l (realCap j base c) := by
  cases base <;> simp [realCap]
theorem blt_false {a b : Nat} (h : Nat.blt a b = false) : ¬ a < b := fun hlt => by
  have : Nat.blt a b = true := by simpa [Nat.blt_eq] using hlt
  rw [this] at h; cases h
include hE
theorem open_in {tys : Array TypeId} {ty elem : TypeId} {size by_ : Nat} {z : Value} (T : AppTypes E tys elem size z by_) (hs1 : 1 ≤ size) {xb : Option Addr} {sl sc n xc : Nat} {G : Nat} {j : Nat → RB} {h : Hp} {w : World} (I : Inv G j h w)
    {b off v : Nat} {ocs os xs : List Value} (hv : h.t.get b = some (v, .cells true (size + 1) ocs)) (hbs : Sc h.born (.slice (some ⟨b, off, none⟩) sl sc))
    (hr : (Builtin.firstCells size (n + 1) (.slice (xb.map (ca j)) (n + 1) (realCap j xb xc))).run E.P w = .ok ⟨xs.map (conc j)⟩ w) (hlen : xs.length = (n + 1) * size) (hxsc : ∀ v ∈ xs, Sc h.born v) (hone : ∀ v ∈ xs, v.oneCell' = true)
    (hos : valueCells h (.slice (some ⟨b, off, none⟩) sl sc) (sl * size) = some os) (holen : os.length = sl * size) (hosc : ∀ v ∈ os, Sc h.born v) (hoff : off = un sc * size) (hc : ¬ sc < OPEN) (hcap : un sc + sl ≤ (j b).cap)
    (hfit : sl + (n + 1) ≤ (j b).cap - un sc) (ht : h.next + 1 < 2 ^ 62) :
    ∃ w' j', (Builtin.append_ tys ty #[.slice ((some ⟨b, off, none⟩ : Option Addr).map (ca j)) sl (realCap j (some ⟨b, off, none⟩) sc), .slice (xb.map (ca j)) (n + 1) (realCap j xb xc)]).run E.P w = .ok (conc j' (.slice (some ⟨h.next, 0, none⟩) (sl + (n + 1)) OPEN)) w' ∧
      Ran G j j' h ⟨h.next + 1, ((h.put b .dead).put h.next (.cells true (size + 1) (os ++ xs))).clk, ((h.put b .dead).put h.next (.cells true (size + 1) (os ++ xs))).t⟩ w w' ∧
      Sc (Hp.born ⟨h.next + 1, ((h.put b .dead).put h.next (.cells true (size + 1) (os ++ xs))).clk, ((h.put b .dead).put h.next (.cells true (size + 1) (os ++ xs))).t⟩) (.slice (some ⟨h.next, 0, none⟩) (sl + (n + 1)) OPEN) := by
  obtain ⟨i1, i2, i3, i4, i5⟩ := I.low _ _ _ hv
  have hN : ¬ h.born h.next := by
    intro hb
    obtain ⟨⟨v, y⟩, hy⟩ := Option.ne_none_iff_exists'.1 hb
    have := (I.low _ _ _ hy).1
    omega
  have htop := I.top
  have room := room_of i4
  have hmul : (un sc + sl + (n + 1)) * size ≤ (j b).cap * size := Nat.mul_le_mul_right _ (by omega)
  have hmul' : (un sc + sl + (n + 1)) * size = un sc * size + sl * size + (n + 1) * size := by rw [Nat.add_mul, Nat.add_mul]
  let A := (j b).off + (off + sl * size)
  have hcell : ∀ i, i < (xs.map (conc j)).length → (w.cell? ⟨(j b).blk, A + i, none⟩).isSome = true := fun i hi => by
    have := (room (off + sl * size + i) (by simp [hlen] at hi; omega)).1
    simpa [A, Nat.add_assoc] using this
  have hfro : ∀ i, i < (xs.map (conc j)).length → w.frozen? ⟨(j b).blk, A + i, none⟩ = false := fun i hi => by
    have := (room (off + sl * size + i) (by simp [hlen] at hi; omega)).2
    simpa [A, Nat.add_assoc] using this
  have hst := run_storeCells_cells (P := E.P) (j b).blk A (xs.map (conc j)) 0 w (by simpa using hcell) (by simpa using hfro)
      (fun v hv => by simp only [List.mem_map] at hv; obtain ⟨u, hu, rfl⟩ := hv; exact conc_one (hone u hu))
  obtain ⟨c1, c2, c3, c4⟩ := setCells_same (j b).blk (xs.map (conc j)) A w
  have hj : ∀ c, h.born c → upd j h.next ⟨(j b).blk, (j b).off + off, (j b).cap - un sc⟩ c = j c := fun c hc => by unfold upd; rw [if_neg]; rintro rfl; exact hN hc
  have hget : ∀ c, (((h.put b .dead).put h.next (.cells true (size + 1) (os ++ xs))).t).get c = if c = h.next then some (h.clk + 1 + 1, .cells true (size + 1) (os ++ xs)) else if c = b then some (h.clk + 1, .dead) else h.t.get c := fun c => by
    simp only [Hp.put]
    rw [Tr.get_set 64 _ _ _ _ (by omega), Tr.get_set 64 _ _ _ _ (by omega)]
  have hsc' : ∀ v ∈ os ++ xs, Sc h.born v := fun v hv => (List.mem_append.1 hv).elim (hosc v) (hxsc v)
  have hup : ∀ c, h.born c → Hp.born ⟨h.next + 1, ((h.put b .dead).put h.next (.cells true (size + 1) (os ++ xs))).clk, ((h.put b .dead).put h.next (.cells true (size + 1) (os ++ xs))).t⟩ c := fun c hc => by
    unfold Hp.born at *
    rw [hget]
    split
    · simp
    · split
      · simp
      · exact hc
  have hat : BlkAt (upd j h.next ⟨(j b).blk, (j b).off + off, (j b).cap - un sc⟩) ⟨(j b).blk, (j b).off + off, (j b).cap - un sc⟩ (w.setCells (j b).blk A (xs.map (conc j))) (.cells true (size + 1) (os ++ xs)) := by
    refine ⟨fun i v hiv => ⟨?_, fun _ => ?_⟩, fun s hs => ?_⟩
    · rw [hsc' v (List.mem_of_getElem? hiv) j _ hj]
      by_cases hi : i < os.length
      · rw [List.getElem?_append_left hi] at hiv
        rw [World.cell?_setCells_out _ _ _ _ _ (fun _ _ => by left; simp only [A]; omega)]
        unfold valueCells at hos
        simp only [] at hos
        split at hos
        · cases hos; simp at hi
        · have hgb : h.get b = some (.cells true (size + 1) ocs) := by simp [Hp.get, hv]
          rw [hgb] at hos
          have := (i4.1 _ _ (cut_get hos i v hiv)).1
          rwa [Nat.add_assoc]
      · rw [List.getElem?_append_right (by omega)] at hiv
        have hil := (List.getElem?_eq_some_iff.1 hiv).1
        have hlt : i - os.length < (xs.map (conc j)).length := by simpa using hil
        have := World.cell?_setCells_in (j b).blk (xs.map (conc j)) A w hcell (i - os.length) hlt
        rw [show A + (i - os.length) = (j b).off + off + i by simp only [A]; omega] at this
        rw [this]
        obtain ⟨_, e⟩ := List.getElem?_eq_some_iff.1 hiv
        simp [e]
    · rw [World.frozen?_setCells, Nat.add_assoc]
      have hil := (List.getElem?_eq_some_iff.1 hiv).1
      exact (room (off + i) (by rw [List.length_append, holen, hlen] at hil; omega)).2
    · have hs : s = size := by omega
      subst hs
      refine ⟨by rw [List.length_append, holen, hlen, ← Nat.add_mul]; exact Nat.mul_le_mul_right _ hfit, fun i hi hcc => ?_⟩
      have hcc : i < ((j b).cap - un sc) * s := hcc
      have hsb : (j b).cap - un sc + un sc = (j b).cap := Nat.sub_add_cancel (by omega)
      have hsub : ((j b).cap - un sc) * s + un sc * s = (j b).cap * s := by rw [← Nat.add_mul, hsb]
      rw [List.length_append, holen, hlen] at hi
      rw [World.frozen?_setCells, World.cell?_setCells_out _ _ _ _ _ (fun _ _ => by right; simp only [A, List.length_map, hlen]; omega), Nat.add_assoc]
      exact room (off + i) (by omega)
  have hclk : (((h.put b .dead).put h.next (.cells true (size + 1) (os ++ xs))).clk) = h.clk + 1 + 1 := by simp only [Hp.put]
  obtain ⟨q1, q2, q3⟩ := I.replace (h' := ⟨h.next + 1, ((h.put b .dead).put h.next (.cells true (size + 1) (os ++ xs))).clk, ((h.put b .dead).put h.next (.cells true (size + 1) (os ++ xs))).t⟩)
    (rb := ⟨(j b).blk, (j b).off + off, (j b).cap - un sc⟩) (v1 := h.clk + 1) (v2 := h.clk + 1 + 1) (x2 := .cells true (size + 1) (os ++ xs)) hv trivial hN rfl (Nat.le_succ _) ht (Nat.lt_succ_self _) ⟨by omega, by simp only [hclk]; omega, by omega, by simp only [hclk]; omega⟩ hget c1 c2 c3 c4
    (fun r hr => setCells_heap _ _ _ _ _ hr) hat (fun v hv => (hsc' v hv).mono hup)
  refine ⟨_, _, ?_, ⟨q1, q2, q3⟩, Sc.slice (by unfold Hp.born; rw [hget, if_pos rfl]; simp)⟩
  have hrc : realCap j (some ⟨b, off, none⟩) sc = (j b).cap - un sc := ccap_open hc
  have hval : conc (upd j h.next ⟨(j b).blk, (j b).off + off, (j b).cap - un sc⟩) (.slice (some ⟨h.next, 0, none⟩) (sl + (n + 1)) OPEN) = .slice ((some ⟨b, off, none⟩ : Option Addr).map (ca j)) (sl + (n + 1)) ((j b).cap - un sc) := by
    have e1 : ccap (upd j h.next ⟨(j b).blk, (j b).off + off, (j b).cap - un sc⟩) h.next OPEN = (j b).cap - un sc := by
      rw [ccap_open not_lt_OPEN, un_OPEN, upd_same]; exact Nat.sub_zero _
    generalize hC : (j b).cap - un sc = C at e1
    rw [conc_slice, e1]
    simp only [ca, upd_same, Option.map_some, Nat.add_zero]
  rw [hval, hrc]
  refine run_append_fits hE T hfit hr (fun a e => ?_) (fun e => by cases e)
  simp only [Option.map_some, Option.some.injEq] at e
  subst e
  rw [ca, add_off, Nat.add_assoc]
  simpa using hst
theorem appendAt_ok {tys : Array TypeId} {ty elem : TypeId} {size by_ : Nat} {z : Value} (T : AppTypes E tys elem size z by_) (hzl : (vcells z).length = size) (hs1 : 1 ≤ size) {base xb : Option Addr} {sl sc n xc : Nat}
    (hby : (2 * (sl + n) + 768) * by_ ≤ 2 ^ 47) (hneed : sl + n ≤ 2 ^ 47) {h h' : Hp} {e : Eff} {f : Nat → Value} {N : Nat} (ha : appendAt h size base sl sc xb n xc = some (e, f)) (hap : Applied h e N h')
    {G : Nat} {j : Nat → RB} {w : World} (I : Inv G j h w) (hbs : Sc h.born (.slice base sl sc)) :
    ∃ w' j', (Builtin.append_ tys ty #[conc j (.slice base sl sc), conc j (.slice xb n xc)]).run E.P w = .ok (conc j' (f N)) w' ∧ Ran G j j' h h' w w' ∧ Sc h'.born (f N) := by
  have hzs : z.cells.size = size := by
    have h5 : z.cells.toList = vcells z := by cases z <;> simp [Value.cells, vcells]
    rw [← hzl, ← h5]; simp
  rw [conc_sliceAny, conc_sliceAny]
  unfold appendAt at ha
  split at ha
  · -- nothing is appended
    have hnew : (Builtin.firstCells size 0 (.slice (xb.map (ca j)) 0 (realCap j xb xc))).run E.P w = .ok #[] w := by
      cases xb <;> simp [Builtin.firstCells, loadCells, loadCellsFrom]
    have main : sl ≤ realCap j base sc → ∃ w' j', (Builtin.append_ tys ty #[.slice (base.map (ca j)) sl (realCap j base sc), .slice (xb.map (ca j)) 0 (realCap j xb xc)]).run E.P w = .ok (conc j' (.slice base sl sc)) w' ∧ Ran G j j' h h w w' ∧ Sc h.born (.slice base sl sc) := by
      intro hle
      refine ⟨w, j, ?_, Ran.refl I, hbs⟩
      rw [conc_sliceAny]
      exact run_append_fits hE T (by omega) hnew (fun a _ => by simp [storeCells]) (fun _ => rfl)
    unfold appendNone at ha
    split at ha
    · rename_i hc
      have hc : sc < OPEN := by simpa [Nat.blt_eq] using hc
      split at ha
      · rename_i hle
        cases ha
        cases hap
        refine main ?_
        have hle := Nat.le_of_ble_eq_true hle
        cases base with
        | none => exact hle
        | some a => simp only [realCap, ccap_shut hc]; exact hle
      · cases ha
    · rename_i hc
      have hc := blt_false hc
      split at ha
      · rename_i b _
        split at ha
        · rename_i hf
          cases ha
          cases hap
          refine main ?_
          obtain ⟨_, h2⟩ := fits_of I hf
          simp only [realCap, ccap_open hc]
          omega
        · cases ha
      · cases ha
  · rename_i n
    split at ha
    · cases ha
    · rename_i xs hxs
      obtain ⟨hr, hlen, hxsc⟩ := valueCells_ok I hxs E.P
      obtain ⟨hr', _, _⟩ := valueCells_ok (I.heapEq (w' := w.drew) rfl) hxs E.P
      rw [conc_sliceAny] at hr hr'
      have grows : ¬ sl + (n + 1) ≤ realCap j base sc → ∀ os, valueCells h (.slice base sl sc) (sl * size) = some os → ∃ cap, sl + (n + 1) ≤ cap ∧
          (Builtin.append_ tys ty #[.slice (base.map (ca j)) sl (realCap j base sc), .slice (xb.map (ca j)) (n + 1) (realCap j xb xc)]).run E.P w =
            .ok (.slice (some ⟨w.heap.size, 0, none⟩) (sl + (n + 1)) cap) (w.drew.alloc (.cells (⟨(os ++ xs).map (conc j)⟩ ++ Builtin.zeroCells z.cells (cap - (sl + (n + 1)))) elem)) := by
        intro hn os hos
        obtain ⟨ho, holen, hosc⟩ := valueCells_ok (I.heapEq (w' := w.drew) rfl) hos E.P
        rw [conc_sliceAny] at ho
        obtain ⟨cap, hc, hrun⟩ := run_append_grows hE T hn hby hneed ho hr'
        refine ⟨cap, hc, ?_⟩
        rw [hrun]
        congr 3
        simp
      split at ha
      · rename_i hc
        have hc : sc < OPEN := by simpa [Nat.blt_eq] using hc
        have hrc : realCap j base sc = sc := by cases base with
          | none => rfl
          | some a => simp only [realCap, ccap_shut hc]
        unfold appendShut at ha
        split at ha
        · rename_i hfit
          have hfit := Nat.le_of_ble_eq_true hfit
          split at ha
          · rename_i b off
            split at ha
            · rename_i g cs hg hone
              split at ha
              · rename_i cs' hsp
                cases ha
                cases hap
                obtain ⟨v, hv⟩ := get_of hg
                obtain ⟨i1, i2, i3, i4, i5⟩ := I.low _ _ _ hv
                obtain ⟨hst, hw⟩ := Wrote.cells (D := h.born) i4 i5 hsp (fun v hv => List.all_eq_true.1 hone v hv) hxsc E.P
                have gr : Grew h (h.put b (.cells true g cs')) b (.cells true g cs') := Grew.put _ (Nat.le_refl _) I.top i1
                obtain ⟨q1, q2, q3⟩ := I.write gr hv (fun _ => trivial) hw.at' hw.sc hw.size hw.os hw.tape hw.output (fun r hr => hw.oth r (hr trivial))
                refine ⟨_, j, ?_, ⟨q1, q2, q3⟩, Sc.slice (gr.born (sc_slice_lt hbs))⟩
                rw [conc_sliceAny, hrc]
                refine run_append_fits hE T hfit hr (fun a e => ?_) (fun e => by cases e)
                simp only [Option.map_some, Option.some.injEq] at e
                subst e
                rw [ca, add_off, Nat.add_assoc]
                exact hst
              · cases ha
            · cases ha
          · cases ha
        · rename_i hfit
          have hfit : ¬ sl + (n + 1) ≤ sc := fun hle => by
            have := Nat.ble_eq_true_of_le hle
            rw [this] at hfit; cases hfit
          split at ha
          · rename_i os hos
            cases ha
            cases hap
            rename_i ht
            obtain ⟨cap, hcap, hrun⟩ := grows (by rw [hrc]; exact hfit) os hos
            obtain ⟨_, holen, hosc⟩ := valueCells_ok I hos E.P
            obtain ⟨r1, r2, r3⟩ := grow_ran I (t := elem) rfl ht rfl (cs := os ++ xs) (fun v hv => (List.mem_append.1 hv).elim (hosc v) (hxsc v)) (need := sl + (n + 1)) (by rw [List.length_append, holen, hlen, ← Nat.add_mul]) hzs hcap
            exact ⟨_, _, by rw [hrun, r2], r1, r3⟩
          · cases ha
      · rename_i hc
        have hc := blt_false hc
        unfold appendOpen at ha
        split at ha
        · rename_i b off
          split at ha
          · rename_i g ocs os hg hone hos
            split at ha
            · rename_i hchk
              cases ha
              cases hap
              rename_i ht
              simp only [Bool.and_eq_true] at hchk
              obtain ⟨hfi, hoff⟩ := hchk
              have hoff : off = un sc * size := Nat.eq_of_beq_eq_true hoff
              obtain ⟨v, hv⟩ := get_of hg
              obtain ⟨i1, i2, i3, i4, i5⟩ := I.low _ _ _ hv
              obtain ⟨_, hcap⟩ := fits_of I (b := b) (by rw [hg]; exact hfi)
              have hgs : g = size + 1 := by
                simp only [openFits, Bool.and_eq_true] at hfi
                exact Nat.eq_of_beq_eq_true hfi.1.1
              subst hgs
              obtain ⟨_, holen, hosc⟩ := valueCells_ok I hos E.P
              have hrc : realCap j (some ⟨b, off, none⟩) sc = (j b).cap - un sc := ccap_open hc
              have hallsc : ∀ v ∈ os ++ xs, Sc h.born v := fun v hv => (List.mem_append.1 hv).elim (hosc v) (hxsc v)
              have halen : (os ++ xs).length = (sl + (n + 1)) * size := by rw [List.length_append, holen, hlen, ← Nat.add_mul]
              have gk : Grew h (h.put b .dead) b .dead := Grew.put _ (Nat.le_refl _) I.top i1
              by_cases hfit : sl + (n + 1) ≤ (j b).cap - un sc
              · exact open_in hE T hs1 I hv hbs hr hlen hxsc (fun v hv => List.all_eq_true.1 hone v hv) hos holen hosc hoff hc hcap hfit ht
              · obtain ⟨cap, hcp, hrun⟩ := grows (by rw [hrc]; exact hfit) os hos
                obtain ⟨q1, q2, q3⟩ := I.write gk hv (fun l => l.elim) (w' := w) trivial trivial rfl rfl rfl rfl (fun _ _ => rfl)
                have hnx : (h.put b .dead).next = h.next := rfl
                have key := fun h1 hh => grow_ran q1 (h1 := h1) (t := elem) rfl (by rw [hnx]; exact ht) hh (cs := os ++ xs) (fun v hv => (hallsc v hv).mono fun _ => gk.born) halen hzs hcp
                rw [hnx] at key
                obtain ⟨r1, r2, r3⟩ := key _ rfl
                exact ⟨_, _, by rw [hrun, r2], Ran.trans I ⟨q1, q2, q3⟩ r1, r3⟩
            · cases ha
          · cases ha
        · cases ha
theorem appendMade_ok {tys : Array TypeId} {ty elem : TypeId} {size by_ : Nat} {z : Value} (h0 : ∃ t, tys[0]? = some t ∧ E.und t = some (.slice elem)) (h1 : ∃ t k, tys[1]? = some t ∧ E.und t = some (.int k))
    (hs : E.size elem = some size) (hz : E.zero elem = some z) (hb : E.bytes elem = some by_) (hzl : (vcells z).length = size) (hs1 : 1 ≤ size) {base : Option Addr} {sl sc n : Nat} (hn : 1 ≤ n)
    (hby : (2 * (sl + n) + 768) * by_ ≤ 2 ^ 47) (hneed : sl + n ≤ 2 ^ 24) (hc : sc < OPEN) (hfit : ¬ sl + n ≤ sc) {h : Hp} {os : List Value} (hos : valueCells h (.slice base sl sc) (sl * size) = some os) (ht : h.next + 1 < 2 ^ 62)
    {G : Nat} {j : Nat → RB} {w : World} (I : Inv G j h w) :
    ∃ w' j', (Builtin.append_ tys ty #[conc j (.slice base sl sc), .int .i64 (.ofNat n)]).run E.P w = .ok (conc j' (.slice (some ⟨h.next, 0, none⟩) (sl + n) OPEN)) w' ∧
      Ran G j j' h ⟨h.next + 1, (h.put h.next (.cells true (size + 1) (os ++ rep n (vcells z)))).clk, (h.put h.next (.cells true (size + 1) (os ++ rep n (vcells z)))).t⟩ w w' ∧
      Sc (Hp.born ⟨h.next + 1, (h.put h.next (.cells true (size + 1) (os ++ rep n (vcells z)))).clk, (h.put h.next (.cells true (size + 1) (os ++ rep n (vcells z)))).t⟩) (.slice (some ⟨h.next, 0, none⟩) (sl + n) OPEN) := by
  have h5 : z.cells.toList = vcells z := by cases z <;> simp [Value.cells, vcells]
  have hzs : z.cells.size = size := by rw [← hzl, ← h5]; simp
  obtain ⟨_, haz⟩ := zero_ok hE hz w
  have hzc : (vcells z).map (conc j) = vcells z := by
    have e1 := vcells_conc j z
    rw [conc_addrFree j haz, h5] at e1
    exact e1.symm
  have hrep : Builtin.zeroCells z.cells n = ⟨(rep n (vcells z)).map (conc j)⟩ := by
    apply Array.ext'
    rw [rep_map, hzc, ← rep_range]
    simp only [Builtin.zeroCells, hzs, hzl]
    have e2 : z.cells = ⟨vcells z⟩ := by rw [← h5]
    rw [e2]
    simp
  have hrc : realCap j base sc = sc := by cases base with
    | none => rfl
    | some a => simp only [realCap, ccap_shut hc]
  rw [conc_sliceAny, hrc]
  obtain ⟨ho, _, _⟩ := valueCells_ok (I.heapEq (w' := w.drew) rfl) hos E.P
  obtain ⟨_, holen, hosc⟩ := valueCells_ok I hos E.P
  rw [conc_sliceAny, hrc] at ho
  obtain ⟨cap, hcap, hrun⟩ := run_append_made hE (ty := ty) h0 h1 hs hz hb hs1 hn hfit hby hneed ho
  have hlen : (rep n (vcells z)).length = n * size := by rw [rep_len, hzl]
  obtain ⟨r1, r2, r3⟩ := grow_ran I (t := elem) rfl ht rfl (cs := os ++ rep n (vcells z)) (fun v hv => (List.mem_append.1 hv).elim (hosc v) (fun hv => vcells_sc (Sc.of_addrFree haz) v (rep_mem hv))) (need := sl + n) (by rw [List.length_append, holen, hlen, ← Nat.add_mul]) hzs hcap
  refine ⟨_, _, ?_, r1, r3⟩
  rw [hrun, r2, hrep]
  congr 3
  simp
end
end Go.Ai
namespace Go.Ai
noncomputable section
variable {E : Env} (hE : EnvOk E)

def Fw (r : Option Nat) : Fence := { fn := fun _ => True, depth := none, alive := false, round := r }
theorem room_Fw (r : Option Nat) (n : Nat) : (Fw r).room n := fun _ h => by simp [Fw] at h

theorem appendK_some {β : Type} {tys : List TypeId} {args : List Value} {h : Hp} {k : Value → Hp → Option β} {r : β} (hk : appendK E tys args h k = some r) :
    ∃ e f N h', appendA E tys args h = some (e, f) ∧ Applied h e N h' ∧ k (f N) h' = some r := by
  unfold appendK at hk
  split at hk
  · rename_i e f ha
    have : forceEff e (fun e => applyK h e fun b h => k (f b) h) = applyK h e fun b h => k (f b) h := by cases e <;> simp [forceEff]
    rw [this] at hk
    obtain ⟨N, h', h1, h2⟩ := applyK_some hk
    exact ⟨e, f, N, h', ha, h1, h2⟩
  · cases hk
theorem operOk_spec {G : Nat} {o : Oper} (h : operOk G o = true) : (∀ x ∈ o.op.operands, opndOk G x = true) ∧ (∀ cs b, o.op ≠ .select cs b) ∧ (∀ c, o.op ≠ .defer c) := by
  simp only [operOk, Bool.and_eq_true, List.all_eq_true] at h
  refine ⟨fun x hx => h.1 x (by simpa using hx), fun cs b e => ?_, fun c e => ?_⟩
  · rw [e] at h; simp at h
  · rw [e] at h; simp at h
/-- The operands of an operation, as the machine has them. -/
def OpAt (j : Nat → RB) (ρ : Operand → Value) (o : Oper) (a : Act) : Prop := ∀ x ∈ o.op.operands, a.eval x = conc j (ρ x)
theorem sem_eq {G : Nat} {j : Nat → RB} {ρ : Operand → Value} {o : Oper} {a : Act} (hop : operOk G o = true) (hR : OpAt j ρ o a) (r : Option Nat) : o.semAt r a.eval = execOp (fun x => conc j (ρ x)) o := by
  obtain ⟨_, h2, h3⟩ := operOk_spec hop
  rw [Oper.semAt_eq r a.eval o h3, execOp_congr o h2 hR]
theorem wp_value {G : Nat} {j : Nat → RB} {ρ : Operand → Value} {o : Oper} {a : Act} {w w' : World} {v : Value} {r : Option Nat} {next : Act → World → Prop} {Q : Exit → Act → World → Prop} (hop : operOk G o = true) (hR : OpAt j ρ o a)
    (hrun : (execOp (fun x => conc j (ρ x)) o).run E.P w = .ok (.value v) w') (hn : next (a.put o.dst v) w') : o.wpIn (Fw r) 0 E.P a w next Q := by
  refine ⟨fun _ _ => trivial, ?_⟩
  show o.uponIn _ _ _ _ _ _ ((o.semAt (Fw r).round a.eval).run E.P w)
  rw [sem_eq hop hR, hrun]
  exact hn
theorem wp_skip' {G : Nat} {j : Nat → RB} {ρ : Operand → Value} {o : Oper} {a : Act} {w w' : World} {r : Option Nat} {next : Act → World → Prop} {Q : Exit → Act → World → Prop} (hop : operOk G o = true) (hR : OpAt j ρ o a)
    (hrun : (execOp (fun x => conc j (ρ x)) o).run E.P w = .ok .skip w') (hn : next (a.put o.dst undef) w') : o.wpIn (Fw r) 0 E.P a w next Q := by
  refine ⟨fun _ _ => trivial, ?_⟩
  show o.uponIn _ _ _ _ _ _ ((o.semAt (Fw r).round a.eval).run E.P w)
  rw [sem_eq hop hR, hrun]
  exact hn
/-- What a chained operation (a call, an append) comes to. -/
def Chain (E : Env) (o : Oper) (ρ : Operand → Value) (h : Hp) (v : Value) (h' : Hp) : Prop :=
  ∀ (j : Nat → RB) (w : World) (a : Act) (r : Option Nat) (next : Act → World → Prop) (Q : Exit → Act → World → Prop), Inv E.G j h w → OpAt j ρ o a → (∀ x ∈ o.op.operands, Sc h.born (ρ x)) →
    (∀ j' w', Ran E.G j j' h h' w w' → Sc h'.born v → next (a.put o.dst (conc j' v)) w') → o.wpIn (Fw r) 0 E.P a w next Q
include hE
theorem chain_append {o : Oper} {args : Array Operand} {tys : Array TypeId} (ho : o.op = .call { callee := .builtin .append, args := args, argTypes := tys }) (hop : operOk E.G o = true) {ρ : Operand → Value} {h h' : Hp} {e : Eff} {f : Nat → Value} {N : Nat}
    (ha : appendA E tys.toList (args.toList.map ρ) h = some (e, f)) (hap : Applied h e N h') : Chain E o ρ h (f N) h' := by
  intro j w a r next Q I hR hsc hn
  unfold appendA at ha
  split at ha
  · rename_i t t1 trest base sl sc xb n xc htys hargs
    split at ha
    · rename_i elem el1 hd hd1
      split at ha
      · rename_i size by_ z hs hb hz
        split at ha
        · rename_i hc
          simp only [Bool.and_eq_true] at hc
          obtain ⟨⟨⟨c1, c2⟩, c3⟩, c4⟩ := hc
          have T : AppTypes E tys elem size z by_ := ⟨⟨t, by rw [← Array.getElem?_toList, htys]; rfl, hd⟩, ⟨t1, el1, by rw [← Array.getElem?_toList, htys]; rfl, hd1⟩, hs, hz, hb⟩
          have hbs : Sc h.born (.slice base sl sc) := by
            cases hl : args.toList with
            | nil => rw [hl] at hargs; simp at hargs
            | cons y ys =>
              rw [hl] at hargs
              simp at hargs
              rw [← hargs.1]
              refine hsc y ?_
              rw [ho]
              simp only [Op.operands, Call.operands]
              have : y ∈ args := by rw [← Array.mem_toList_iff, hl]; simp
              simp [this]
          obtain ⟨w', j', hrun, hran, hv⟩ := appendAt_ok hE (ty := o.type) T (Nat.eq_of_beq_eq_true c2) (Nat.le_of_ble_eq_true c1) (Nat.le_of_ble_eq_true c3) (Nat.le_of_ble_eq_true c4) ha hap I hbs
          refine wp_value hop hR (v := conc j' (f N)) (w' := w') ?_ (hn j' w' hran hv)
          have hmap : args.map (fun x => conc j (ρ x)) = #[conc j (.slice base sl sc), conc j (.slice xb n xc)] := by
            apply Array.ext'
            have : (args.toList.map ρ).map (conc j) = [conc j (.slice base sl sc), conc j (.slice xb n xc)] := by rw [hargs]; rfl
            simpa [Function.comp_def] using this
          simp only [execOp, ho, resolve, invoke, builtin, Sem.run_bind, Sem.run_pure, Result.andThen_ok, hmap, hrun]
        · cases ha
      · cases ha
    · cases ha
  · rename_i t t1 trest base sl sc n htys hargs
    split at ha
    · rename_i elem k1 hd hd1
      split at ha
      · rename_i size by_ z hs hb hz
        split at ha
        · rename_i hc
          simp only [Bool.and_eq_true, Bool.not_eq_true'] at hc
          obtain ⟨⟨⟨⟨⟨⟨c1, c2⟩, c3⟩, c4⟩, c5⟩, c6⟩, c7⟩ := hc
          split at ha
          · rename_i os hos
            cases ha
            cases hap
            rename_i ht
            have hfit : ¬ sl + n ≤ sc := fun hle => by
              have := Nat.ble_eq_true_of_le hle
              rw [this] at c7; cases c7
            obtain ⟨w', j', hrun, hran, hv⟩ := appendMade_ok hE (tys := tys) (ty := o.type) ⟨t, by rw [← Array.getElem?_toList, htys]; rfl, hd⟩ ⟨t1, k1, by rw [← Array.getElem?_toList, htys]; rfl, hd1⟩ hs hz hb (Nat.eq_of_beq_eq_true c2) (Nat.le_of_ble_eq_true c1)
              (Nat.le_of_ble_eq_true c5) (Nat.le_of_ble_eq_true c3) (Nat.le_of_ble_eq_true c4) (by simpa [Nat.blt_eq] using c6) hfit hos ht I
            refine wp_value hop hR (v := conc j' (.slice (some ⟨h.next, 0, none⟩) (sl + n) OPEN)) (w' := w') ?_ (hn j' w' hran hv)
            have hmap : args.map (fun x => conc j (ρ x)) = #[conc j (.slice base sl sc), .int .i64 (.ofNat n)] := by
              apply Array.ext'
              have : (args.toList.map ρ).map (conc j) = [conc j (.slice base sl sc), .int .i64 (.ofNat n)] := by rw [hargs]; rfl
              simpa [Function.comp_def] using this
            simp only [execOp, ho, resolve, invoke, builtin, Sem.run_bind, Sem.run_pure, Result.andThen_ok, hmap, hrun]
          · cases ha
        · cases ha
      · cases ha
    · cases ha
  · cases ha
end
end Go.Ai
namespace Go.Ai
noncomputable section
variable {E : Env} (hE : EnvOk E)

/-- One operation of a region, as the evaluator takes it. -/
inductive Step (E : Env) (all : List Oper) (o : Oper) (rest : List Oper) : Option Book → Fr → Hp → Option Book → Fr → Hp → Prop
  | skip {st fr h} (hw : wantedA all fr o = some false) (hd : ∀ d, o.dst = some d → d < fr.sz) : Step E all o rest st fr h (skipped o.op h.clk st) (fr.put o.dst undef) h
  | p {st fr h v} (hw : wantedA all fr o = some true) (hc : cls o.op = .p) (hq : quiet E o fr.val none = some v) (hd : ∀ d, o.dst = some d → d < fr.sz) : Step E all o rest st fr h (tick' st) (fr.put o.dst v) h
  | q {st st' fr h v} (hw : wantedA all fr o = some true) (hc : cls o.op = .q) (hq : quiet E o fr.val (blkAt h (reads fr.val o.op)) = some v) (hd : ∀ d, o.dst = some d → d < fr.sz)
      (hst : st = none ∧ st' = none ∨ ∃ b kk m is ss rs, st = some (b, (kk, m) :: is, ss, rs) ∧ readOk h (reads fr.val o.op) ss kk = true ∧ st' = some (b, is, ss, addRec h (reads fr.val o.op) m rs)) :
      Step E all o rest st fr h st' (fr.put o.dst v) h
  | a {st st' fr h h' B f id} (hw : wantedA all fr o = some true) (hc : cls o.op = .a) (hl : laid E o.op fr.val = some (B, f)) (hd : ∀ d, o.dst = some d → d < fr.sz)
      (hst : st = none ∧ st' = none ∧ id = h.next ∧ h.next + 1 < 2 ^ 62 ∧ h' = ⟨h.next + 1, (h.put h.next B).clk, (h.put h.next B).t⟩ ∨
        ∃ b i is ss rs, st = some (b, i :: is, ss, rs) ∧ st' = some (b, is, ss, rs) ∧ id = b + (all.length - rest.length - 1) ∧ h' = h.put id B) :
      Step E all o rest st fr h st' (fr.put o.dst (f id)) h'
  | s {st st' fr h b B} (hw : wantedA all fr o = some true) (hc : cls o.op = .s) (hb : writes fr.val o.op = some b) (hB : written E o.op fr.val (h.get b) = some B) (hd : ∀ d, o.dst = some d → d < fr.sz)
      (hst : st = none ∧ st' = none ∨ ∃ b' i is ss rs, st = some (b', i :: is, ss, rs) ∧ recsOk (h.put b B) rs ss.length = true ∧ st' = some (b', is, ss ++ [h.clk], rs)) :
      Step E all o rest st fr h st' (fr.put o.dst (writeVal o.op)) (h.put b B)
  | c {st st' fr h h' v} (hw : wantedA all fr o = some true) (hc : cls o.op = .c) (hch : Chain E o fr.val h v h') (hev : Evo h h') (hfr : ∀ x, x < h.next → ¬ h.born x → ¬ h'.born x) (hd : ∀ d, o.dst = some d → d < fr.sz)
      (hst : st = none ∧ st' = none ∨ ∃ b i is ss rs, st = some (b, i :: is, ss, rs) ∧ recsOk h' rs ss.length = true ∧ st' = some (b, is, ss ++ [h.clk], rs)) :
      Step E all o rest st fr h st' (fr.put o.dst v) h'
inductive Trace (E : Env) (all : List Oper) : List Oper → Option Book → Fr → Hp → Fr → Hp → Prop
  | nil {st fr h} : Trace E all [] st fr h fr h
  | cons {o rest st st1 fr fr1 fr2 h h1 h2} (s : Step E all o rest st fr h st1 fr1 h1) (t : Trace E all rest st1 fr1 h1 fr2 h2) : Trace E all (o :: rest) st fr h fr2 h2

theorem wanted_eq {j : Nat → RB} {ops : Array Oper} {fr : Fr} {o : Oper} {a : Act} {b : Bool} (hw : wantedA ops.toList fr o = some b) (ht : TmAt j fr.tm fr.sz a.tmps) : Region.wanted o (yielded ops a.tmps) = b := by
  unfold wantedA at hw
  unfold Region.wanted
  split at hw
  · rename_i hg; rw [hg]; cases hw; rfl
  · rename_i g want hg
    rw [hg]
    have hgd : (ops[g]?).bind (·.dst) = (match nth ops.toList g with | some o => o.dst | none => none) := by
      rw [nth_eq, Array.getElem?_toList]
      cases ops[g]? <;> rfl
    split at hw
    · rename_i d hd
      have hv := ht.val d
      have hy : yielded ops a.tmps g = match fr.val (.tmp d) with | .bool b => some b | _ => none := by
        have hgd' : (ops[g]?).bind (·.dst) = some d := by rw [hgd]; exact hd
        unfold yielded
        rw [hgd']
        simp only [Option.bind_some]
        rw [val_tmp]
        by_cases hs : d < a.tmps.size
        · have : a.tmps[d]? = some (conc j (tmv fr.tm d)) := by
            rw [← hv]; simp [Array.getD, hs]
          rw [this]
          cases tmv fr.tm d with
          | bool b => rfl
          | pointer p => cases p <;> rfl
          | slice p l c => cases p <;> rfl
          | map r => cases r <;> rfl
          | agg cs => simp
          | tuple cs => simp
          | func f x y => simp
          | chan r => cases r <;> rfl
          | _ => rfl
        · have h0 : a.tmps[d]? = none := Array.getElem?_eq_none (Nat.le_of_not_lt hs)
          rw [h0]
          have hu : conc j (tmv fr.tm d) = undef := by rw [← hv]; simp [Array.getD, hs]
          cases htv : tmv fr.tm d with
          | bool b => rw [htv] at hu; simp [undef] at hu
          | _ => rfl
      split at hw
      · rename_i b' hb'
        cases hw
        simp only [hy, hb']
        cases b' <;> cases want <;> rfl
      · rename_i hnb
        cases hw
        have hy' : yielded ops a.tmps g = none := by
          rw [hy]
          cases hfv : fr.val (.tmp d) with
          | bool b' => exact absurd hfv (hnb b')
          | _ => rfl
        simp [hy']
    · rename_i hd
      cases hw
      have hgd' : (ops[g]?).bind (·.dst) = none := by rw [hgd]; exact hd
      have : yielded ops a.tmps g = none := by unfold yielded; rw [hgd']; rfl
      simp [this]
theorem FrAt.ran {G : Nat} {j j' : Nat → RB} {h h' : Hp} {w w' : World} {fr : Fr} {a : Act} (F : FrAt j h.born fr a) (R : Ran G j j' h h' w w') : FrAt j' h'.born fr a :=
  F.ext R.fp.ext fun _ => R.evo.born
theorem opAt_of {G : Nat} {j : Nat → RB} {h : Hp} {w : World} {fr : Fr} {a : Act} (I : Inv G j h w) (F : FrAt j h.born fr a) {o : Oper} (hop : operOk G o = true) : OpAt j fr.val o a ∧ ∀ x ∈ o.op.operands, Sc h.born (fr.val x) := by
  obtain ⟨h1, _, _⟩ := operOk_spec hop
  exact ⟨fun x hx => val_ok F (fun g hg => (I.glob g hg).2) (h1 x hx), fun x hx => val_sc F (fun g hg => (I.glob g hg).1) (h1 x hx)⟩
end
end Go.Ai
namespace Go.Ai
noncomputable section
variable {E : Env} (hE : EnvOk E)

theorem not_born_next {G : Nat} {j : Nat → RB} {h : Hp} {w : World} (I : Inv G j h w) : ¬ h.born h.next := by
  intro hb
  obtain ⟨⟨v, y⟩, hy⟩ := Option.ne_none_iff_exists'.1 hb
  have := (I.low _ _ _ hy).1
  omega
theorem blkAt_some {h : Hp} {b : Option Nat} {x : Blk} (hb : blkAt h b = some x) : ∃ c v, b = some c ∧ h.t.get c = some (v, x) := by
  unfold blkAt at hb
  split at hb
  · obtain ⟨v, hv⟩ := get_of hb; exact ⟨_, v, rfl, hv⟩
  · cases hb
include hE
/-- One operation in the order of the text. -/
theorem step_ok {ops : Array Oper} {o : Oper} {rest : List Oper} {fr fr' : Fr} {h h' : Hp} {st' : Option Book} (s : Step E ops.toList o rest none fr h st' fr' h') (hop : operOk E.G o = true)
    {j : Nat → RB} {w : World} {a : Act} (I : Inv E.G j h w) (F : FrAt j h.born fr a) {i : Nat} (hi : ops[i]? = some o) {r : Option Nat} {K : Act → World → Prop} {Q : Exit → Act → World → Prop}
    (hK : ∀ j' w' a', Ran E.G j j' h h' w w' → FrAt j' h'.born fr' a' → K a' w') : st' = none ∧ fr'.round = fr.round ∧ wpOpIn (Fw r) 0 E.P ops Q i K a w := by
  obtain ⟨hR, hsc⟩ := opAt_of I F hop
  unfold wpOpIn
  rw [hi]
  cases s with
  | skip hw hd =>
    refine ⟨rfl, by cases ho : o.dst <;> rfl, ?_⟩
    have hwt := wanted_eq hw F.tm
    simp only [hwt, Bool.false_eq_true, if_false]
    have := F.put (v := undef) (Sc.undef _) hd
    rw [conc_undef] at this
    exact ⟨fun _ _ => trivial, hK j w _ (Ran.refl I) this⟩
  | p hw hc hq hd =>
    refine ⟨rfl, by cases ho : o.dst <;> rfl, ?_⟩
    have hwt := wanted_eq hw F.tm
    simp only [hwt, if_true]
    have hrun := quiet_ok hE hq j w (fun b _ x hx => by cases hx)
    have hv := quiet_sc hE (n := h.born) hq hsc (fun x hx => by cases hx)
    exact wp_value hop hR hrun (hK j w _ (Ran.refl I) (F.put hv hd))
  | q hw hc hq hd hst =>
    have hwt := wanted_eq hw F.tm
    rcases hst with ⟨_, rfl⟩ | ⟨b, kk, m, is, ss, rs, hst, _⟩
    · refine ⟨rfl, by cases ho : o.dst <;> rfl, ?_⟩
      simp only [hwt, if_true]
      have hrun := quiet_ok hE hq j w (fun b hb x hx => by
        obtain ⟨c, v, hc, hv⟩ := blkAt_some hx
        rw [hb] at hc; cases hc
        exact (I.low _ _ _ hv).2.2.2.1)
      have hv := quiet_sc hE (n := h.born) hq hsc (fun x hx => by
        obtain ⟨c, v, _, hv⟩ := blkAt_some hx
        exact (I.low _ _ _ hv).2.2.2.2)
      exact wp_value hop hR hrun (hK j w _ (Ran.refl I) (F.put hv hd))
    · cases hst
  | a hw hc hl hd hst =>
    rename_i B f id
    have hwt := wanted_eq hw F.tm
    rcases hst with ⟨_, rfl, rfl, ht, rfl⟩ | ⟨b, i, is, ss, rs, hst, _⟩
    · refine ⟨rfl, by cases ho : o.dst <;> rfl, ?_⟩
      simp only [hwt, if_true]
      obtain ⟨ob, V, hrun, hlv, hbs, hall⟩ := laid_ok hE hl hsc j w
      obtain ⟨hV, hat, hfs⟩ := hall h.next (not_born_next I)
      have g : Grew h ⟨h.next + 1, (h.put h.next B).clk, (h.put h.next B).t⟩ h.next B := Grew.put _ (by omega) ht (by omega)
      obtain ⟨i1, i2, i3⟩ := I.lay g (not_born_next I) hlv hat (hbs.mono fun _ => g.born)
      have hb' : Hp.born ⟨h.next + 1, (h.put h.next B).clk, (h.put h.next B).t⟩ h.next := by unfold Hp.born; rw [g.get, if_pos rfl]; simp
      have hfs' := hfs.mono (D' := Hp.born ⟨h.next + 1, (h.put h.next B).clk, (h.put h.next B).t⟩) (fun x hx => hx.elim g.born (fun e => e ▸ hb'))
      have R : Ran E.G j _ h _ w _ := ⟨i1, i2, i3⟩
      have F' := (F.ran R).put hfs' hd
      rw [← hV] at F'
      exact wp_value hop hR hrun (hK _ _ _ R F')
    · cases hst
  | s hw hc hb hB hd hst =>
    rename_i b B
    have hwt := wanted_eq hw F.tm
    rcases hst with ⟨_, rfl⟩ | ⟨b', i, is, ss, rs, hst, _⟩
    · refine ⟨rfl, by cases ho : o.dst <;> rfl, ?_⟩
      simp only [hwt, if_true]
      cases hg : h.get b with
      | none =>
        rw [hg] at hB
        exfalso
        obtain ⟨d, op, ty, pos, aft, gd⟩ := o
        cases op <;> simp [written] at hB
        all_goals revert hB
        all_goals first
          | (unfold storeA; (repeat' split) <;> simp_all)
          | (unfold updateA; (repeat' split) <;> simp_all) | (unfold entryA; (repeat' split) <;> simp_all)
          | (unfold writtenB clearA; (repeat' split) <;> simp_all)
      | some B0 =>
        rw [hg] at hB
        obtain ⟨v, hv⟩ := get_of hg
        obtain ⟨i1, i2, i3, i4, i5⟩ := I.low _ _ _ hv
        obtain ⟨w', N, hrun, hN, hw'⟩ := written_ok hE hB hb hsc i4 i5 i3
        have gr : Grew h (h.put b B) b B := Grew.put _ (Nat.le_refl _) I.top i1
        obtain ⟨q1, q2, q3⟩ := I.write gr hv (fun _ => hw'.live.1) hw'.at' hw'.sc hw'.size hw'.os hw'.tape hw'.output (fun r hr => hw'.oth r (hr hw'.live.1))
        have R : Ran E.G j j h (h.put b B) w w' := ⟨q1, q2, q3⟩
        have hvs : Sc (h.put b B).born (writeVal o.op) := fun j1 j2 _ => by rw [conc_writeVal, conc_writeVal]
        have F' := (F.ran R).put hvs hd
        rw [conc_writeVal] at F'
        rcases hN with ⟨rfl, hu⟩ | rfl
        · have k := hK _ _ _ R F'
          rw [hu] at k
          exact wp_skip' hop hR hrun k
        · exact wp_value hop hR hrun (hK _ _ _ R F')
    · cases hst
  | c hw hc hch hev hfr hd hst =>
    have hwt := wanted_eq hw F.tm
    rcases hst with ⟨_, rfl⟩ | ⟨b', i, is, ss, rs, hst, _⟩
    · refine ⟨rfl, by cases ho : o.dst <;> rfl, ?_⟩
      simp only [hwt, if_true]
      exact hch j w a r K Q I hR hsc fun j' w' R hv => hK j' w' _ R ((F.ran R).put hv hd)
    · cases hst
end
end Go.Ai
namespace Go.Ai
noncomputable section
variable {E : Env}

theorem put_round (fr : Fr) (d : Option Tmp) (v : Value) : (fr.put d v).round = fr.round := by cases d <;> rfl
theorem Step.round {all rest : List Oper} {o : Oper} {st st' : Option Book} {fr fr' : Fr} {h h' : Hp} (s : Step E all o rest st fr h st' fr' h') : fr'.round = fr.round := by
  cases s <;> exact put_round _ _ _
theorem Trace.round {all l : List Oper} {st : Option Book} {fr fr' : Fr} {h h' : Hp} (t : Trace E all l st fr h fr' h') : fr'.round = fr.round := by
  induction t with
  | nil => rfl
  | cons s _ ih => exact ih.trans s.round

/-- A region in the order of its text. -/
theorem trace_seq (hE : EnvOk E) {ops : Array Oper} (hops : ∀ o ∈ ops, operOk E.G o = true) {r : Option Nat} {Q : Exit → Act → World → Prop} {l : List Oper} {st : Option Book} {fr fr' : Fr} {h h' : Hp}
    (t : Trace E ops.toList l st fr h fr' h') : st = none → ∀ (k : Nat), (∀ m, l[m]? = ops[k + m]?) → ∀ (j : Nat → RB) (w : World) (a : Act), Inv E.G j h w → FrAt j h.born fr a →
    (∀ j' w' a', Ran E.G j j' h h' w w' → FrAt j' h'.born fr' a' → Q .normal a' w') → wpOpsIn (Fw r) 0 E.P ops Q (List.range' k l.length) a w := by
  induction t with
  | nil =>
    intro _ k _ j w a I F hQ
    exact hQ j w a (Ran.refl I) F
  | @cons o rest st st1 fr fr1 fr2 h h1 h2 s t ih =>
    intro hst k hk j w a I F hQ
    subst hst
    have h0 : ops[k]? = some o := by simpa using (hk 0).symm
    have hk' : ∀ m, rest[m]? = ops[k + 1 + m]? := fun m => by have := hk (m + 1); simpa [Nat.add_assoc, Nat.add_comm 1 m] using this
    have hop := hops o (Array.mem_of_getElem? h0)
    simp only [List.length_cons, List.range'_succ, wpOpsIn_cons]
    have hs := (step_ok hE (r := r) (K := fun _ _ => True) (Q := Q) s hop I F h0 (fun _ _ _ _ _ => trivial)).1
    refine (step_ok hE s hop I F h0 fun j' w' a' R F' => ?_).2.2
    exact ih hs (k + 1) hk' j' w' a' R.inv F' fun j2 w2 a2 R2 F2 => hQ j2 w2 a2 (R.trans I R2) F2

theorem region_seq (hE : EnvOk E) {ops : Array Oper} (hops : ∀ o ∈ ops, operOk E.G o = true) {r : Option Nat} {id : Nat} {Q : Exit → Act → World → Prop} {fr fr' : Fr} {h h' : Hp}
    (t : Trace E ops.toList ops.toList none fr h fr' h') {j : Nat → RB} {w : World} {a : Act} (I : Inv E.G j h w) (F : FrAt j h.born fr a)
    (hQ : ∀ j' w' a', Ran E.G j j' h h' w w' → FrAt j' h'.born fr' a' → Q .normal a' w') : (Code.region id ops false).wpIn (Fw r) 0 E.P Q a w := by
  refine wpIn_region ?_
  rw [List.range_eq_range', ← Array.length_toList]
  exact trace_seq hE hops t rfl 0 (fun m => by simp) j w a I F hQ
end
end Go.Ai
namespace Go.Ai
noncomputable section
variable {E : Env}

/-! ### One operation, at any heap -/
section
variable {ops : Array Oper} {o : Oper} {i : Nat} {a : Act} {w : World} {r : Option Nat} {K : Act → World → Prop} {Q : Exit → Act → World → Prop} {j : Nat → RB} {ρ : Operand → Value} {H : Hp}

theorem op_skip (hi : ops[i]? = some o) (hw : Region.wanted o (yielded ops a.tmps) = false) (hK : K (a.put o.dst undef) w) : wpOpIn (Fw r) 0 E.P ops Q i K a w := by
  unfold wpOpIn
  rw [hi]
  simp only [hw, Bool.false_eq_true, if_false]
  exact ⟨fun _ _ => trivial, hK⟩
theorem op_wanted (hi : ops[i]? = some o) (hw : Region.wanted o (yielded ops a.tmps) = true) (h : o.wpIn (Fw r) 0 E.P a w K Q) : wpOpIn (Fw r) 0 E.P ops Q i K a w := by
  unfold wpOpIn
  rw [hi]
  simp only [hw, if_true]
  exact h
theorem op_q (hE : EnvOk E) (hop : operOk E.G o = true) (hR : OpAt j ρ o a) {x : Option Blk} {v : Value} (hq : quiet E o ρ x = some v)
    (hx : ∀ b, reads ρ o.op = some b → ∀ y, x = some y → BlkAt j (j b) w y) (hK : K (a.put o.dst (conc j v)) w) : o.wpIn (Fw r) 0 E.P a w K Q :=
  wp_value hop hR (quiet_ok hE hq j w hx) hK
theorem op_a (hE : EnvOk E) (hop : operOk E.G o = true) (I : Inv E.G j H w) (hR : OpAt j ρ o a) {B : Blk} {f : Nat → Value} (hl : laid E o.op ρ = some (B, f)) (hsc : ∀ x ∈ o.op.operands, Sc H.born (ρ x)) {id : Nat} (hid : ¬ H.born id) {H' : Hp} (g : Grew H H' id B)
    (hK : ∀ j' w', Ran E.G j j' H H' w w' → Sc H'.born (f id) → K (a.put o.dst (conc j' (f id))) w') : o.wpIn (Fw r) 0 E.P a w K Q := by
  obtain ⟨ob, V, hrun, hlv, hbs, hall⟩ := laid_ok hE hl hsc j w
  obtain ⟨hV, hat, hfs⟩ := hall id hid
  obtain ⟨i1, i2, i3⟩ := I.lay g hid hlv hat (hbs.mono fun _ => g.born)
  have hb' : H'.born id := by unfold Hp.born; rw [g.get, if_pos rfl]; simp
  have hfs' := hfs.mono (D' := H'.born) (fun x hx => hx.elim g.born (fun e => e ▸ hb'))
  have k := hK _ _ ⟨i1, i2, i3⟩ hfs'
  rw [← hV] at k
  exact wp_value hop hR hrun k
theorem op_s (hE : EnvOk E) (hop : operOk E.G o = true) (I : Inv E.G j H w) (hR : OpAt j ρ o a) {b : Nat} {B0 B : Blk} (hb : writes ρ o.op = some b) (hg : H.get b = some B0) (hB : written E o.op ρ (some B0) = some B) (hsc : ∀ x ∈ o.op.operands, Sc H.born (ρ x))
    {H' : Hp} (g : Grew H H' b B) (hK : ∀ w', Ran E.G j j H H' w w' → K (a.put o.dst (writeVal o.op)) w') : o.wpIn (Fw r) 0 E.P a w K Q := by
  obtain ⟨v, hv⟩ := get_of hg
  obtain ⟨i1, i2, i3, i4, i5⟩ := I.low _ _ _ hv
  obtain ⟨w', N, hrun, hN, hw'⟩ := written_ok hE hB hb hsc i4 i5 i3
  obtain ⟨q1, q2, q3⟩ := I.write g hv (fun _ => hw'.live.1) hw'.at' hw'.sc hw'.size hw'.os hw'.tape hw'.output (fun r hr => hw'.oth r (hr hw'.live.1))
  have k := hK w' ⟨q1, q2, q3⟩
  rcases hN with ⟨rfl, hu⟩ | rfl
  · rw [hu] at k
    exact wp_skip' hop hR hrun k
  · exact wp_value hop hR hrun k
end

/-! ### What a promise of an operation is worth -/
theorem wpIn_exists {r : Option Nat} {o : Oper} {a : Act} {w : World} {K : Act → World → Prop} (h : o.wpIn (Fw r) 0 E.P a w K (fun _ _ _ => False)) : ∃ a' w', K a' w' := by
  obtain ⟨-, h⟩ := h
  generalize (o.semAt (Fw r).round a.eval).run E.P w = x at h
  cases x with
  | ok x w' =>
    cases x <;> simp only [Oper.uponIn] at h
    case value => exact ⟨_, _, h⟩
    case skip => exact ⟨_, _, h⟩
    case defer => exact ⟨_, _, h⟩
    case enter =>
      obtain ⟨e, w', fr, hR, -⟩ := h.2.2 [] (room_Fw r _)
      cases e with
      | returned v => exact ⟨_, _, hR⟩
      | panicked c => exact hR.elim
      | outgrown => obtain ⟨_, _, hQ⟩ := hR; exact hQ.elim
    case row =>
      obtain ⟨v, w', hR, -⟩ := h.2 default [] (room_Fw r _)
      exact ⟨_, _, hR⟩
    case round =>
      obtain ⟨e, w', hR, -⟩ := h.2.2 default [] (room_Fw r _)
      cases e with
      | returned v => exact ⟨_, _, hR⟩
      | panicked c => exact hR.elim
      | outgrown => obtain ⟨_, _, hQ⟩ := hR; exact hQ.elim
  | halt x w' => cases x <;> simp only [Oper.uponIn] at h
theorem wpOpIn_exists {r : Option Nat} {ops : Array Oper} {i : Nat} {a : Act} {w : World} {K : Act → World → Prop} (h : wpOpIn (Fw r) 0 E.P ops (fun _ _ _ => False) i K a w) : ∃ a' w', K a' w' := by
  unfold wpOpIn at h
  split at h
  · exact ⟨_, _, h⟩
  · split at h
    · exact wpIn_exists h
    · exact ⟨_, _, h.2⟩
end
end Go.Ai
namespace Go.Ai
noncomputable section
open Classical

/-- What of the heap between two steps is asked when their footprints are put together. -/
structure Mid (h h1 h2 : Hp) : Prop where
  born : ∀ x, h.born x → h1.born x
  same : ∀ x v y, h.t.get x = some (v, y) → h2.t.get x = h.t.get x → h1.t.get x = h.t.get x
  dead : ∀ b v x, h1.t.get b = some (v, x) → x.live → ∀ v' x', h.t.get b = some (v', x') → x'.live
theorem Fp.trans' {j j1 j2 : Nat → RB} {h h1 h2 : Hp} {w w1 w2 : World} (a : Fp j j1 h h1 w w1) (b : Fp j1 j2 h1 h2 w1 w2) (m : Mid h h1 h2) : Fp j j2 h h2 w w2 := by
  have hdead := m.dead
  have turned : ∀ {x v y}, h.t.get x = some (v, y) → h1.t.get x ≠ h.t.get x → h2.t.get x ≠ h.t.get x := fun hx hn e => hn (m.same _ _ _ hx e)
  refine ⟨b.os.trans a.os, b.tape.trans a.tape, b.output.trans a.output, Nat.le_trans a.size b.size, fun x hx => (b.ext x (m.born x hx)).trans (a.ext x hx), fun r hr hf => ?_, fun x h2x hx => ?_⟩
  · have f1 : w1.heap[r]? = w.heap[r]? := a.frame r hr fun x v y hx hlv hj => m.same _ _ _ hx (hf x v y hx hlv hj)
    have f2 : w2.heap[r]? = w1.heap[r]? := b.frame r (Nat.lt_of_lt_of_le hr a.size) fun x v y hx hlv hj => by
      by_cases hx0 : h.born x
      · obtain ⟨⟨v0, y0⟩, h0⟩ := Option.ne_none_iff_exists'.1 hx0
        rw [a.ext x hx0] at hj
        have e2 := hf x v0 y0 h0 (hdead x v y hx hlv v0 y0 h0) hj
        rw [e2, m.same _ _ _ h0 e2]
      · rcases a.fresh x (by simp [Hp.born, hx]) hx0 with hs | ⟨o, v0, y0, ho, hlo, ht, hjo⟩
        · omega
        · exact absurd (hf o v0 y0 ho hlo (by rw [hjo, hj])) (turned ho ht)
    rw [f2, f1]
  · by_cases h1x : h1.born x
    · rw [b.ext x h1x]
      rcases a.fresh x h1x hx with hs | ⟨o, v0, y0, ho, hlo, ht, hjo⟩
      · exact .inl hs
      · exact .inr ⟨o, v0, y0, ho, hlo, turned ho ht, hjo⟩
    · rcases b.fresh x h2x h1x with hs | ⟨o, v1, y1, ho, hlo, ht, hjo⟩
      · exact .inl (Nat.le_trans a.size hs)
      · by_cases ho0 : h.born o
        · obtain ⟨⟨v0, y0⟩, h0⟩ := Option.ne_none_iff_exists'.1 ho0
          refine .inr ⟨o, v0, y0, h0, hdead o v1 y1 ho hlo v0 y0 h0, fun e => ?_, by rw [← hjo, a.ext o ho0]⟩
          have := m.same _ _ _ h0 e
          exact ht (by rw [e, this])
        · rcases a.fresh o (by simp [Hp.born, ho]) ho0 with hs | ⟨o', v0, y0, ho', hlo', ht', hjo'⟩
          · exact .inl (hjo ▸ hs)
          · exact .inr ⟨o', v0, y0, ho', hlo', turned ho' ht', by rw [hjo', hjo]⟩

theorem get_some {h : Hp} {x v : Nat} {y : Blk} (e : h.t.get x = some (v, y)) : h.get x = some y := by unfold Hp.get; rw [e]; rfl
theorem born_of_get {h : Hp} {x : Nat} {y : Blk} (e : h.get x = some y) : h.born x := by obtain ⟨v, hv⟩ := get_of e; unfold Hp.born; rw [hv]; simp
theorem born_iff_get {h : Hp} {x : Nat} : h.born x ↔ h.get x ≠ none := by unfold Hp.born Hp.get; cases h.t.get x <;> simp

/-- The stamps play no part in the relation. -/
theorem Inv.rever {G : Nat} {j : Nat → RB} {h h' : Hp} {w : World} (I : Inv G j h w) (e : ∀ x, h'.get x = h.get x) (top : h'.next < 2 ^ 62) (low : ∀ b v x, h'.t.get b = some (v, x) → b < h'.next ∧ v ≤ h'.clk) : Inv G j h' w := by
  have hb : ∀ x, h.born x → h'.born x := fun x => by rw [born_iff_get, born_iff_get, e]; exact id
  refine ⟨top, fun g hg => ⟨hb g (I.glob g hg).1, (I.glob g hg).2⟩, fun b v x hx => ?_, fun b b' v v' x x' hx hx' => ?_⟩
  · have := get_some hx
    rw [e] at this
    obtain ⟨v0, h0⟩ := get_of this
    obtain ⟨i1, i2, i3, i4, i5⟩ := I.low _ _ _ h0
    exact ⟨(low _ _ _ hx).1, (low _ _ _ hx).2, i3, i4, i5.mono hb⟩
  · have g1 := get_some hx
    have g2 := get_some hx'
    rw [e] at g1 g2
    obtain ⟨v0, h0⟩ := get_of g1
    obtain ⟨v1, h1⟩ := get_of g2
    exact I.inj _ _ _ _ _ _ h0 h1
theorem Fp.rever {j j' : Nat → RB} {h h1 h2 : Hp} {w w1 : World} (a : Fp j j' h h1 w w1) (e : ∀ x, h2.get x = h1.get x) (s : ∀ x, h.born x → h2.t.get x = h.t.get x → h1.t.get x = h.t.get x) : Fp j j' h h2 w w1 := by
  refine ⟨a.os, a.tape, a.output, a.size, a.ext, fun r hr hf => a.frame r hr fun b v x hb hl hj => s b (by simp [Hp.born, hb]) (hf b v x hb hl hj), fun b hb hn => ?_⟩
  rcases a.fresh b (by rw [born_iff_get] at hb ⊢; rwa [← e]) hn with hs | ⟨o, v, x, ho, hl, ht, hj⟩
  · exact .inl hs
  · exact .inr ⟨o, v, x, ho, hl, fun e' => ht (s o (by simp [Hp.born, ho]) e'), hj⟩
/-- Blocks that are forgotten. -/
theorem Inv.forget {G : Nat} {j : Nat → RB} {H h : Hp} {w : World} (I : Inv G j H w) (sub : ∀ x v y, h.t.get x = some (v, y) → H.get x = some y) (top : h.next < 2 ^ 62) (low : ∀ b v x, h.t.get b = some (v, x) → b < h.next ∧ v ≤ h.clk)
    (glob : ∀ g, g < G → h.born g) (sc : ∀ b v x, h.t.get b = some (v, x) → BlkSc h.born x) : Inv G j h w := by
  refine ⟨top, fun g hg => ⟨glob g hg, (I.glob g hg).2⟩, fun b v x hx => ?_, fun b b' v v' x x' hx hx' => ?_⟩
  · obtain ⟨v0, h0⟩ := get_of (sub _ _ _ hx)
    obtain ⟨i1, i2, i3, i4, i5⟩ := I.low _ _ _ h0
    exact ⟨(low _ _ _ hx).1, (low _ _ _ hx).2, i3, i4, sc _ _ _ hx⟩
  · obtain ⟨v0, h0⟩ := get_of (sub _ _ _ hx)
    obtain ⟨v1, h1⟩ := get_of (sub _ _ _ hx')
    exact I.inj _ _ _ _ _ _ h0 h1
/-- … and come back after a step that did not see them. -/
theorem Ran.again {G : Nat} {j j' : Nat → RB} {H H' h h' : Hp} {w w' : World} (I : Inv G j H w) (R : Ran G j j' h h' w w') (sub : ∀ x, h.born x → H.t.get x = h.t.get x) (ex : ∀ x, H.born x → ¬ h.born x → ¬ h'.born x)
    (hH : ∀ x, H'.t.get x = if h'.born x then h'.t.get x else H.t.get x) (top : H'.next < 2 ^ 62) (low : ∀ b v x, H'.t.get b = some (v, x) → b < H'.next ∧ v ≤ H'.clk) :
    ∃ jj : Nat → RB, Inv G jj H' w' ∧ Fp j jj H H' w w' ∧ ∀ x, h'.born x → jj x = j' x := by
  let jj : Nat → RB := fun x => if h'.born x then j' x else j x
  have jj1 : ∀ x, h'.born x → jj x = j' x := fun x hx => if_pos hx
  have jj0 : ∀ x, ¬ h'.born x → jj x = j x := fun x hx => if_neg hx
  have up : ∀ x, h'.born x → H'.born x := fun x hx => by unfold Hp.born; rw [hH, if_pos hx]; exact hx
  have dn : ∀ x, H.born x → H'.born x := fun x hx => by
    by_cases hx' : h'.born x
    · exact up x hx'
    · unfold Hp.born; rw [hH, if_neg hx']; exact hx
  have ext : ∀ x, H.born x → jj x = j x := fun x hx => by
    by_cases h0 : h.born x
    · rw [jj1 x (R.evo.born h0), R.fp.ext x h0]
    · exact jj0 x (ex x hx h0)
  have hsub : ∀ x, h.born x → H.born x := fun x hx => by unfold Hp.born; rw [sub x hx]; exact hx
  refine ⟨jj, ⟨top, fun g hg => ?_, fun b v x hx => ?_, fun b b' v v' x x' hx hx' hl hl' hne => ?_⟩, ⟨R.fp.os, R.fp.tape, R.fp.output, R.fp.size, ext, fun r hr hf => ?_, fun b hb hn => ?_⟩, jj1⟩
  · obtain ⟨g1, g2⟩ := R.inv.glob g hg
    exact ⟨up g g1, by rw [jj1 g g1]; exact g2⟩
  · have hlow := low b v x hx
    rw [hH] at hx
    by_cases hb : h'.born b
    · rw [if_pos hb] at hx
      obtain ⟨i1, i2, i3, i4, i5⟩ := R.inv.low _ _ _ hx
      rw [jj1 b hb]
      exact ⟨hlow.1, hlow.2, i3, i4.move i5 jj1 (fun _ => rfl), i5.mono up⟩
    · rw [if_neg hb] at hx
      obtain ⟨i1, i2, i3, i4, i5⟩ := I.low _ _ _ hx
      rw [jj0 b hb]
      refine ⟨hlow.1, hlow.2, fun l => Nat.lt_of_lt_of_le (i3 l) R.fp.size, i4.move i5 ext fun l => ?_, i5.mono dn⟩
      refine R.fp.frame _ (i3 l) fun c vc y hc hlc hjc => ?_
      have hcb : h.born c := by simp [Hp.born, hc]
      exact absurd hjc (I.inj c b _ _ _ _ (by rw [sub c hcb]; exact hc) hx hlc l fun e => hb (e ▸ R.evo.born hcb))
  · have mixed : ∀ b b' v v' x x', h'.born b → h'.t.get b = some (v, x) → ¬ h'.born b' → H.t.get b' = some (v', x') → x.live → x'.live → (j' b).blk ≠ (j b').blk := by
      intro b b' v v' x x' hb hx hb' hx' hl hl' e
      by_cases h0 : h.born b
      · obtain ⟨⟨v0, y0⟩, e0⟩ := Option.ne_none_iff_exists'.1 h0
        rw [R.fp.ext b h0] at e
        exact I.inj b b' _ _ _ _ (by rw [sub b h0]; exact e0) hx' (R.evo.dead b v x hx hl v0 y0 e0) hl' (fun e => hb' (e ▸ hb)) e
      · rcases R.fp.fresh b hb h0 with hs | ⟨o, v0, y0, ho, hlo, ht, hjo⟩
        · have := (I.low _ _ _ hx').2.2.1 hl'
          omega
        · have hob : h.born o := by simp [Hp.born, ho]
          exact I.inj o b' _ _ _ _ (by rw [sub o hob]; exact ho) hx' hlo hl' (fun e => hb' (e ▸ R.evo.born hob)) (by rw [hjo, e])
    rw [hH] at hx hx'
    by_cases hb : h'.born b <;> by_cases hb' : h'.born b'
    · rw [if_pos hb] at hx; rw [if_pos hb'] at hx'
      rw [jj1 b hb, jj1 b' hb']
      exact R.inv.inj _ _ _ _ _ _ hx hx' hl hl' hne
    · rw [if_pos hb] at hx; rw [if_neg hb'] at hx'
      rw [jj1 b hb, jj0 b' hb']
      exact mixed b b' v v' x x' hb hx hb' hx' hl hl'
    · rw [if_neg hb] at hx; rw [if_pos hb'] at hx'
      rw [jj0 b hb, jj1 b' hb']
      exact (mixed b' b v' v x' x hb' hx' hb hx hl' hl).symm
    · rw [if_neg hb] at hx; rw [if_neg hb'] at hx'
      rw [jj0 b hb, jj0 b' hb']
      exact I.inj _ _ _ _ _ _ hx hx' hl hl' hne
  · refine R.fp.frame r hr fun c v y hc hl hj => ?_
    have hcb : h.born c := by simp [Hp.born, hc]
    have := hf c v y (by rw [sub c hcb]; exact hc) hl hj
    rw [hH, if_pos (R.evo.born hcb), sub c hcb] at this
    exact this
  · have hb' : h'.born b := Classical.byContradiction fun hb' => by
      unfold Hp.born at hb
      rw [hH, if_neg hb'] at hb
      exact hn hb
    rw [jj1 b hb']
    rcases R.fp.fresh b hb' (fun h0 => hn (hsub b h0)) with hs | ⟨o, v0, y0, ho, hlo, ht, hjo⟩
    · exact .inl hs
    · have hob : h.born o := by simp [Hp.born, ho]
      exact .inr ⟨o, v0, y0, by rw [sub o hob]; exact ho, hlo, by rw [hH, if_pos (R.evo.born hob), sub o hob]; exact ht, hjo⟩
end
end Go.Ai
namespace Go.Ai
noncomputable section
variable {E : Env}

/-- A trace, place by place. -/
theorem Trace.fns {all l : List Oper} {st : Option Book} {fr fr' : Fr} {h h' : Hp} (t : Trace E all l st fr h fr' h') :
    ∃ (ST : Nat → Option Book) (FR : Nat → Fr) (HH : Nat → Hp), ST 0 = st ∧ FR 0 = fr ∧ HH 0 = h ∧ FR l.length = fr' ∧ HH l.length = h' ∧
      ∀ i o, l[i]? = some o → Step E all o (l.drop (i + 1)) (ST i) (FR i) (HH i) (ST (i + 1)) (FR (i + 1)) (HH (i + 1)) := by
  induction t with
  | @nil st fr h => exact ⟨fun _ => st, fun _ => fr, fun _ => h, rfl, rfl, rfl, rfl, rfl, fun i o hi => by simp at hi⟩
  | @cons o rest st st1 fr fr1 fr2 h h1 h2 s t ih =>
    obtain ⟨ST, FR, HH, a1, a2, a3, a4, a5, a6⟩ := ih
    refine ⟨fun i => Nat.casesOn i st ST, fun i => Nat.casesOn i fr FR, fun i => Nat.casesOn i h HH, rfl, rfl, rfl, a4, a5, fun i o' hi => ?_⟩
    cases i with
    | zero =>
      simp only [List.getElem?_cons_zero, Option.some.injEq] at hi
      subst hi
      simp only [Nat.zero_add, List.drop_succ_cons, List.drop_zero, a1, a2, a3]
      exact s
    | succ i => exact a6 i o' (by simpa using hi)

/-! ### Masks -/
def maskStep (acc : List Nat) (o : Oper) : List Nat :=
  acc ++ [o.after.toList.foldl (fun s e => if Region.binds .any e && decide (e.on < acc.length) then s ||| 2 ^ e.on ||| acc.getD e.on 0 else s) 0]
theorem maskOf_eq (ops : List Oper) : maskOf ops = ops.foldl maskStep [] := rfl
/-- What is closed under the edges is closed under the masks. -/
theorem mask_edges {S : Nat → Prop} {acc : List Nat} (ha : ∀ i, S i → ∀ k, (acc.getD i 0).testBit k = true → S k) (es : List Edge) (hes : ∀ e ∈ es, Region.binds .any e = true → S e.on) :
    ∀ s : Nat, (∀ k, s.testBit k = true → S k) → ∀ k, (es.foldl (fun s e => if Region.binds .any e && decide (e.on < acc.length) then s ||| 2 ^ e.on ||| acc.getD e.on 0 else s) s).testBit k = true → S k := by
  induction es with
  | nil => exact fun s hs => hs
  | cons e es ih =>
    intro s hs
    simp only [List.foldl_cons]
    refine ih (fun e' he' => hes e' (List.mem_cons_of_mem _ he')) _ ?_
    split
    · rename_i hc
      simp only [Bool.and_eq_true, decide_eq_true_eq] at hc
      have hSe := hes e List.mem_cons_self hc.1
      intro k hk
      simp only [Nat.testBit_or, Bool.or_eq_true] at hk
      rcases hk with (hk | hk) | hk
      · exact hs k hk
      · rw [Nat.testBit_two_pow] at hk
        simp only [decide_eq_true_eq] at hk
        exact hk ▸ hSe
      · exact ha _ hSe k hk
    · exact hs
theorem mask_fold {S : Nat → Prop} (ops : List Oper) : ∀ (l : List Oper) (acc : List Nat), (∀ i, S i → ∀ k, (acc.getD i 0).testBit k = true → S k) →
    (∀ m o, l[m]? = some o → S (acc.length + m) → ∀ e ∈ o.after.toList, Region.binds .any e = true → S e.on) → ∀ i, S i → ∀ k, ((l.foldl maskStep acc).getD i 0).testBit k = true → S k := by
  intro l
  induction l with
  | nil => exact fun acc ha _ => ha
  | cons o l ih =>
    intro acc ha hl
    simp only [List.foldl_cons]
    refine ih (maskStep acc o) (fun i hi k hk => ?_) (fun m o' hm hS => hl (m + 1) o' (by simpa using hm) (by
      have : (maskStep acc o).length = acc.length + 1 := by simp [maskStep]
      rw [this] at hS
      rwa [show acc.length + (m + 1) = acc.length + 1 + m by omega]))
    unfold maskStep at hk
    rw [List.getD_eq_getElem?_getD, List.getElem?_append] at hk
    rcases Nat.lt_trichotomy i acc.length with hlt | heq | hgt
    · rw [if_pos hlt, ← List.getD_eq_getElem?_getD] at hk
      exact ha i hi k hk
    · subst heq
      rw [if_neg (Nat.lt_irrefl _), Nat.sub_self] at hk
      exact mask_edges ha _ (hl 0 o (by simp) hi) 0 (by simp) k hk
    · rw [if_neg (by omega), List.getElem?_eq_none (by simp; omega)] at hk
      simp at hk
theorem mask_closed {S : Nat → Prop} {ops : List Oper} (h : ∀ i o, ops[i]? = some o → S i → ∀ e ∈ o.after.toList, Region.binds .any e = true → S e.on) {i k : Nat} (hi : S i) (hk : ((maskOf ops).getD i 0).testBit k = true) : S k := by
  rw [maskOf_eq] at hk
  exact mask_fold ops ops [] (fun i _ k hk => by simp at hk) (fun m o hm hS => h m o hm (by simpa using hS)) i hi k hk
end
end Go.Ai
namespace Go.Ai
noncomputable section
variable {E : Env}

theorem skipped_book (op : Op) (c : Nat) (bk : Book) : ∃ bk', skipped op c (some bk) = some bk' ∧ bk'.1 = bk.1 := by
  obtain ⟨b, is, ss, rs⟩ := bk
  cases is with
  | nil => exact ⟨_, rfl, rfl⟩
  | cons i is => unfold skipped; cases cls op <;> exact ⟨_, rfl, rfl⟩
theorem tick_book (bk : Book) : ∃ bk', tick' (some bk) = some bk' ∧ bk'.1 = bk.1 := by
  obtain ⟨b, is, ss, rs⟩ := bk
  cases is <;> exact ⟨_, rfl, rfl⟩
/-- One operation of a region that draws, in the order of the text. -/
theorem step_text (hE : EnvOk E) {ops : Array Oper} {o : Oper} {rest : List Oper} {bk : Book} {st' : Option Book} {fr fr' : Fr} {h h' : Hp} (s : Step E ops.toList o rest (some bk) fr h st' fr' h') (hop : operOk E.G o = true) {i : Nat}
    (hlen : ops.toList.length - rest.length - 1 = i) (hb : ¬ h.born (bk.1 + i)) (hlt : bk.1 + i < h.next) {j : Nat → RB} {w : World} {a : Act} (I : Inv E.G j h w) (F : FrAt j h.born fr a) :
    (∃ bk', st' = some bk' ∧ bk'.1 = bk.1) ∧ (∀ x, x < h.next → x ≠ bk.1 + i → ¬ h.born x → ¬ h'.born x) ∧ (∃ v, fr' = fr.put o.dst v) ∧ (∀ d, o.dst = some d → d < fr.sz) ∧ ∃ j' w' a', Ran E.G j j' h h' w w' ∧ FrAt j' h'.born fr' a' := by
  obtain ⟨hR, hsc⟩ := opAt_of I F hop
  have fin : (o.wpIn (Fw none) 0 E.P a w (fun a' w' => ∃ j', Ran E.G j j' h h' w w' ∧ FrAt j' h'.born fr' a') (fun _ _ _ => False)) → ∃ j' w' a', Ran E.G j j' h h' w w' ∧ FrAt j' h'.born fr' a' := fun hw => by
    obtain ⟨a', w', j', h1, h2⟩ := wpIn_exists hw
    exact ⟨j', w', a', h1, h2⟩
  cases s with
  | skip hw hd =>
    have := F.put (v := undef) (Sc.undef _) hd
    rw [conc_undef] at this
    exact ⟨skipped_book _ _ _, fun _ _ _ h => h, ⟨_, rfl⟩, hd, j, w, _, Ran.refl I, this⟩
  | p hw hc hq hd =>
    have hv := quiet_sc hE (n := h.born) hq hsc (fun x hx => by cases hx)
    exact ⟨tick_book _, fun _ _ _ h => h, ⟨_, rfl⟩, hd, fin (op_q hE hop hR hq (fun b _ x hx => by cases hx) ⟨j, Ran.refl I, F.put hv hd⟩)⟩
  | q hw hc hq hd hst =>
    rcases hst with ⟨h1, _⟩ | ⟨b, kk, m, is, ss, rs, h1, hro, h2⟩
    · cases h1
    · cases h1
      have hv := quiet_sc hE (n := h.born) hq hsc (fun x hx => by
        obtain ⟨c, v, _, hv⟩ := blkAt_some hx
        exact (I.low _ _ _ hv).2.2.2.2)
      refine ⟨⟨_, h2, rfl⟩, fun _ _ _ h => h, ⟨_, rfl⟩, hd, fin (op_q hE hop hR hq (fun b hb x hx => ?_) ⟨j, Ran.refl I, F.put hv hd⟩)⟩
      obtain ⟨c, v, hc, hv⟩ := blkAt_some hx
      rw [hb] at hc; cases hc
      exact (I.low _ _ _ hv).2.2.2.1
  | a hw hc hl hd hst =>
    rename_i B f id
    rcases hst with ⟨h1, _⟩ | ⟨b, i', is, ss, rs, h1, h2, hid, rfl⟩
    · cases h1
    · cases h1
      simp only at hb hlt
      rw [hlen] at hid
      subst hid
      have g : Grew h (h.put (b + i) B) (b + i) B := Grew.put B (Nat.le_refl _) I.top hlt
      refine ⟨⟨_, h2, rfl⟩, fun x _ hne hx => ?_, ⟨_, rfl⟩, hd, fin (op_a hE hop I hR hl hsc hb g fun j' w' R hfs => ⟨j', R, (F.ran R).put hfs hd⟩)⟩
      unfold Hp.born; rw [g.get, if_neg hne]; exact hx
  | s hw hc hb' hB hd hst =>
    rename_i b B
    rcases hst with ⟨h1, _⟩ | ⟨b', i', is, ss, rs, h1, hro, h2⟩
    · cases h1
    · cases h1
      cases hg : h.get b with
      | none =>
        rw [hg] at hB
        exfalso
        obtain ⟨d, op, ty, pos, aft, gd⟩ := o
        cases op <;> simp [written] at hB
        all_goals revert hB
        all_goals first
          | (unfold storeA; (repeat' split) <;> simp_all)
          | (unfold updateA; (repeat' split) <;> simp_all) | (unfold entryA; (repeat' split) <;> simp_all)
          | (unfold writtenB clearA; (repeat' split) <;> simp_all)
      | some B0 =>
        rw [hg] at hB
        obtain ⟨v, hv⟩ := get_of hg
        have g : Grew h (h.put b B) b B := Grew.put _ (Nat.le_refl _) I.top (I.low _ _ _ hv).1
        have hvs : Sc (h.put b B).born (writeVal o.op) := fun j1 j2 _ => by rw [conc_writeVal, conc_writeVal]
        refine ⟨⟨_, h2, rfl⟩, fun x _ _ hx => ?_, ⟨_, rfl⟩, hd, fin (op_s hE hop I hR hb' hg hB hsc g fun w' R => ⟨j, R, ?_⟩)⟩
        · unfold Hp.born; rw [g.get, if_neg (fun e => hx (by rw [e]; simp [Hp.born, hv]))]; exact hx
        · have := (F.ran R).put hvs hd
          rwa [conc_writeVal] at this
  | c hw hc hch hev hfr hd hst =>
    rcases hst with ⟨h1, _⟩ | ⟨b', i', is, ss, rs, h1, hro, h2⟩
    · cases h1
    · cases h1
      exact ⟨⟨_, h2, rfl⟩, fun x hx _ hn => hfr x hx hn, ⟨_, rfl⟩, hd, fin (hch j w a none _ _ I hR hsc fun j' w' R hv => ⟨j', R, (F.ran R).put hv hd⟩)⟩
end
end Go.Ai
namespace Go.Ai
noncomputable section
variable {E : Env}

/-- What a drawn region's run in the order of the text has at each place. -/
structure Text (E : Env) (ops : Array Oper) (b : Nat) (ST : Nat → Option Book) (FR : Nat → Fr) (HH : Nat → Hp) : Prop where
  step : ∀ (i : Nat) (o : Oper), ops[i]? = some o → Step E ops.toList o (ops.toList.drop (i + 1)) (ST i) (FR i) (HH i) (ST (i + 1)) (FR (i + 1)) (HH (i + 1))
  ok : ∀ o ∈ ops, operOk E.G o = true
  evo : ∀ i, i < ops.size → Evo (HH i) (HH (i + 1))
  book : ∀ i, i ≤ ops.size → ∃ bk, ST i = some bk ∧ bk.1 = b
  put : ∀ (i : Nat) (o : Oper), ops[i]? = some o → ∃ v, FR (i + 1) = (FR i).put o.dst v
  dst : ∀ (i : Nat) (o : Oper), ops[i]? = some o → ∀ d, o.dst = some d → d < (FR 0).sz
  small : (FR 0).sz < 2 ^ 31
  top : b + ops.size ≤ (HH 0).next
  own : ∀ i, i ≤ ops.size → ∀ k, i ≤ k → k < ops.size → ¬ (HH i).born (b + k)
  sc : ∀ i, i ≤ ops.size → ∀ x v y, (HH i).t.get x = some (v, y) → BlkSc (HH i).born y
  fsc : ∀ i, i ≤ ops.size → ∀ t, Sc (HH i).born (tmv (FR i).tm t)
  low : ∀ i, i ≤ ops.size → ∀ x v y, (HH i).t.get x = some (v, y) → x < (HH i).next ∧ v ≤ (HH i).clk
  nxt : ∀ i, i ≤ ops.size → (HH i).next < 2 ^ 62
  glob : ∀ i, i ≤ ops.size → ∀ g, g < E.G → (HH i).born g

theorem text_of (hE : EnvOk E) {ops : Array Oper} (hops : ∀ o ∈ ops, operOk E.G o = true) {ST : Nat → Option Book} {FR : Nat → Fr} {HH : Nat → Hp} {b : Nat}
    (step : ∀ i o, ops[i]? = some o → Step E ops.toList o (ops.toList.drop (i + 1)) (ST i) (FR i) (HH i) (ST (i + 1)) (FR (i + 1)) (HH (i + 1)))
    (h0 : ∃ bk, ST 0 = some bk ∧ bk.1 = b) (hnx : b + ops.size ≤ (HH 0).next) (hb : ∀ k, k < ops.size → ¬ (HH 0).born (b + k)) {j : Nat → RB} {w : World} {a : Act} (I : Inv E.G j (HH 0) w) (F : FrAt j (HH 0).born (FR 0) a) :
    Text E ops b ST FR HH := by
  have main : ∀ i, i ≤ ops.size → (∃ bk, ST i = some bk ∧ bk.1 = b) ∧ (∀ k, i ≤ k → k < ops.size → ¬ (HH i).born (b + k)) ∧ (HH 0).next ≤ (HH i).next ∧ (FR i).sz = (FR 0).sz ∧ ∃ j' w' a', Inv E.G j' (HH i) w' ∧ FrAt j' (HH i).born (FR i) a' := by
    intro i
    induction i with
    | zero => exact fun _ => ⟨h0, fun k _ hk => hb k hk, Nat.le_refl _, rfl, j, w, a, I, F⟩
    | succ i ih =>
      intro hi
      obtain ⟨⟨bk, hbk, rfl⟩, i2, i3, i4, j1, w1, a1, I1, F1⟩ := ih (by omega)
      obtain ⟨o, ho⟩ : ∃ o, ops[i]? = some o := ⟨ops[i], by simp [show i < ops.size by omega]⟩
      have s := step i o ho
      rw [hbk] at s
      obtain ⟨s1, s2, ⟨v, s3⟩, _, j2, w2, a2, R, F2⟩ := step_text hE s (hops o (Array.mem_of_getElem? ho)) (i := i) (by simp; omega) (i2 i (Nat.le_refl _) (by omega)) (by omega) I1 F1
      refine ⟨s1, fun k hk hks => s2 _ (by omega) (by omega) (i2 k (by omega) hks), Nat.le_trans i3 R.evo.next, ?_, j2, w2, a2, R.inv, F2⟩
      rw [s3, ← i4]
      cases o.dst <;> rfl
  have each : ∀ i o, ops[i]? = some o → Evo (HH i) (HH (i + 1)) ∧ (∃ v, FR (i + 1) = (FR i).put o.dst v) ∧ ∀ d, o.dst = some d → d < (FR 0).sz := by
    intro i o ho
    have hi : i < ops.size := by
      rcases Nat.lt_or_ge i ops.size with h | h
      · exact h
      · rw [Array.getElem?_eq_none h] at ho; cases ho
    obtain ⟨⟨bk, hbk, rfl⟩, i2, i3, i4, j1, w1, a1, I1, F1⟩ := main i (by omega)
    have s := step i o ho
    rw [hbk] at s
    obtain ⟨s1, s2, s3, s4, j2, w2, a2, R, F2⟩ := step_text hE s (hops o (Array.mem_of_getElem? ho)) (i := i) (by simp; omega) (i2 i (Nat.le_refl _) (by omega)) (by omega) I1 F1
    exact ⟨R.evo, s3, fun d hd => i4 ▸ s4 d hd⟩
  refine ⟨step, hops, fun i hi => (each i ops[i] (by simp [hi])).1, fun i hi => (main i hi).1, fun i o ho => (each i o ho).2.1, fun i o ho => (each i o ho).2.2, F.tm.small, hnx, fun i hi => (main i hi).2.1, fun i hi => ?_, fun i hi => ?_, fun i hi => ?_, fun i hi => ?_, fun i hi => ?_⟩
  all_goals obtain ⟨-, -, -, -, j1, w1, a1, I1, F1⟩ := main i hi
  · exact fun x v y hx => (I1.low x v y hx).2.2.2.2
  · exact F1.sc
  · exact fun x v y hx => ⟨(I1.low x v y hx).1, (I1.low x v y hx).2.1⟩
  · exact I1.top
  · exact fun g hg => (I1.glob g hg).1
theorem Text.evo_le {ops : Array Oper} {b : Nat} {ST : Nat → Option Book} {FR : Nat → Fr} {HH : Nat → Hp} (T : Text E ops b ST FR HH) {i k : Nat} (hik : i ≤ k) (hk : k ≤ ops.size) : Evo (HH i) (HH k) := by
  induction k with
  | zero => obtain rfl : i = 0 := by omega
            exact Evo.refl _
  | succ k ih =>
    rcases Nat.lt_or_ge i (k + 1) with h | h
    · exact (ih (by omega) (by omega)).trans (T.evo k (by omega))
    · obtain rfl : i = k + 1 := by omega
      exact Evo.refl _
end
end Go.Ai
namespace Go.Ai
noncomputable section
variable {E : Env}

def chainC (c : Cls) : Prop := c = .c ∨ c = .s
/-- Two operations whose order must be the text's. -/
def Tied (ops : List Oper) (oi oj : Oper) : Prop :=
  (chainC (cls oj.op) ∧ (cls oi.op = .a ∨ chainC (cls oi.op))) ∨ (∃ d, oi.dst = some d ∧ d ∈ names ops oj) ∨ (∃ d, oj.dst = some d ∧ d ∈ names ops oi)

theorem lt_of_some {ops : List Oper} {i : Nat} {o : Oper} (h : ops[i]? = some o) : i < ops.length := by
  rcases Nat.lt_or_ge i ops.length with h' | h'
  · exact h'
  · rw [List.getElem?_eq_none h'] at h; cases h
theorem drawOk_at {ops : List Oper} (h : drawOk ops = true) {j : Nat} {oj : Oper} (hj : ops[j]? = some oj) :
    (∀ g b, oj.guard = some (g, b) → ((maskOf ops).getD j 0).testBit g = true ∧ g < j ∧ ∃ og d, ops[g]? = some og ∧ og.dst = some d) ∧
    (∀ e ∈ oj.after.toList, Region.binds .any e = true → e.on < j) ∧
    (∀ i oi, i < j → ops[i]? = some oi → Tied ops oi oj → ((maskOf ops).getD j 0).testBit i = true) := by
  unfold drawOk at h
  simp only [List.all_eq_true, List.mem_range] at h
  have h1 := h j (lt_of_some hj)
  simp only [hj, Bool.and_eq_true] at h1
  obtain ⟨⟨h1, h2⟩, h3⟩ := h1
  refine ⟨fun g b hg => ?_, fun e he hb => ?_, fun i oi hij hi t => ?_⟩
  · simp only [hg, Bool.and_eq_true, decide_eq_true_eq] at h1
    obtain ⟨⟨a1, a2⟩, a3⟩ := h1
    refine ⟨a1, a2, ?_⟩
    cases hog : ops[g]? with
    | none => rw [hog] at a3; simp at a3
    | some og =>
      rw [hog] at a3
      simp only [Option.bind_some] at a3
      cases hd : og.dst with
      | none => rw [hd] at a3; simp at a3
      | some d => exact ⟨og, d, rfl, hd⟩
  · have := List.all_eq_true.1 h2 e he
    simpa [hb] using this
  · have h4 := List.all_eq_true.1 h3 i (List.mem_range.2 hij)
    simp only [Bool.or_eq_true] at h4
    rcases h4 with h4 | h4
    · exact h4
    · exfalso
      simp only [hi, Bool.and_eq_true] at h4
      obtain ⟨⟨h5, h6⟩, h7⟩ := h4
      rcases t with ⟨tj, ti⟩ | ⟨d, hd, hm⟩ | ⟨d, hd, hm⟩
      · unfold chainC at tj ti
        rcases tj with tj | tj <;> rcases ti with ti | ti | ti <;> simp [tj, ti] at h5
      · rw [hd] at h6; simp at h6; exact h6 hm
      · rw [hd] at h7; simp at h7; exact h7 hm

/-- A set of places that holds, with each, what its edges name. -/
def Closed (ops : List Oper) (S : Nat → Prop) : Prop := ∀ i o, ops[i]? = some o → S i → ∀ e ∈ o.after.toList, Region.binds .any e = true → S e.on
structure Next (ops : List Oper) (S : Nat → Prop) (i : Nat) (o : Oper) : Prop where
  closed : Closed ops S
  at' : ops[i]? = some o
  not : ¬ S i
  edges : ∀ e ∈ o.after.toList, Region.binds .any e = true → S e.on
theorem Next.closed' {ops : List Oper} {S : Nat → Prop} {i : Nat} {o : Oper} (N : Next ops S i o) : Closed ops (fun k => S k ∨ k = i) := by
  intro k ok hk hS e he hb
  rcases hS with hS | rfl
  · exact .inl (N.closed k ok hk hS e he hb)
  · rw [N.at'] at hk; cases hk
    exact .inl (N.edges e he hb)
theorem Next.mask {ops : List Oper} {S : Nat → Prop} {i : Nat} {o : Oper} (N : Next ops S i o) {k : Nat} (hk : ((maskOf ops).getD i 0).testBit k = true) (hne : k ≠ i) : S k :=
  (mask_closed N.closed' (.inr rfl) hk).resolve_right hne
theorem Next.before {ops : List Oper} {S : Nat → Prop} {i : Nat} {o : Oper} (N : Next ops S i o) (hd : drawOk ops = true) {k : Nat} {ok : Oper} (hk : ops[k]? = some ok) (hlt : k < i) (t : Tied ops ok o) : S k :=
  N.mask ((drawOk_at hd N.at').2.2 k ok hlt hk t) (by omega)
theorem Next.behind {ops : List Oper} {S : Nat → Prop} {i : Nat} {o : Oper} (N : Next ops S i o) (hd : drawOk ops = true) {k : Nat} {ok : Oper} (hk : ops[k]? = some ok) (hlt : i < k) (t : Tied ops o ok) : ¬ S k := fun hS =>
  N.not (mask_closed N.closed hS ((drawOk_at hd hk).2.2 i o hlt N.at' t))
theorem Next.guard {ops : List Oper} {S : Nat → Prop} {i : Nat} {o : Oper} (N : Next ops S i o) (hd : drawOk ops = true) {g : Nat} {b : Bool} (hg : o.guard = some (g, b)) : g < i ∧ S g ∧ ∃ og d, ops[g]? = some og ∧ og.dst = some d := by
  obtain ⟨h1, h2, h3⟩ := (drawOk_at hd N.at').1 g b hg
  exact ⟨h2, N.mask h1 (by omega), h3⟩
end
end Go.Ai
namespace Go.Ai
noncomputable section
open Classical
variable {E : Env} {ops : Array Oper} {b : Nat} {ST : Nat → Option Book} {FR : Nat → Fr} {HH : Nat → Hp}

theorem last_of (P : Nat → Prop) (n : Nat) : (∃ l, l < n ∧ P l ∧ ∀ k, l < k → k < n → ¬ P k) ∨ ∀ k, k < n → ¬ P k := by
  induction n with
  | zero => exact .inr fun k hk => by omega
  | succ n ih =>
    by_cases h : P n
    · exact .inl ⟨n, by omega, h, fun k h1 h2 => by omega⟩
    · rcases ih with ⟨l, h1, h2, h3⟩ | h3
      · exact .inl ⟨l, by omega, h2, fun k h4 h5 => by
          rcases Nat.lt_or_ge k n with h6 | h6
          · exact h3 k h4 h6
          · obtain rfl : k = n := by omega
            exact h⟩
      · exact .inr fun k h5 => by
          rcases Nat.lt_or_ge k n with h6 | h6
          · exact h3 k h6
          · obtain rfl : k = n := by omega
            exact h

/-- Each temporary holds what the last writer of the set wrote. -/
structure TmpAt (ops : Array Oper) (FR : Nat → Fr) (S : Nat → Prop) (fr : Fr) : Prop where
  wr : ∀ (l : Nat) (o : Oper) (d : Tmp), ops[l]? = some o → S l → o.dst = some d → (∀ (k : Nat) (ok : Oper), l < k → ops[k]? = some ok → ok.dst = some d → ¬ S k) → tmv fr.tm d = tmv (FR (l + 1)).tm d
  no : ∀ (d : Tmp), (∀ (k : Nat) (ok : Oper), ops[k]? = some ok → ok.dst = some d → ¬ S k) → tmv fr.tm d = tmv (FR 0).tm d

theorem tmv_put' {fr : Fr} {d : Option Tmp} {v : Value} {n : Nat} (hd : ∀ x, d = some x → x < n) (hn : n < 2 ^ 31) (t : Nat) (ht : d ≠ some t) : tmv (fr.put d v).tm t = tmv fr.tm t := by
  cases d with
  | none => rfl
  | some d =>
    have := hd d rfl
    rw [tmv_put (Nat.lt_trans (Nat.lt_of_le_of_lt (show d + 1 ≤ n from this) hn) (by decide)), if_neg (fun e => ht (by rw [e]))]
theorem tmv_put_self {fr : Fr} {d : Option Tmp} {v : Value} {n : Nat} (hd : ∀ x, d = some x → x < n) (hn : n < 2 ^ 31) (t : Nat) (ht : d = some t) : tmv (fr.put d v).tm t = v := by
  subst ht
  have := hd t rfl
  rw [tmv_put (Nat.lt_trans (Nat.lt_of_le_of_lt (show t + 1 ≤ n from this) hn) (by decide)), if_pos rfl]

theorem Text.keep (T : Text E ops b ST FR HH) {d : Tmp} {l i : Nat} (hli : l ≤ i) (hi : i ≤ ops.size) (h : ∀ (k : Nat) (ok : Oper), l ≤ k → k < i → ops[k]? = some ok → ok.dst ≠ some d) : tmv (FR i).tm d = tmv (FR l).tm d := by
  induction i with
  | zero => obtain rfl : l = 0 := by omega
            rfl
  | succ i ih =>
    rcases Nat.lt_or_ge i l with hlt | hge
    · obtain rfl : l = i + 1 := by omega
      rfl
    · have ho : ops[i]? = some ops[i] := by simp [show i < ops.size by omega]
      obtain ⟨v, hv⟩ := T.put i _ ho
      rw [hv, tmv_put' (T.dst i _ ho) T.small d (h i _ hge (by omega) ho), ih hge (by omega) fun k ok h1 h2 => h k ok h1 (by omega)]
theorem TmpAt.start : TmpAt ops FR (fun _ => False) (FR 0) := ⟨fun _ _ _ _ h => h.elim, fun _ _ => rfl⟩
theorem size_of {i : Nat} {o : Oper} (h : ops[i]? = some o) : i < ops.size := by
  rcases Nat.lt_or_ge i ops.size with h' | h'
  · exact h'
  · rw [Array.getElem?_eq_none h'] at h; cases h

theorem TmpAt.names {S : Nat → Prop} {fr : Fr} (A : TmpAt ops FR S fr) (T : Text E ops b ST FR HH) (hd : drawOk ops.toList = true) {i : Nat} {o : Oper} (N : Next ops.toList S i o) {t : Tmp} (ht : t ∈ names ops.toList o) :
    tmv fr.tm t = tmv (FR i).tm t := by
  have hi : i < ops.size := by simpa using lt_of_some N.at'
  have behind : ∀ (k : Nat) (ok : Oper), i ≤ k → ops[k]? = some ok → ok.dst = some t → ¬ S k := fun k ok hk hok hdst => by
    rcases Nat.lt_or_ge i k with h | h
    · exact N.behind hd (by simpa using hok) h (.inr (.inr ⟨t, hdst, ht⟩))
    · obtain rfl : i = k := by omega
      exact N.not
  rcases last_of (fun k => ∃ ok, ops[k]? = some ok ∧ ok.dst = some t) i with ⟨l, hl, ⟨ol, hol, hdl⟩, hlast⟩ | hnone
  · have hS : S l := N.before hd (by simpa using hol) hl (.inr (.inl ⟨t, hdl, ht⟩))
    rw [A.wr l ol t hol hS hdl fun k ok hlk hok hdk => ?_, T.keep (l := l + 1) (i := i) (by omega) (by omega) fun k ok h1 h2 h3 h4 => hlast k (by omega) h2 ⟨ok, h3, h4⟩]
    rcases Nat.lt_or_ge k i with h | h
    · exact absurd ⟨ok, hok, hdk⟩ (hlast k hlk h)
    · exact behind k ok h hok hdk
  · rw [A.no t fun k ok hok hdk => ?_, T.keep (l := 0) (i := i) (by omega) (by omega) fun k ok h1 h2 h3 h4 => hnone k h2 ⟨ok, h3, h4⟩]
    rcases Nat.lt_or_ge k i with h | h
    · exact absurd ⟨ok, hok, hdk⟩ (hnone k h)
    · exact behind k ok h hok hdk
theorem dst_names {l : List Oper} {o : Oper} {d : Tmp} (h : o.dst = some d) : d ∈ names l o := by
  unfold Go.Ai.names
  simp [h]
theorem TmpAt.put {S : Nat → Prop} {fr : Fr} (A : TmpAt ops FR S fr) (T : Text E ops b ST FR HH) (hd : drawOk ops.toList = true) {i : Nat} {o : Oper} (N : Next ops.toList S i o) {v : Value} (hv : FR (i + 1) = (FR i).put o.dst v) :
    TmpAt ops FR (fun k => S k ∨ k = i) (fr.put o.dst v) := by
  have hoi : ops[i]? = some o := by simpa using N.at'
  have hdst := T.dst i o hoi
  refine ⟨fun l o' d hl hS hdl hlast => ?_, fun d hno => ?_⟩
  · by_cases hli : l = i
    · subst hli
      rw [hoi] at hl; cases hl
      rw [hv, tmv_put_self hdst T.small d hdl, tmv_put_self hdst T.small d hdl]
    · have hS := hS.resolve_right hli
      by_cases hod : o.dst = some d
      · exfalso
        rcases Nat.lt_or_ge l i with h | h
        · exact hlast i o h hoi hod (.inr rfl)
        · exact N.behind hd (k := l) (by simpa using hl) (by omega) (.inr (.inr ⟨d, hdl, dst_names hod⟩)) hS
      · rw [tmv_put' hdst T.small d hod]
        exact A.wr l o' d hl hS hdl fun k ok h1 h2 h3 h4 => hlast k ok h1 h2 h3 (.inl h4)
  · have hod : o.dst ≠ some d := fun e => hno i o hoi e (.inr rfl)
    rw [tmv_put' hdst T.small d hod]
    exact A.no d fun k ok h1 h2 h3 => hno k ok h1 h2 (.inl h3)
theorem TmpAt.all {S : Nat → Prop} {fr : Fr} (A : TmpAt ops FR S fr) (T : Text E ops b ST FR HH) (hS : ∀ i, i < ops.size → S i) (t : Tmp) : tmv fr.tm t = tmv (FR ops.size).tm t := by
  rcases last_of (fun k => ∃ ok, ops[k]? = some ok ∧ ok.dst = some t) ops.size with ⟨l, hl, ⟨ol, hol, hdl⟩, hlast⟩ | hnone
  · rw [A.wr l ol t hol (hS l hl) hdl fun k ok hlk hok hdk => absurd ⟨ok, hok, hdk⟩ (hlast k hlk (size_of hok)), T.keep (l := l + 1) (i := ops.size) (by omega) (by omega) fun k ok h1 h2 h3 h4 => hlast k (by omega) h2 ⟨ok, h3, h4⟩]
  · rw [A.no t fun k ok hok hdk => absurd ⟨ok, hok, hdk⟩ (hnone k (size_of hok)), T.keep (l := 0) (i := ops.size) (by omega) (by omega) fun k ok h1 h2 h3 h4 => hnone k h2 ⟨ok, h3, h4⟩]
end
end Go.Ai
namespace Go.Ai
noncomputable section
variable {E : Env} {ops : Array Oper} {b : Nat} {ST : Nat → Option Book} {FR : Nat → Fr} {HH : Nat → Hp}

def chainB (ops : List Oper) (c : Nat) : Bool := match ops[c]? with
  | some o => cls o.op = .c || cls o.op = .s
  | none => false
def kkOf (ops : List Oper) (i : Nat) : Nat := ((List.range ops.length).filter fun c => chainB ops c && ((maskOf ops).getD i 0).testBit c).length
def mOf (ops : List Oper) (i : Nat) : Nat := ((List.range ops.length).filter fun c => chainB ops c && !((maskOf ops).getD c 0).testBit i).length
theorem drawInfo_eq (ops : List Oper) : drawInfo ops = (List.range ops.length).map fun i => (kkOf ops i, mOf ops i) := rfl
theorem drawInfo_drop {ops : List Oper} {i : Nat} (h : i < ops.length) : (drawInfo ops).drop i = (kkOf ops i, mOf ops i) :: (drawInfo ops).drop (i + 1) := by
  have hl : i < (drawInfo ops).length := by rw [drawInfo_eq]; simp [h]
  rw [List.drop_eq_getElem_cons hl]
  congr 1
  simp [drawInfo_eq]
def stamps (ops : List Oper) (HH : Nat → Hp) (i : Nat) : List Nat := ((List.range i).filter (chainB ops)).map fun c => (HH c).clk
theorem stamps_chain {ops : List Oper} {i : Nat} (h : chainB ops i = true) : stamps ops HH (i + 1) = stamps ops HH i ++ [(HH i).clk] := by
  unfold stamps
  rw [List.range_succ, List.filter_append]
  simp [h]
theorem stamps_free {ops : List Oper} {i : Nat} (h : chainB ops i = false) : stamps ops HH (i + 1) = stamps ops HH i := by
  unfold stamps
  rw [List.range_succ, List.filter_append]
  simp [h]
theorem chainB_of {ops : List Oper} {i : Nat} {o : Oper} (h : ops[i]? = some o) : chainB ops i = (decide (cls o.op = .c) || decide (cls o.op = .s)) := by
  unfold chainB; rw [h]

theorem Text.books (T : Text E ops b ST FR HH) (h0 : ST 0 = some (b, drawInfo ops.toList, [], [])) : ∀ i, i ≤ ops.size →
    ∃ rs, ST i = some (b, (drawInfo ops.toList).drop i, stamps ops.toList HH i, rs) ∧
      ∀ q oq, q < i → ops[q]? = some oq → wantedA ops.toList (FR q) oq = some true → cls oq.op = .q → ∀ x v, reads (FR q).val oq.op = some x → (HH q).ver x = some v → (x, v, mOf ops.toList q) ∈ rs := by
  intro i
  induction i with
  | zero => exact fun _ => ⟨[], by rw [h0]; simp [stamps], fun q oq hq => by omega⟩
  | succ i ih =>
    intro hi
    obtain ⟨rs, h1, h2⟩ := ih (by omega)
    obtain ⟨o, ho⟩ : ∃ o, ops[i]? = some o := ⟨ops[i], by simp [show i < ops.size by omega]⟩
    have hol : ops.toList[i]? = some o := by simpa using ho
    have hd := drawInfo_drop (ops := ops.toList) (i := i) (by simp; omega)
    have hcb := chainB_of hol
    have keep : ∀ rs' : List (Nat × Nat × Nat), (∀ y ∈ rs, y ∈ rs') → (wantedA ops.toList (FR i) o = some true → cls o.op = .q → ∀ x v, reads (FR i).val o.op = some x → (HH i).ver x = some v → (x, v, mOf ops.toList i) ∈ rs') →
        ∀ q oq, q < i + 1 → ops[q]? = some oq → wantedA ops.toList (FR q) oq = some true → cls oq.op = .q → ∀ x v, reads (FR q).val oq.op = some x → (HH q).ver x = some v → (x, v, mOf ops.toList q) ∈ rs' := by
      intro rs' hs hn q oq hq hoq hw hc x v hr hv
      rcases Nat.lt_or_ge q i with h | h
      · exact hs _ (h2 q oq h hoq hw hc x v hr hv)
      · obtain rfl : q = i := by omega
        rw [ho] at hoq; cases hoq
        exact hn hw hc x v hr hv
    have s := T.step i o ho
    rw [h1, hd] at s
    generalize hst : ST (i + 1) = st' at s
    generalize HH (i + 1) = h' at s
    generalize FR (i + 1) = fr' at s
    generalize hs0 : some ((b, (kkOf ops.toList i, mOf ops.toList i) :: (drawInfo ops.toList).drop (i + 1), stamps ops.toList HH i, rs) : Book) = st0 at s
    cases s with
    | skip hw hdd =>
      subst hs0
      refine ⟨rs, ?_, keep rs (fun _ h => h) fun hw' => by rw [hw] at hw'; cases hw'⟩
      unfold skipped
      cases hc : cls o.op with
      | c => rw [hc] at hcb; rw [stamps_chain (by rw [hcb]; rfl)]
      | s => rw [hc] at hcb; rw [stamps_chain (by rw [hcb]; rfl)]
      | p => rw [hc] at hcb; rw [stamps_free (by rw [hcb]; rfl)]
      | q => rw [hc] at hcb; rw [stamps_free (by rw [hcb]; rfl)]
      | a => rw [hc] at hcb; rw [stamps_free (by rw [hcb]; rfl)]
    | p hw hc hq hdd =>
      subst hs0
      rw [hc] at hcb
      refine ⟨rs, ?_, keep rs (fun _ h => h) fun _ hc' => by rw [hc] at hc'; cases hc'⟩
      rw [stamps_free (by rw [hcb]; rfl)]; rfl
    | q hw hc hq hdd hst' =>
      rw [hc] at hcb
      subst hs0
      rcases hst' with ⟨e, _⟩ | ⟨b', kk, m, is, ss, rs', e, hro, e'⟩
      · cases e
      · cases e
        refine ⟨_, by rw [e', stamps_free (by rw [hcb]; rfl)], keep _ (fun y hy => ?_) fun _ _ x v hr hv => ?_⟩
        · unfold addRec
          split
          · split
            · exact List.mem_cons_of_mem _ hy
            · exact hy
          · exact hy
        · unfold addRec
          rw [hr]
          simp only [hv]
          exact List.mem_cons_self
    | a hw hc hl hdd hst' =>
      rw [hc] at hcb
      subst hs0
      rcases hst' with ⟨e, _⟩ | ⟨b', i', is, ss, rs', e, e', _⟩
      · cases e
      · cases e
        exact ⟨rs, by rw [e', stamps_free (by rw [hcb]; rfl)], keep rs (fun _ h => h) fun _ hc' => by rw [hc] at hc'; cases hc'⟩
    | s hw hc hb hB hdd hst' =>
      rw [hc] at hcb
      subst hs0
      rcases hst' with ⟨e, _⟩ | ⟨b', i', is, ss, rs', e, hro, e'⟩
      · cases e
      · cases e
        exact ⟨rs, by rw [e', stamps_chain (by rw [hcb]; rfl)], keep rs (fun _ h => h) fun _ hc' => by rw [hc] at hc'; cases hc'⟩
    | c hw hc hch hev hfr hdd hst' =>
      rw [hc] at hcb
      subst hs0
      rcases hst' with ⟨e, _⟩ | ⟨b', i', is, ss, rs', e, hro, e'⟩
      · cases e
      · cases e
        exact ⟨rs, by rw [e', stamps_chain (by rw [hcb]; rfl)], keep rs (fun _ h => h) fun _ hc' => by rw [hc] at hc'; cases hc'⟩

theorem stamps_len (ops : List Oper) (HH : Nat → Hp) (i : Nat) : (stamps ops HH i).length = ((List.range i).filter (chainB ops)).length := by simp [stamps]
theorem stamps_split {ops : List Oper} {c i : Nat} (hc : chainB ops c = true) (h : c < i) : ∃ t, stamps ops HH i = stamps ops HH c ++ (HH c).clk :: t := by
  induction i with
  | zero => omega
  | succ i ih =>
    rcases Nat.lt_or_ge c i with hlt | hge
    · obtain ⟨t, ht⟩ := ih hlt
      cases hb : chainB ops i with
      | true => exact ⟨t ++ [(HH i).clk], by rw [stamps_chain hb, ht]; simp⟩
      | false => exact ⟨t, by rw [stamps_free hb, ht]⟩
    · obtain rfl : c = i := by omega
      exact ⟨[], stamps_chain hc⟩
/-- A block that is read had its stamp before any chained operation that the read need not wait for. -/
theorem Text.read (T : Text E ops b ST FR HH) (h0 : ST 0 = some (b, drawInfo ops.toList, [], [])) {i : Nat} {o : Oper} (ho : ops[i]? = some o) (hw : wantedA ops.toList (FR i) o = some true) (hc : cls o.op = .q) {x v : Nat}
    (hr : reads (FR i).val o.op = some x) (hv : (HH i).ver x = some v) {c : Nat} (hci : c < i) (hcc : chainB ops.toList c = true) (hk : kkOf ops.toList i ≤ (stamps ops.toList HH c).length) : v ≤ (HH c).clk := by
  have hi := size_of ho
  obtain ⟨rs, h1, _⟩ := T.books h0 i (by omega)
  have hd := drawInfo_drop (ops := ops.toList) (i := i) (by simpa using hi)
  have s := T.step i o ho
  rw [h1, hd] at s
  obtain ⟨t, ht⟩ := stamps_split (HH := HH) hcc hci
  have hro : readOk (HH i) (some x) (stamps ops.toList HH i) (kkOf ops.toList i) = true := by
    generalize ST (i + 1) = st' at s
    generalize HH (i + 1) = h' at s
    generalize FR (i + 1) = fr' at s
    generalize hs0 : some ((b, (kkOf ops.toList i, mOf ops.toList i) :: (drawInfo ops.toList).drop (i + 1), stamps ops.toList HH i, rs) : Book) = st0 at s
    cases s with
    | skip hw' _ => rw [hw] at hw'; cases hw'
    | p _ hc' _ _ => rw [hc] at hc'; cases hc'
    | q _ _ _ _ hst' =>
      subst hs0
      rcases hst' with ⟨e, _⟩ | ⟨b', kk, m, is, ss, rs', e, hro, e'⟩
      · cases e
      · cases e
        rw [hr] at hro
        exact hro
    | a _ hc' _ _ _ => rw [hc] at hc'; cases hc'
    | s _ hc' _ _ _ _ => rw [hc] at hc'; cases hc'
    | c _ hc' _ _ _ _ _ => rw [hc] at hc'; cases hc'
  unfold readOk at hro
  rw [ht, nth_eq] at hro
  simp only [hv] at hro
  rcases Nat.lt_or_ge (kkOf ops.toList i) (stamps ops.toList HH c).length with hlt | hge
  · rw [List.getElem?_append_left hlt] at hro
    have hm : (stamps ops.toList HH c)[kkOf ops.toList i]? = some (stamps ops.toList HH c)[kkOf ops.toList i] := by simp [hlt]
    rw [hm] at hro
    have hle := Nat.le_of_ble_eq_true hro
    have hmem : (stamps ops.toList HH c)[kkOf ops.toList i] ∈ stamps ops.toList HH c := List.getElem_mem _
    generalize (stamps ops.toList HH c)[kkOf ops.toList i] = z at hle hmem
    unfold stamps at hmem
    obtain ⟨c0, hc0, rfl⟩ := List.mem_map.1 hmem
    have := List.mem_range.1 (List.mem_filter.1 hc0).1
    exact Nat.le_trans hle (T.evo_le (i := c0) (k := c) (by omega) (by omega)).clk
  · have : kkOf ops.toList i = (stamps ops.toList HH c).length := by omega
    rw [this] at hro
    simp at hro
    exact hro
/-- A block that is read keeps its stamp behind each chained operation that need not wait for the read. -/
theorem Text.kept (T : Text E ops b ST FR HH) (h0 : ST 0 = some (b, drawInfo ops.toList, [], [])) {i : Nat} {o : Oper} (ho : ops[i]? = some o) (hw : wantedA ops.toList (FR i) o = some true) (hc : cls o.op = .q) {x v : Nat}
    (hr : reads (FR i).val o.op = some x) (hv : (HH i).ver x = some v) {c : Nat} {oc : Oper} (hci : i < c) (hoc : ops[c]? = some oc) (hwc : wantedA ops.toList (FR c) oc = some true) (hcc : cls oc.op = .c ∨ cls oc.op = .s)
    (hm : (stamps ops.toList HH c).length < mOf ops.toList i) : (HH (c + 1)).ver x = some v := by
  have hi := size_of hoc
  obtain ⟨rs, h1, h2⟩ := T.books h0 c (by omega)
  have hmem := h2 i o hci ho hw hc x v hr hv
  have hd := drawInfo_drop (ops := ops.toList) (i := c) (by simpa using hi)
  have s := T.step c oc hoc
  rw [h1, hd] at s
  have hro : recsOk (HH (c + 1)) rs (stamps ops.toList HH c).length = true := by
    generalize ST (c + 1) = st' at s
    generalize hh : HH (c + 1) = h' at s
    generalize FR (c + 1) = fr' at s
    generalize hs0 : some ((b, (kkOf ops.toList c, mOf ops.toList c) :: (drawInfo ops.toList).drop (c + 1), stamps ops.toList HH c, rs) : Book) = st0 at s
    cases s with
    | skip hw' _ => rw [hwc] at hw'; cases hw'
    | p _ hc' _ _ => rcases hcc with hcc | hcc <;> rw [hcc] at hc' <;> cases hc'
    | q _ hc' _ _ _ => rcases hcc with hcc | hcc <;> rw [hcc] at hc' <;> cases hc'
    | a _ hc' _ _ _ => rcases hcc with hcc | hcc <;> rw [hcc] at hc' <;> cases hc'
    | s _ hc' _ _ _ hst' =>
      subst hs0
      rcases hst' with ⟨e, _⟩ | ⟨b', i', is, ss, rs', e, hro, e'⟩
      · cases e
      · cases e; exact hro
    | c _ hc' _ _ _ _ hst' =>
      subst hs0
      rcases hst' with ⟨e, _⟩ | ⟨b', i', is, ss, rs', e, hro, e'⟩
      · cases e
      · cases e; exact hro
  unfold recsOk at hro
  have := List.all_eq_true.1 hro _ hmem
  simp only [Bool.or_eq_true, Nat.ble_eq] at this
  rcases this with h | h
  · omega
  · cases hv' : (HH (c + 1)).ver x with
    | none => rw [hv'] at h; cases h
    | some v' =>
      rw [hv'] at h
      simp only [Nat.beq_eq] at h
      rw [h]
end
end Go.Ai
