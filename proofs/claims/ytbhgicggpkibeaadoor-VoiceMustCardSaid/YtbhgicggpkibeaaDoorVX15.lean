import Derived.Test.YtbhgicggpkibeaaDoorVXe
set_option linter.all false
set_option linter.all false
namespace Go.Proofs.YtbhgicggpkibeaaDoor
open Go.RowKit Go.Sort Go.Rg
set_option maxRecDepth 100000
attribute [local go_sem] Oper.semAt_some

def ErrP (B : Book) (cond : Bool) (err : Int) : Prop := (err = 20 ∧ B.okB = false) ∨ (err = 21 ∧ B.okB = true ∧ cond = false) ∨ (err = 22 ∧ B.okB = true ∧ cond = true ∧ ¬ Can B)
/-- what is known while 'c, e := open(b, cond)' is carried out, in whatever order -/
structure OpenReg (W0 : World) (B : Book) (cond : Bool) (v : Value) (err : Int) (p : Nat) (o4 o8 o9 : Bool) (w : World) : Prop where
  kept : Kept W0 w
  box : o8 = true → W0.heap.size ≤ p ∧ (∃ f0 f1 f2 f3, w.cell? ⟨p, 0, none⟩ = some f0 ∧ w.cell? ⟨p, 1, none⟩ = some f1 ∧ w.cell? ⟨p, 2, none⟩ = some f2 ∧ w.cell? ⟨p, 3, none⟩ = some f3) ∧ ∀ i, w.frozen? ⟨p, i, none⟩ = false
  res : o4 = true → (err = 0 ∧ B.okB = true ∧ cond = true ∧ Can B ∧ ∃ (c : Choir) (S : Nat → Prop), c.B = B ∧ v = c.val ∧ ChoirAt S w c ∧ (∀ b, S b → b < w.heap.size) ∧ (o8 = true → ¬ S p)) ∨ (v = zeroChoir ∧ ErrP B cond err)
  put : o9 = true → o8 = true ∧ ∃ x0 x1 x2 x3, v = .agg #[x0, x1, x2, x3] ∧ w.cell? ⟨p, 0, none⟩ = some x0 ∧ w.cell? ⟨p, 1, none⟩ = some x1 ∧ w.cell? ⟨p, 2, none⟩ = some x2 ∧ w.cell? ⟨p, 3, none⟩ = some x3
section
variable {W0 : World} {B : Book} {cond : Bool} {v : Value} {err : Int} {p : Nat} {o4 o8 o9 : Bool} {w w' : World}
theorem OpenReg.go (h : OpenReg W0 B cond v err p o4 o8 o9 w) (k : Kept w w') : OpenReg W0 B cond v err p o4 o8 o9 w' where
  kept := kept_trans h.kept k
  box := fun e => by
    obtain ⟨h1, ⟨f0, f1, f2, f3, a0, a1, a2, a3⟩, h3⟩ := h.box e
    exact ⟨h1, ⟨f0, f1, f2, f3, kcell k a0, kcell k a1, kcell k a2, kcell k a3⟩, fun i => ((kturns k (fun _ => False)).frozen (Go.Ai.lt_of_cell a0) (fun h => h)).trans (h3 i)⟩
  res := fun e => (h.res e).imp (fun ⟨h1, h2, h3, h4, c, S, h5, h6, h7, h8, h9⟩ => ⟨h1, h2, h3, h4, c, S, h5, h6, h7.turns (kturns k (fun _ => False)) (fun _ _ h => h), fun b hb => Nat.lt_of_lt_of_le (h8 b hb) k.size, h9⟩) id
  put := fun e => by
    obtain ⟨h0, x0, x1, x2, x3, e1, a0, a1, a2, a3⟩ := h.put e
    exact ⟨h0, x0, x1, x2, x3, e1, kcell k a0, kcell k a1, kcell k a2, kcell k a3⟩
theorem OpenReg.opened (h : OpenReg W0 B cond v err p o4 o8 o9 w) (n0 : Nat) (hn : n0 ≤ W0.heap.size) (h9 : o9 = false) {e : Ending} (ho : OpenP B cond n0 w e w') :
    ∃ v' err', e = .returned (.tuple #[v', .int .i64 err']) ∧ OpenReg W0 B cond v' err' p true o8 o9 w' := by
  obtain ⟨v', err', rfl, k, hr⟩ := ho
  have hb := (h.go k).box
  refine ⟨v', err', rfl, kept_trans h.kept k, hb, fun _ => ?_, fun e => by rw [h9] at e; cases e⟩
  rcases hr with ⟨h1, h2, h3, h4, c, h5, h6, h7⟩ | hz
  · refine .inl ⟨h1, h2, h3, h4, c, _, h5, h6, h7, fun b hb => hb.1, fun e8 hS => ?_⟩
    obtain ⟨b1, ⟨f0, _, _, _, a0, _⟩, _⟩ := h.box e8
    have := Go.Ai.lt_of_cell a0
    have := hS.2
    omega
  · exact .inr hz
theorem OpenReg.boxed (h : OpenReg W0 B cond v err p o4 false o9 w) (h9 : o9 = false) :
    OpenReg W0 B cond v err w.heap.size o4 true o9 (w.alloc (Obj.cells #[.slice none 0 0, .int .i64 0, .slice none 0 0, .map none] 84)) := by
  have k : Kept w (w.alloc (Obj.cells #[.slice none 0 0, .int .i64 0, .slice none 0 0, .map none] 84)) := kept_alloc (kept_refl _) _
  refine ⟨kept_trans h.kept k, fun _ => ⟨h.kept.size, ⟨.slice none 0 0, .int .i64 0, .slice none 0 0, .map none, by go_simp, by go_simp, by go_simp, by go_simp⟩, fun i => by go_simp⟩, fun e4 => ?_, fun e => by rw [h9] at e; cases e⟩
  · rcases h.res e4 with ⟨h1, h2, h3, h4, c, S, h5, h6, h7, h8, _⟩ | hz
    · exact .inl ⟨h1, h2, h3, h4, c, S, h5, h6, h7.turns (kturns k (fun _ => False)) (fun _ _ h => h), fun b hb => Nat.lt_of_lt_of_le (h8 b hb) k.size, fun _ hS => by have := h8 _ hS; omega⟩
    · exact .inr hz
theorem OpenReg.stored {x0 x1 x2 x3 : Value} (h : OpenReg W0 B cond v err p o4 true false w) (hv : v = .agg #[x0, x1, x2, x3]) :
    OpenReg W0 B cond v err p o4 true true ((((w.setCell ⟨p, 0, none⟩ x0).setCell ⟨p, 1, none⟩ x1).setCell ⟨p, 2, none⟩ x2).setCell ⟨p, 3, none⟩ x3) := by
  obtain ⟨hb, ⟨f0, f1, f2, f3, a0, a1, a2, a3⟩, hf⟩ := h.box rfl
  have hT : Turns (fun b => b = p) w ((((w.setCell ⟨p, 0, none⟩ x0).setCell ⟨p, 1, none⟩ x1).setCell ⟨p, 2, none⟩ x2).setCell ⟨p, 3, none⟩ x3) := Turns.setCell (T := fun b => b = p) (Turns.setCell (T := fun b => b = p) (Turns.setCell (T := fun b => b = p) (Turns.setCell (T := fun b => b = p) (Turns.refl _ _) rfl _ _) rfl _ _) rfl _ _) rfl _ _
  have c0 : ((((w.setCell ⟨p, 0, none⟩ x0).setCell ⟨p, 1, none⟩ x1).setCell ⟨p, 2, none⟩ x2).setCell ⟨p, 3, none⟩ x3).cell? ⟨p, 0, none⟩ = some x0 := by
    rw [cell_set_ne (by omega), cell_set_ne (by omega), cell_set_ne (by omega), cell_set_eq a0]
  have c1 : ((((w.setCell ⟨p, 0, none⟩ x0).setCell ⟨p, 1, none⟩ x1).setCell ⟨p, 2, none⟩ x2).setCell ⟨p, 3, none⟩ x3).cell? ⟨p, 1, none⟩ = some x1 := by
    rw [cell_set_ne (by omega), cell_set_ne (by omega)]; exact cell_set_eq ((cell_set_ne (by omega)).trans a1)
  have c2 : ((((w.setCell ⟨p, 0, none⟩ x0).setCell ⟨p, 1, none⟩ x1).setCell ⟨p, 2, none⟩ x2).setCell ⟨p, 3, none⟩ x3).cell? ⟨p, 2, none⟩ = some x2 := by
    rw [cell_set_ne (by omega)]; exact cell_set_eq ((cell_set_ne (by omega)).trans ((cell_set_ne (by omega)).trans a2))
  have c3 : ((((w.setCell ⟨p, 0, none⟩ x0).setCell ⟨p, 1, none⟩ x1).setCell ⟨p, 2, none⟩ x2).setCell ⟨p, 3, none⟩ x3).cell? ⟨p, 3, none⟩ = some x3 :=
    cell_set_eq ((cell_set_ne (by omega)).trans ((cell_set_ne (by omega)).trans ((cell_set_ne (by omega)).trans a3)))
  refine ⟨Below.trans h.kept (hT.toBelow (n := W0.heap.size) (by rintro b rfl; exact hb) h.kept.size), fun _ => ⟨hb, ⟨_, _, _, _, c0, c1, c2, c3⟩, fun i => ?_⟩, fun e4 => ?_, fun _ => ⟨rfl, _, _, _, _, hv, c0, c1, c2, c3⟩⟩
  · rw [World.frozen?_setCell, World.frozen?_setCell, World.frozen?_setCell, World.frozen?_setCell]; exact hf i
  · rcases h.res e4 with ⟨h1, h2, h3, h4, c, S, h5, h6, h7, h8, h9⟩ | hz
    · exact .inl ⟨h1, h2, h3, h4, c, S, h5, h6, h7.turns hT (fun b hb e => h9 rfl (e ▸ hb)), fun b hb => Nat.lt_of_lt_of_le (h8 b hb) hT.size, fun _ => h9 rfl⟩
    · exact .inr hz
theorem OpenReg.start (W0 : World) (B : Book) (cond : Bool) : OpenReg W0 B cond undef 0 0 false false false W0.drew :=
  ⟨kept_drew (kept_refl _), (fun e => nomatch e), (fun e => nomatch e), (fun e => nomatch e)⟩
end
def openVs (O : Nat) (pre : Nat → Value) (v : Value) (err : Int) (p : Nat) (j : Nat) : Value :=
  if j < O then pre j else match j - O with
  | 0 => .tuple #[v, .int .i64 err]
  | 1 => .tuple #[v, .int .i64 err]
  | 2 => v
  | 3 => .int .i64 err
  | 4 => .pointer (some ⟨p, 0, none⟩)
  | 6 => .int .i64 err
  | _ => undef
def StO (O : Nat) (pre : Nat → Value) (W0 : World) (B : Book) (l : List Oper) (a0 : Act) (listed : Array Bool) (a : Act) (w : World) : Prop :=
  ∃ v err p, AtSt l.toArray (openVs O pre v err p) a0 listed a ∧ OpenReg W0 B true v err p (on listed O) (on listed (O + 4)) (on listed (O + 5)) w
section
variable {l : List Oper} {a0 a : Act} {O : Nat} {pre : Nat → Value} {W0 w w' : World} {B : Book} {listed : Array Bool} {v : Value} {err : Int} {p i : Nat} {o : Oper}
theorem dist_arr (hd : distFrom l = true) : ∀ (j k : Nat) (x y : Oper) (d : Tmp), l.toArray[j]? = some x → l.toArray[k]? = some y → x.dst = some d → y.dst = some d → j = k :=
  fun j k x y d hj hk hx hy => distFrom_get l hd j k x y d (by simpa using hj) (by simpa using hk) hx hy
theorem StO.start : StO O pre W0 B l a0 (Array.replicate l.length false) a0 W0.drew := by
  have no : ∀ j, on (Array.replicate l.length false) j = false := fun j => by
    unfold on
    simp only [Array.getD_eq_getD_getElem?, Array.getElem?_replicate]
    split <;> simp
  refine ⟨undef, 0, 0, ⟨rfl, rfl, fun j o d hj => ?_, fun t _ => rfl⟩, by rw [no, no, no]; exact OpenReg.start W0 B true⟩
  have := no j
  unfold on at this
  rw [this] at hj; cases hj
theorem StO.same (hd : distFrom l = true) (ha : AtSt l.toArray (openVs O pre v err p) a0 listed a) (hw : OpenReg W0 B true v err p (on listed O) (on listed (O + 4)) (on listed (O + 5)) w) (ho : l[i]? = some o) (h1 : listed.getD i true = false)
    (i4 : i ≠ O) (i8 : i ≠ O + 4) (i9 : i ≠ O + 5) (k : Kept w w') : StO O pre W0 B l a0 (listed.setIfInBounds i true) (a.put o.dst (openVs O pre v err p i)) w' :=
  ⟨v, err, p, ha.put (by simpa using ho) h1 (dist_arr hd), by rw [on_set (Ne.symm i4), on_set (Ne.symm i8), on_set (Ne.symm i9)]; exact hw.go k⟩
theorem StO.opened (hd : distFrom l = true) (ha : AtSt l.toArray (openVs O pre v err p) a0 listed a) (hl : listed.size = l.length) (ho : l[O]? = some o) (h1 : listed.getD O true = false)
    (h5 : on listed (O + 1) = false) (h6 : on listed (O + 2) = false) (h7 : on listed (O + 3) = false) (h9 : on listed (O + 5) = false) (h10 : on listed (O + 6) = false) {v' : Value} {err' : Int} (hw' : OpenReg W0 B true v' err' p true (on listed (O + 4)) (on listed (O + 5)) w') :
    StO O pre W0 B l a0 (listed.setIfInBounds O true) (a.put o.dst (.tuple #[v', .int .i64 err'])) w' := by
  have hs : ∀ j, listed.getD j false = true → openVs O pre v err p j = openVs O pre v' err' p j := fun j hj => by
    have h4 := on_no h1
    unfold on at h4 h5 h6 h7 h9 h10
    unfold openVs
    by_cases hjo : j < O
    · rw [if_pos hjo, if_pos hjo]
    · rw [if_neg hjo, if_neg hjo]
      obtain ⟨k, rfl⟩ : ∃ k, j = O + k := ⟨j - O, by omega⟩
      rw [Nat.add_sub_cancel_left]
      match k with
      | 0 => rw [Nat.add_zero, h4] at hj; cases hj
      | 1 => rw [h5] at hj; cases hj
      | 2 => rw [h6] at hj; cases hj
      | 3 => rw [h7] at hj; cases hj
      | 4 => rfl
      | 5 => rfl
      | 6 => rw [h10] at hj; cases hj
      | n + 7 => rfl
  have hz : O < listed.size := by rw [hl]; exact (List.getElem?_eq_some_iff.1 ho).1
  have hv : openVs O pre v' err' p O = .tuple #[v', .int .i64 err'] := by simp [openVs]
  have := (ha.swap hs).put (i := O) (by simpa using ho) h1 (dist_arr hd)
  rw [hv] at this
  exact ⟨v', err', p, this, by rw [on_self hz, on_set (by omega), on_set (by omega)]; exact hw'⟩
theorem StO.boxed (hd : distFrom l = true) (ha : AtSt l.toArray (openVs O pre v err p) a0 listed a) (hw : OpenReg W0 B true v err p (on listed O) (on listed (O + 4)) (on listed (O + 5)) w) (hl : listed.size = l.length) (ho : l[O + 4]? = some o) (h1 : listed.getD (O + 4) true = false) (h9 : on listed (O + 5) = false) :
    StO O pre W0 B l a0 (listed.setIfInBounds (O + 4) true) (a.put o.dst (.pointer (some ⟨w.heap.size, 0, none⟩))) (w.alloc (Obj.cells #[.slice none 0 0, .int .i64 0, .slice none 0 0, .map none] 84)) := by
  have hs : ∀ j, listed.getD j false = true → openVs O pre v err p j = openVs O pre v err w.heap.size j := fun j hj => by
    have h8 := on_no h1
    unfold on at h8
    by_cases e : j = O + 4
    · subst e; rw [h8] at hj; cases hj
    · unfold openVs
      by_cases hjo : j < O
      · rw [if_pos hjo, if_pos hjo]
      · rw [if_neg hjo, if_neg hjo]
        split <;> first | rfl | (exfalso; omega)
  have hz : O + 4 < listed.size := by rw [hl]; exact (List.getElem?_eq_some_iff.1 ho).1
  have h8 := on_no h1
  rw [h8] at hw
  have hv : openVs O pre v err w.heap.size (O + 4) = .pointer (some ⟨w.heap.size, 0, none⟩) := by
    unfold openVs
    rw [if_neg (by omega), Nat.add_sub_cancel_left]
    rfl
  have := (ha.swap hs).put (i := O + 4) (by simpa using ho) h1 (dist_arr hd)
  rw [hv] at this
  exact ⟨v, err, w.heap.size, this, by rw [on_self hz, on_set (by omega), on_set (by omega)]; exact hw.boxed h9⟩
theorem StO.stored (hd : distFrom l = true) (ha : AtSt l.toArray (openVs O pre v err p) a0 listed a) (hw : OpenReg W0 B true v err p (on listed O) (on listed (O + 4)) (on listed (O + 5)) w) (hl : listed.size = l.length) (ho : l[O + 5]? = some o) (hno : o.dst = none) (h1 : listed.getD (O + 5) true = false) (h8 : on listed (O + 4) = true)
    {x0 x1 x2 x3 : Value} (hv : v = .agg #[x0, x1, x2, x3]) :
    StO O pre W0 B l a0 (listed.setIfInBounds (O + 5) true) a ((((w.setCell ⟨p, 0, none⟩ x0).setCell ⟨p, 1, none⟩ x1).setCell ⟨p, 2, none⟩ x2).setCell ⟨p, 3, none⟩ x3) := by
  have hz : O + 5 < listed.size := by rw [hl]; exact (List.getElem?_eq_some_iff.1 ho).1
  have h9 := on_no h1
  rw [h8, h9] at hw
  have := ha.put (i := O + 5) (by simpa using ho) h1 (dist_arr hd)
  rw [hno] at this
  exact ⟨v, err, p, this, by rw [on_self hz, on_set (by omega), on_set (by omega), h8]; exact hw.stored hv⟩
/-- Nothing behind the opening is over where it is not. -/
theorem open_first (hcl : Closed l listed) (h1 : listed.getD O true = false)
    (e1 : ∃ x, l[O + 1]? = some x ∧ ∃ e ∈ x.after, Region.binds .any e = true ∧ e.on = O) (e2 : ∃ x, l[O + 2]? = some x ∧ ∃ e ∈ x.after, Region.binds .any e = true ∧ e.on = O + 1) (e3 : ∃ x, l[O + 3]? = some x ∧ ∃ e ∈ x.after, Region.binds .any e = true ∧ e.on = O + 1)
    (e5 : ∃ x, l[O + 5]? = some x ∧ ∃ e ∈ x.after, Region.binds .any e = true ∧ e.on = O + 2) (e6 : ∃ x, l[O + 6]? = some x ∧ ∃ e ∈ x.after, Region.binds .any e = true ∧ e.on = O + 3) :
    on listed (O + 1) = false ∧ on listed (O + 2) = false ∧ on listed (O + 3) = false ∧ on listed (O + 5) = false ∧ on listed (O + 6) = false := by
  have step : ∀ {j k : Nat}, (∃ x, l[j]? = some x ∧ ∃ e ∈ x.after, Region.binds .any e = true ∧ e.on = k) → on listed k = false → on listed j = false := by
    rintro j k ⟨x, hx, e, he, hb, rfl⟩ hk
    cases h : on listed j with
    | false => rfl
    | true => rw [hcl j x hx h e he hb] at hk; cases hk
  have n0 := on_no h1
  have n1 := step e1 n0
  have n2 := step e2 n1
  have n3 := step e3 n1
  exact ⟨n1, n2, n3, step e5 n2, step e6 n3⟩
end
end Go.Proofs.YtbhgicggpkibeaaDoor
