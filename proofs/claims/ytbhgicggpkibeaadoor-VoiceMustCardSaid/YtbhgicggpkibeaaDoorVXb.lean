import Derived.Test.YtbhgicggpkibeaaDoorVX4
import Derived.Laws.EntriesVeiled
set_option linter.all false
set_option linter.all false
namespace Go.Proofs.YtbhgicggpkibeaaDoor
open Go.RowKit Go.Sort Go.Rg
set_option maxRecDepth 100000
attribute [local go_sem] Oper.semAt_some

def encT (c : Choir) (boy : Nat) (n : List Int) : Value := .agg (#[c.k0, .int .i64 c.B.weeks, c.k2, c.m, .int .i64 (boy : Int)] ++ (n.map (Value.int .i64)).toArray)
/-- the boxes of an iterator of truths -/
structure TruthsAt (S : Nat → Prop) (c : Choir) (boy bc by' : Nat) (W : World) : Prop where
  at' : ChoirAt S W c
  c0 : W.cell? ⟨bc, 0, none⟩ = some c.k0
  c1 : W.cell? ⟨bc, 1, none⟩ = some (.int .i64 c.B.weeks)
  c2 : W.cell? ⟨bc, 2, none⟩ = some c.k2
  c3 : W.cell? ⟨bc, 3, none⟩ = some c.m
  b0 : W.cell? ⟨by', 0, none⟩ = some (.int .i64 (boy : Int))

set_option maxHeartbeats 4000000 in
theorem truths1_gives (S : Nat → Prop) (c : Choir) (boy : Nat) (x : Boy) (hx : c.B.boys[boy]? = some x) (bc by' : Nat) :
    Gives Tryd.prog 144 #[.pointer (some ⟨bc, 0, none⟩), .pointer (some ⟨by', 0, none⟩)] (encT c boy) (c.B.truths boy x) (fun b => S b ∨ b = bc ∨ b = by') (TruthsAt S c boy bc by') := by
  intro l T J Jx V hT hS hD hJ hJx hY h0
  obtain ⟨hat, c0, c1, c2, c3, b0⟩ := hD
  have hbl : boy < c.B.boys.length := (List.getElem?_eq_some_iff.1 hx).1
  obtain ⟨x0, x1, x2, x3, x4, x5, x6, x7, x8, x9, x10⟩ := hat.boys.2 boy x hx
  have hok := hat.ok
  simp only [Book.okB, inB, Bool.and_eq_true, decide_eq_true_eq, List.all_eq_true] at hok
  obtain ⟨⟨⟨⟨⟨hb1, hb4⟩, hw1, hw6⟩, ht6⟩, hbo⟩, hto⟩ := hok
  have hzb := hat.boys.1
  have hzc := Go.Ai.lt_of_cell c0
  have hzy := Go.Ai.lt_of_cell b0
  have hxo := hbo x (List.mem_of_getElem? hx)
  have HX := Lib.hid hxo; clear hxo hbo hto
  have HJ := Lib.hid hJ; clear hJ
  have HJX := Lib.hid hJx; clear hJx
  have HY := Lib.hid hY; clear hY
  have H0 := Lib.hid h0; clear h0
  have HT := Lib.hid hT; clear hT
  have HS := Lib.hid hS; clear hS
  have HA := Lib.hid hat; clear hat
  have HXX := Lib.hid hx; clear hx
  unfold Choir.k0 at c0
  unfold Choir.k2 at c2
  unfold Choir.m at c3
  refine (callsIn_wide (n := 0)).1 (callsIn_of_wp Tryd.func144 rfl trivial ?_ rfl)
  simp only [Tryd.ntmps144, List.size_toArray, List.length_cons, List.length_nil, Nat.reduceAdd, Nat.reduceSub, Array.replicate_succ, Array.replicate_zero, List.push_toArray, List.append_toArray, List.nil_append, List.cons_append]
  gi_wp2_with fail
  have y0 : ((V.alloc (Obj.cells #[Value.func (Fn.yield l) #[] #[]] 94)).alloc (Obj.cells #[.slice (some ⟨c.bb, c.ob, none⟩) c.B.boys.length c.capb, .int .i64 c.B.weeks, .slice c.q c.B.trials.length c.capt, .map (some c.bm), .int .i64 (boy : Int), .int .i64 0, .int .i64 0, .int .i64 0, .int .i64 0, .int .i64 0] 92)).cell? ⟨V.heap.size, 0, none⟩ = some (Value.func (Fn.yield l) #[] #[]) := by go_simp
  have hkV : Kept V ((V.alloc (Obj.cells #[Value.func (Fn.yield l) #[] #[]] 94)).alloc (Obj.cells #[.slice (some ⟨c.bb, c.ob, none⟩) c.B.boys.length c.capb, .int .i64 c.B.weeks, .slice c.q c.B.trials.length c.capt, .map (some c.bm), .int .i64 (boy : Int), .int .i64 0, .int .i64 0, .int .i64 0, .int .i64 0, .int .i64 0] 92)) := kept_alloc (kept_alloc (kept_refl _) _) _
  have hzV : ((V.alloc (Obj.cells #[Value.func (Fn.yield l) #[] #[]] 94)).alloc (Obj.cells #[.slice (some ⟨c.bb, c.ob, none⟩) c.B.boys.length c.capb, .int .i64 c.B.weeks, .slice c.q c.B.trials.length c.capt, .map (some c.bm), .int .i64 (boy : Int), .int .i64 0, .int .i64 0, .int .i64 0, .int .i64 0, .int .i64 0] 92)).heap.size = V.heap.size + 2 := by simp
  have hOT : ∀ s : Spot, s.bt = V.heap.size + 1 → s.k0 = c.k0 → s.k1 = .int .i64 c.B.weeks → s.k2 = c.k2 → s.k3 = c.m → s.boy = boy → OwnT s ((V.alloc (Obj.cells #[Value.func (Fn.yield l) #[] #[]] 94)).alloc (Obj.cells #[.slice (some ⟨c.bb, c.ob, none⟩) c.B.boys.length c.capb, .int .i64 c.B.weeks, .slice c.q c.B.trials.length c.capt, .map (some c.bm), .int .i64 (boy : Int), .int .i64 0, .int .i64 0, .int .i64 0, .int .i64 0, .int .i64 0] 92)) [] := by
    intro s e0 e1 e2 e3 e4 e5
    refine ⟨?_, ?_, ?_, ?_, ?_, fun i hi => ?_, fun i v hv => by simp at hv, fun i => ?_⟩
    · rw [e0, e1]; go_simp; rfl
    · rw [e0, e2]; go_simp
    · rw [e0, e3]; go_simp; rfl
    · rw [e0, e4]; go_simp; rfl
    · rw [e0, e5]; go_simp
    · refine ⟨0, ?_⟩
      rw [e0]
      match i, hi with
      | 0, _ => go_simp
      | 1, _ => go_simp
      | 2, _ => go_simp
      | 3, _ => go_simp
      | 4, _ => go_simp
    · rw [e0]; go_simp
  generalize (V.alloc (Obj.cells #[Value.func (Fn.yield l) #[] #[]] 94)).alloc (Obj.cells #[.slice (some ⟨c.bb, c.ob, none⟩) c.B.boys.length c.capb, .int .i64 c.B.weeks, .slice c.q c.B.trials.length c.capt, .map (some c.bm), .int .i64 (boy : Int), .int .i64 0, .int .i64 0, .int .i64 0, .int .i64 0, .int .i64 0] 92) = W1 at *
  have HOT := Lib.hid hOT; clear hOT
  refine ⟨trivial, rfl, (callsIn_wide.2 (known_any _ _ _ _ _ _ _ _ _ _ _ _)).mono ?_⟩
  rintro e w' ⟨rfl, hk1⟩
  gi_wp2_with fail
  have hsp : ∀ i, i < 5 → ((w'.alloc (Obj.cells #[Value.int IntKind.i64 x.l0, Value.int IntKind.i64 x.l1, Value.int IntKind.i64 x.h0, Value.int IntKind.i64 x.h1, Value.int IntKind.i64 x.g0, Value.int IntKind.i64 x.g1, Value.int IntKind.i64 x.t0, Value.int IntKind.i64 x.t1, Value.int IntKind.i64 x.b0, Value.int IntKind.i64 x.b1] 185)).alloc (Obj.cells #[Value.func (Fn.func 145) #[] #[Value.pointer (some ⟨V.heap.size + 1, 0, none⟩), Value.pointer (some ⟨V.heap.size, 0, none⟩), Value.pointer (some ⟨w'.heap.size, 0, none⟩), Value.pointer (some ⟨bc, 0, none⟩), Value.pointer (some ⟨w'.heap.size + 1, 0, none⟩)]] 93)).cell? ⟨w'.heap.size, i * 2, none⟩ = some (.int .i64 (x.lo i)) ∧ ((w'.alloc (Obj.cells #[Value.int IntKind.i64 x.l0, Value.int IntKind.i64 x.l1, Value.int IntKind.i64 x.h0, Value.int IntKind.i64 x.h1, Value.int IntKind.i64 x.g0, Value.int IntKind.i64 x.g1, Value.int IntKind.i64 x.t0, Value.int IntKind.i64 x.t1, Value.int IntKind.i64 x.b0, Value.int IntKind.i64 x.b1] 185)).alloc (Obj.cells #[Value.func (Fn.func 145) #[] #[Value.pointer (some ⟨V.heap.size + 1, 0, none⟩), Value.pointer (some ⟨V.heap.size, 0, none⟩), Value.pointer (some ⟨w'.heap.size, 0, none⟩), Value.pointer (some ⟨bc, 0, none⟩), Value.pointer (some ⟨w'.heap.size + 1, 0, none⟩)]] 93)).cell? ⟨w'.heap.size, i * 2 + 1, none⟩ = some (.int .i64 (x.hi i)) := by
    intro i hi
    match i, hi with
    | 0, _ => exact ⟨by go_simp; rfl, by go_simp; rfl⟩
    | 1, _ => exact ⟨by go_simp; rfl, by go_simp; rfl⟩
    | 2, _ => exact ⟨by go_simp; rfl, by go_simp; rfl⟩
    | 3, _ => exact ⟨by go_simp; rfl, by go_simp; rfl⟩
    | 4, _ => exact ⟨by go_simp; rfl, by go_simp; rfl⟩
  have hfn : ((w'.alloc (Obj.cells #[Value.int IntKind.i64 x.l0, Value.int IntKind.i64 x.l1, Value.int IntKind.i64 x.h0, Value.int IntKind.i64 x.h1, Value.int IntKind.i64 x.g0, Value.int IntKind.i64 x.g1, Value.int IntKind.i64 x.t0, Value.int IntKind.i64 x.t1, Value.int IntKind.i64 x.b0, Value.int IntKind.i64 x.b1] 185)).alloc (Obj.cells #[Value.func (Fn.func 145) #[] #[Value.pointer (some ⟨V.heap.size + 1, 0, none⟩), Value.pointer (some ⟨V.heap.size, 0, none⟩), Value.pointer (some ⟨w'.heap.size, 0, none⟩), Value.pointer (some ⟨bc, 0, none⟩), Value.pointer (some ⟨w'.heap.size + 1, 0, none⟩)]] 93)).cell? ⟨w'.heap.size + 1, 0, none⟩ = some (Value.func (Fn.func 145) #[] #[Value.pointer (some ⟨V.heap.size + 1, 0, none⟩), Value.pointer (some ⟨V.heap.size, 0, none⟩), Value.pointer (some ⟨w'.heap.size, 0, none⟩), Value.pointer (some ⟨bc, 0, none⟩), Value.pointer (some ⟨w'.heap.size + 1, 0, none⟩)]) := by go_simp
  have hkw : Kept w' ((w'.alloc (Obj.cells #[Value.int IntKind.i64 x.l0, Value.int IntKind.i64 x.l1, Value.int IntKind.i64 x.h0, Value.int IntKind.i64 x.h1, Value.int IntKind.i64 x.g0, Value.int IntKind.i64 x.g1, Value.int IntKind.i64 x.t0, Value.int IntKind.i64 x.t1, Value.int IntKind.i64 x.b0, Value.int IntKind.i64 x.b1] 185)).alloc (Obj.cells #[Value.func (Fn.func 145) #[] #[Value.pointer (some ⟨V.heap.size + 1, 0, none⟩), Value.pointer (some ⟨V.heap.size, 0, none⟩), Value.pointer (some ⟨w'.heap.size, 0, none⟩), Value.pointer (some ⟨bc, 0, none⟩), Value.pointer (some ⟨w'.heap.size + 1, 0, none⟩)]] 93)) := kept_alloc (kept_alloc (kept_refl _) _) _
  have hzw : ((w'.alloc (Obj.cells #[Value.int IntKind.i64 x.l0, Value.int IntKind.i64 x.l1, Value.int IntKind.i64 x.h0, Value.int IntKind.i64 x.h1, Value.int IntKind.i64 x.g0, Value.int IntKind.i64 x.g1, Value.int IntKind.i64 x.t0, Value.int IntKind.i64 x.t1, Value.int IntKind.i64 x.b0, Value.int IntKind.i64 x.b1] 185)).alloc (Obj.cells #[Value.func (Fn.func 145) #[] #[Value.pointer (some ⟨V.heap.size + 1, 0, none⟩), Value.pointer (some ⟨V.heap.size, 0, none⟩), Value.pointer (some ⟨w'.heap.size, 0, none⟩), Value.pointer (some ⟨bc, 0, none⟩), Value.pointer (some ⟨w'.heap.size + 1, 0, none⟩)]] 93)).heap.size = w'.heap.size + 2 := by simp
  generalize ((w'.alloc (Obj.cells #[Value.int IntKind.i64 x.l0, Value.int IntKind.i64 x.l1, Value.int IntKind.i64 x.h0, Value.int IntKind.i64 x.h1, Value.int IntKind.i64 x.g0, Value.int IntKind.i64 x.g1, Value.int IntKind.i64 x.t0, Value.int IntKind.i64 x.t1, Value.int IntKind.i64 x.b0, Value.int IntKind.i64 x.b1] 185)).alloc (Obj.cells #[Value.func (Fn.func 145) #[] #[Value.pointer (some ⟨V.heap.size + 1, 0, none⟩), Value.pointer (some ⟨V.heap.size, 0, none⟩), Value.pointer (some ⟨w'.heap.size, 0, none⟩), Value.pointer (some ⟨bc, 0, none⟩), Value.pointer (some ⟨w'.heap.size + 1, 0, none⟩)]] 93)) = A at *
  have hkA : Kept W1 A := kept_trans hk1 hkw
  have hkVA : Kept V A := kept_trans hkV hkA
  have hz1 := (bcell hk1).2.2
  obtain ⟨s, hs⟩ : ∃ s : Spot, s = ⟨l, V.heap.size + 1, V.heap.size, w'.heap.size, bc, w'.heap.size + 1, c.k0, .int .i64 c.B.weeks, c.k2, c.m, (boy : Int), x.lo, x.hi, fun b => S b ∨ b = bc ∨ b = by' ∨ b = V.heap.size ∨ b = w'.heap.size ∨ b = w'.heap.size + 1⟩ := ⟨_, rfl⟩
  have hSV : ∀ b, S b → b < V.heap.size := fun b hb => (HS.out b (.inl hb)).1
  have ok : s.Ok (fun W => ChoirAt S W c) := by
    subst hs
    exact ⟨by simp, by simp, by simp, by simp, by
      rintro (h | h | h | h | h | h)
      · have h2 : V.heap.size + 1 < V.heap.size := hSV _ h
        omega
      · have h2 : V.heap.size + 1 = bc := h
        omega
      · have h2 : V.heap.size + 1 = by' := h
        omega
      · have h2 : V.heap.size + 1 = V.heap.size := h
        omega
      · have h2 : V.heap.size + 1 = w'.heap.size := h
        omega
      · have h2 : V.heap.size + 1 = w'.heap.size + 1 := h
        omega, fun A B U h k hu => h.turns k (fun b hb => hu b (.inl hb))⟩
  have own : OwnR s (fun W => ChoirAt S W c) A := by
    subst hs
    exact ⟨kcell hkA y0, hsp, kcell hkVA c2, hfn, HA.out.turns (kturns hkVA (fun _ => False)) (fun _ _ h => h)⟩
  have ownT : OwnT s A [] := (HOT.out s (by rw [hs]) (by rw [hs]) (by rw [hs]) (by rw [hs]) (by rw [hs]) (by rw [hs])).turns (kturns hkA (fun _ => False)) (fun h => h)
  have good : Good s V T T A := by
    subst hs
    refine ⟨Ext.refl _ _, fun b hb => Nat.lt_of_lt_of_le (HT.out b hb) (bcell hkVA).2.2, kturns hkVA _, ?_, ?_, ?_, ?_, ?_⟩
    · rintro b (h | h | h | h | h | h) ht
      · exact (HS.out b (.inl h)).2 ht
      · exact (HS.out b (.inr (.inl h))).2 ht
      · exact (HS.out b (.inr (.inr h))).2 ht
      all_goals (have := HT.out b ht; omega)
    · intro ht; have := HT.out _ ht; simp at this; omega
    · rintro b (h | h | h | h | h | h)
      · have := hSV _ h; omega
      all_goals omega
    · show V.heap.size + 1 < _; omega
    · show V.heap.size ≤ V.heap.size + 1; omega
  have hspans := (spanAt_ok x HX.out).1
  have key := choose_any s (fun W => ChoirAt S W c) ok (c.B.truths boy x) V J Jx T c.q c.capt c.B.trials (by rw [hs]; rfl) ht6
    (fun W h => h.trials.imp id fun ⟨b, o, e, _, ht⟩ => ⟨b, o, e, ht⟩) (fun i hi => by have := hspans i hi; subst hs; exact ⟨this.1, Int.le_trans this.2.1 (by omega), this.2.2.1, this.2.2.2.1⟩)
    (kpOf c.B boy x) (fun n A hn hr h => by
      match n, hn with
      | [n0, n1, n2, n3, n4], _ => subst hs; exact keeps_at S c boy x HXX.out A h n0 n1 n2 n3 n4 hr)
    HJ.out (fun k n T' A hk g hj => by
      have := HY.out k n T' A hk g.ext g.small g.base hj
      subst hs; exact this)
    5 [] 0 T A rfl (fun i v h => by simp at h) own ownT good (HJ.out _ _ _ _ H0.out (Quiet.below hkVA)) ⟨[], by rw [hs]; simp [Book.truths]⟩
  have key2 : CallsIn Fence.wide 0 Tryd.prog 145 #[.int .i64 0, .pointer (some ⟨V.heap.size + 1, 0, none⟩), .pointer (some ⟨V.heap.size, 0, none⟩), .pointer (some ⟨w'.heap.size, 0, none⟩), .pointer (some ⟨bc, 0, none⟩), .pointer (some ⟨w'.heap.size + 1, 0, none⟩)] A (ChooseP s (fun W => ChoirAt S W c) [] (c.B.truths boy x).length 0 (c.B.truths boy x).length J Jx T A) := by
    subst hs; exact key
  clear key
  refine ⟨trivial, rfl, key2.mono ?_⟩
  rintro e B ⟨T2, hE2, hz2, hT2, (⟨rfl, hJ2, _⟩ | ⟨rfl, j2, hj2, hJx⟩)⟩
  · have g2 := good.step hE2 hz2 hT2
    clear key2 hsp own ownT ok
    gi_wp2_with fail
    go_end0
    exact ⟨⟨_, rfl⟩, g2.base, T2, g2.ext, .inl (by simpa using hJ2)⟩
  · have g2 := good.step hE2 hz2 hT2
    clear key2 hsp own ownT ok
    gi_wp2_with fail
    go_end0
    exact ⟨⟨_, rfl⟩, g2.base, T2, g2.ext, .inr ⟨j2, hj2, hJx⟩⟩
end Go.Proofs.YtbhgicggpkibeaaDoor
set_option linter.all false
namespace Go.Proofs.YtbhgicggpkibeaaDoor
open Go.RowKit Go.Sort Go.Rg
set_option maxRecDepth 100000
attribute [local go_sem] Oper.semAt_some

def Choir.val (c : Choir) : Value := .agg #[.slice (some ⟨c.bb, c.ob, none⟩) c.B.boys.length c.capb, .int .i64 c.B.weeks, .slice c.q c.B.trials.length c.capt, .map (some c.bm)]
theorem truths_any (c : Choir) (boy : Nat) (W : World) :
    Calls Tryd.prog 121 #[c.val, .int .i64 (boy : Int)] W fun e B => e = .returned (.func (.func 144) #[] #[.pointer (some ⟨W.heap.size, 0, none⟩), .pointer (some ⟨W.heap.size + 1, 0, none⟩)]) ∧ Kept W B ∧ B.heap.size = W.heap.size + 2 ∧
      B.cell? ⟨W.heap.size, 0, none⟩ = some c.k0 ∧ B.cell? ⟨W.heap.size, 1, none⟩ = some (.int .i64 c.B.weeks) ∧ B.cell? ⟨W.heap.size, 2, none⟩ = some c.k2 ∧ B.cell? ⟨W.heap.size, 3, none⟩ = some c.m ∧ B.cell? ⟨W.heap.size + 1, 0, none⟩ = some (.int .i64 (boy : Int)) := by
  unfold Choir.val
  go_enter Tryd.func121, Tryd.ntmps121
  go_wp2
  go_ret
  refine ⟨rfl, kept_alloc (kept_alloc (kept_refl _) _) _, by simp, ?_, ?_, ?_, ?_, ?_⟩
  · go_simp; rfl
  · go_simp
  · go_simp; rfl
  · go_simp; rfl
  · go_simp

theorem gen_len {lo hi : Nat → Int} {boy : Int} {lt : List Trial} {kp : List Int → Bool} : ∀ (d : Nat) (pre x : List Int), x ∈ gen lo hi boy lt kp d pre → x.length = pre.length + d
  | 0, pre, x, h => by
    unfold gen at h
    split at h
    · simp at h; rw [h]; rfl
    · cases h
  | d + 1, pre, x, h => by
    unfold gen at h
    simp only [List.mem_flatten, List.mem_map] at h
    obtain ⟨l, ⟨m, _, rfl⟩, hx⟩ := h
    split at hx
    · cases hx
    · have := gen_len d _ x hx
      simp at this; omega
theorem truths_len {B : Book} {boy : Nat} {x : Boy} {n : List Int} (h : n ∈ B.truths boy x) : ∃ n0 n1 n2 n3 n4, n = [n0, n1, n2, n3, n4] := by
  have := gen_len 5 [] n h
  match n, this with
  | [n0, n1, n2, n3, n4], _ => exact ⟨n0, n1, n2, n3, n4, rfl⟩

/-- the truths of a boy, from the boxes that the maker lays -/
theorem truthsAt_of {S : Nat → Prop} {c : Choir} {boy : Nat} {W B : World} {n : Nat} (h : ChoirAt S W c) (hk : Kept W B) (hn : (n : Nat) = n)
    (c0 : B.cell? ⟨n, 0, none⟩ = some c.k0) (c1 : B.cell? ⟨n, 1, none⟩ = some (.int .i64 c.B.weeks)) (c2 : B.cell? ⟨n, 2, none⟩ = some c.k2) (c3 : B.cell? ⟨n, 3, none⟩ = some c.m) (b0 : B.cell? ⟨n + 1, 0, none⟩ = some (.int .i64 (boy : Int))) :
    TruthsAt S c boy n (n + 1) B := ⟨h.turns (kturns hk (fun _ => False)) (fun _ _ h => h), c0, c1, c2, c3, b0⟩
theorem TruthsAt.kept {S : Nat → Prop} {c : Choir} {boy bc by' : Nat} {A B : World} (h : TruthsAt S c boy bc by' A) (k : Kept' A B) : TruthsAt S c boy bc by' B :=
  ⟨h.at'.turns k (fun _ _ h => h), tcell k (fun h => h) h.c0, tcell k (fun h => h) h.c1, tcell k (fun h => h) h.c2, tcell k (fun h => h) h.c3, tcell k (fun h => h) h.b0⟩

theorem leave_mark {P : Program} {fn : Func} {R : Ending → World → Prop} {tmps : Array Value} {Db : Nat} {B : World} {v : Value} (hK : B.heap[Db]? = some (.deferred (some [])))
    (h : ∀ C, C = B.putObj Db (.deferred none) → Turns (fun b => b = Db) B C → (results fn tmps).run P C = .ok v C ∧ R (.returned v) C) :
    bodyPostM Fence.wide 0 P fn R .ret { tmps := tmps, defers := [{ target := .collected Db, args := #[] }] } B := by
  obtain ⟨h1, h2⟩ := h _ rfl (Turns.putObj (T := fun b => b = Db) (Turns.refl _ _) (.inl rfl) _)
  exact ⟨by simp, .inl ⟨_, _, rfl, run_takeDeferred hK, _, h1, h2⟩⟩
def numsV (n : List Int) : Value := .agg (n.map (Value.int .i64)).toArray
def firstOf (l : List (List Int)) : List Int := l.headD [-1, -1, -1, -1, -1]

set_option maxHeartbeats 4000000 in
theorem first_any (S : Nat → Prop) (c : Choir) (boy : Nat) (x : Boy) (hx : c.B.boys[boy]? = some x) (W : World) (h : ChoirAt S W c) (hS : ∀ b, S b → b < W.heap.size)
    (hg : ∀ i, i < 5 → W.cell? ⟨1, i, none⟩ = some (.int .i64 (-1))) :
    Calls Tryd.prog 125 #[c.val, .int .i64 (boy : Int)] W fun e B => e = .returned (numsV (firstOf (c.B.truths boy x))) ∧ Kept W B := by
  refine callsIn_wide.1 (callsIn_of_wp_marks (n := 0) Tryd.func125 rfl trivial ?_ rfl)
  simp only [Tryd.ntmps125, List.size_toArray, List.length_cons, List.length_nil, Nat.reduceAdd, Nat.reduceSub, Array.replicate_succ, Array.replicate_zero, List.push_toArray, List.append_toArray, List.nil_append, List.cons_append]
  unfold Choir.val
  gi_wp2_with fail
  have hk0 : Kept W ((W.alloc (Obj.cells #[.slice (some ⟨c.bb, c.ob, none⟩) c.B.boys.length c.capb, .int .i64 c.B.weeks, .slice c.q c.B.trials.length c.capt, .map (some c.bm)] 84)).alloc (Obj.cells #[.int .i64 0, .int .i64 0, .int .i64 0, .int .i64 0, .int .i64 0] 90)) := kept_alloc (kept_alloc (kept_refl _) _) _
  have hz0 : ((W.alloc (Obj.cells #[.slice (some ⟨c.bb, c.ob, none⟩) c.B.boys.length c.capb, .int .i64 c.B.weeks, .slice c.q c.B.trials.length c.capt, .map (some c.bm)] 84)).alloc (Obj.cells #[.int .i64 0, .int .i64 0, .int .i64 0, .int .i64 0, .int .i64 0] 90)).heap.size = W.heap.size + 2 := by simp
  have r0 : ∀ i, i < 5 → ((W.alloc (Obj.cells #[.slice (some ⟨c.bb, c.ob, none⟩) c.B.boys.length c.capb, .int .i64 c.B.weeks, .slice c.q c.B.trials.length c.capt, .map (some c.bm)] 84)).alloc (Obj.cells #[.int .i64 0, .int .i64 0, .int .i64 0, .int .i64 0, .int .i64 0] 90)).cell? ⟨W.heap.size + 1, i, none⟩ = some (.int .i64 0) := by
    intro i hi
    match i, hi with
    | 0, _ => go_simp
    | 1, _ => go_simp
    | 2, _ => go_simp
    | 3, _ => go_simp
    | 4, _ => go_simp
  have rf : ∀ i, ((W.alloc (Obj.cells #[.slice (some ⟨c.bb, c.ob, none⟩) c.B.boys.length c.capb, .int .i64 c.B.weeks, .slice c.q c.B.trials.length c.capt, .map (some c.bm)] 84)).alloc (Obj.cells #[.int .i64 0, .int .i64 0, .int .i64 0, .int .i64 0, .int .i64 0] 90)).frozen? ⟨W.heap.size + 1, i, none⟩ = false := by intro i; go_simp
  generalize ((W.alloc (Obj.cells #[.slice (some ⟨c.bb, c.ob, none⟩) c.B.boys.length c.capb, .int .i64 c.B.weeks, .slice c.q c.B.trials.length c.capt, .map (some c.bm)] 84)).alloc (Obj.cells #[.int .i64 0, .int .i64 0, .int .i64 0, .int .i64 0, .int .i64 0] 90)) = W1 at *
  have hcall := truths_any c boy W1
  unfold Choir.val at hcall
  refine ⟨trivial, rfl, (callsIn_wide.2 hcall).mono ?_⟩
  rintro e W2 ⟨rfl, hk2, hz2, d0, d1, d2, d3, d4⟩
  rw [hz0] at d0 d1 d2 d3 d4 hz2
  gi_wp2_with fail
  have hat := truthsAt_of (h.turns (kturns hk0 (fun _ => False)) (fun _ _ h => h)) hk2 rfl d0 d1 d2 d3 d4
  have q0 : ∀ i, i < 5 → W2.cell? ⟨W.heap.size + 1, i, none⟩ = some (.int .i64 0) := fun i hi => kcell hk2 (r0 i hi)
  have qf : ∀ i, W2.frozen? ⟨W.heap.size + 1, i, none⟩ = false := fun i => ((kturns hk2 (fun _ => False)).frozen (by omega) (fun h => h)).trans (rf i)
  refine wpIn_range (gf := 144) (lb := #[.pointer (some ⟨W.heap.size + 2, 0, none⟩), .pointer (some ⟨W.heap.size + 2 + 1, 0, none⟩)]) rfl (enters_of Tryd.func144 (by kernel_rfl) rfl)
    (truths1_gives S c boy x hx (W.heap.size + 2) (W.heap.size + 2 + 1)) rfl (fun b => b = W.heap.size + 1) (by rintro b rfl; omega) ?hS (fun B hB => hat.kept hB)
    (fun k T' A => k = 0 ∧ T' = (fun b => b = W.heap.size + 1) ∧ (∀ i, i < 5 → A.cell? ⟨W.heap.size + 1, i, none⟩ = some (.int .i64 0)) ∧ (∀ i, A.frozen? ⟨W.heap.size + 1, i, none⟩ = false))
    (fun e k T' A => e = .ret ∧ T' = (fun b => b = W.heap.size + 1) ∧ ∃ n, n = firstOf (c.B.truths boy x) ∧ ∀ i v, n[i]? = some v → A.cell? ⟨W.heap.size + 1, i, none⟩ = some (.int .i64 v))
    ?hI ?hIx ⟨rfl, rfl, q0, qf⟩ ?round ?done ?stop
  case hS =>
    rintro b (hb | rfl | rfl)
    · have := hS b hb
      exact ⟨by omega, by omega⟩
    · exact ⟨by omega, by omega⟩
    · exact ⟨by omega, by omega⟩
  case hI =>
    rintro k T' A B ⟨rfl, rfl, h1, h2⟩ hq
    have hb : W.heap.size + 1 < A.heap.size := Go.Ai.lt_of_cell (h1 0 (by omega))
    exact ⟨rfl, rfl, fun i hi => (hq.cell hb (.inr rfl)).trans (h1 i hi), fun i => (hq.frozen hb (.inr rfl)).trans (h2 i)⟩
  case hIx =>
    rintro e k T' A B ⟨rfl, rfl, n, hn, h1⟩ hq
    exact ⟨rfl, rfl, n, hn, fun i v hv => (hq.cell (Go.Ai.lt_of_cell (h1 i v hv)) (.inr rfl)).trans (h1 i v hv)⟩
  case round =>
    rintro l k n T' A hn hE hz hTA hl hlA hnl ⟨rfl, rfl, h1, h2⟩
    obtain ⟨n0, n1, n2, n3, n4, rfl⟩ := truths_len (List.mem_of_getElem? hn)
    simp only [encT, List.map_cons, List.map_nil, List.append_toArray, List.cons_append, List.nil_append, Choir.k0, Choir.k2, Choir.m]
    gi_wp2_with fail
    refine ⟨_, Ext.refl _ _, (Turns.refl _ _).alloc _, ?_⟩
    intro A2 hA2 hs2 r hr
    have z1 : W.heap.size + 1 < A.heap.size := Go.Ai.lt_of_cell (h1 0 (by omega))
    have e5 := tcell hA2 (by omega) (show (A.alloc (Obj.cells #[.slice (some ⟨c.bb, c.ob, none⟩) c.B.boys.length c.capb, .int .i64 c.B.weeks, .slice c.q c.B.trials.length c.capt, .map (some c.bm), .int .i64 (boy : Int), .int .i64 n0, .int .i64 n1, .int .i64 n2, .int .i64 n3, .int .i64 n4] 92)).cell? ⟨A.heap.size, 5, none⟩ = some (.int .i64 n0) by go_simp)
    have e6 := tcell hA2 (by omega) (show (A.alloc (Obj.cells #[.slice (some ⟨c.bb, c.ob, none⟩) c.B.boys.length c.capb, .int .i64 c.B.weeks, .slice c.q c.B.trials.length c.capt, .map (some c.bm), .int .i64 (boy : Int), .int .i64 n0, .int .i64 n1, .int .i64 n2, .int .i64 n3, .int .i64 n4] 92)).cell? ⟨A.heap.size, 6, none⟩ = some (.int .i64 n1) by go_simp)
    have e7 := tcell hA2 (by omega) (show (A.alloc (Obj.cells #[.slice (some ⟨c.bb, c.ob, none⟩) c.B.boys.length c.capb, .int .i64 c.B.weeks, .slice c.q c.B.trials.length c.capt, .map (some c.bm), .int .i64 (boy : Int), .int .i64 n0, .int .i64 n1, .int .i64 n2, .int .i64 n3, .int .i64 n4] 92)).cell? ⟨A.heap.size, 7, none⟩ = some (.int .i64 n2) by go_simp)
    have e8 := tcell hA2 (by omega) (show (A.alloc (Obj.cells #[.slice (some ⟨c.bb, c.ob, none⟩) c.B.boys.length c.capb, .int .i64 c.B.weeks, .slice c.q c.B.trials.length c.capt, .map (some c.bm), .int .i64 (boy : Int), .int .i64 n0, .int .i64 n1, .int .i64 n2, .int .i64 n3, .int .i64 n4] 92)).cell? ⟨A.heap.size, 8, none⟩ = some (.int .i64 n3) by go_simp)
    have e9 := tcell hA2 (by omega) (show (A.alloc (Obj.cells #[.slice (some ⟨c.bb, c.ob, none⟩) c.B.boys.length c.capb, .int .i64 c.B.weeks, .slice c.q c.B.trials.length c.capt, .map (some c.bm), .int .i64 (boy : Int), .int .i64 n0, .int .i64 n1, .int .i64 n2, .int .i64 n3, .int .i64 n4] 92)).cell? ⟨A.heap.size, 9, none⟩ = some (.int .i64 n4) by go_simp)
    have hk1 : Kept A (A.alloc (Obj.cells #[.slice (some ⟨c.bb, c.ob, none⟩) c.B.boys.length c.capb, .int .i64 c.B.weeks, .slice c.q c.B.trials.length c.capt, .map (some c.bm), .int .i64 (boy : Int), .int .i64 n0, .int .i64 n1, .int .i64 n2, .int .i64 n3, .int .i64 n4] 92)) := kept_alloc (kept_refl _) _
    have p0 := tcell hA2 (by omega) (kcell hk1 (h1 0 (by omega)))
    have p1 := tcell hA2 (by omega) (kcell hk1 (h1 1 (by omega)))
    have p2 := tcell hA2 (by omega) (kcell hk1 (h1 2 (by omega)))
    have p3 := tcell hA2 (by omega) (kcell hk1 (h1 3 (by omega)))
    have p4 := tcell hA2 (by omega) (kcell hk1 (h1 4 (by omega)))
    have pf : ∀ i, A2.frozen? ⟨W.heap.size + 1, i, none⟩ = false := fun i => (hA2.frozen (by simp; omega) (by omega)).trans (((kturns hk1 (fun _ => False)).frozen z1 (fun h => h)).trans (h2 i))
    have f0 := pf 0
    have f1 := pf 1
    have f2 := pf 2
    have f3 := pf 3
    have f4 := pf 4
    clear hA2 hr hk1 pf h1 h2
    gi_wp2_with fail
    have hf : firstOf (c.B.truths boy x) = [n0, n1, n2, n3, n4] := by
      unfold firstOf
      rw [List.headD_eq_head?_getD, List.head?_eq_getElem?, hn]; rfl
    refine ⟨fun b => b = W.heap.size + 1, Ext.refl _ _, ?_, ?_, rfl, rfl, ?_⟩
    · rintro b rfl
      simp; omega
    · exact ((((((Turns.refl (fun b => b = W.heap.size + 1) A2).setCell rfl _ _).setCell rfl _ _).setCell rfl _ _).setCell rfl _ _).setCell rfl _ _)
    · rw [hf]
      intro i v hv
      have z2 : W.heap.size + 1 < A2.heap.size := by omega
      match i, hv with
      | 0, hv => cases hv; go_simp
      | 1, hv => cases hv; go_simp
      | 2, hv => cases hv; go_simp
      | 3, hv => cases hv; go_simp
      | 4, hv => cases hv; go_simp
  case done =>
    rintro Db T' B hDb hnD hE hTB ⟨hl, rfl, h1, h2⟩ hK
    have hnil : c.B.truths boy x = [] := List.eq_nil_of_length_eq_zero hl
    have hkB : Below W.heap.size W B := Below.trans (kept_trans hk0 hk2) (hTB.toBelow (n := W.heap.size) (by rintro b rfl; omega) (by omega))
    have hzR := Go.Ai.lt_of_cell (h1 0 (by omega))
    have p0 := h1 0 (by omega)
    have p1 := h1 1 (by omega)
    have p2 := h1 2 (by omega)
    have p3 := h1 3 (by omega)
    have p4 := h1 4 (by omega)
    have f0 := h2 0
    have f1 := h2 1
    have f2 := h2 2
    have f3 := h2 3
    have f4 := h2 4
    have z0 := Go.Ai.lt_of_cell (hg 0 (by omega))
    have gl : ∀ i, i < 5 → B.cell? ⟨1, i, none⟩ = some (.int .i64 (-1)) := fun i hi => tcell hTB (by omega) (kcell hk2 (kcell hk0 (hg i hi)))
    have g0 := gl 0 (by omega)
    have g1 := gl 1 (by omega)
    have g2 := gl 2 (by omega)
    have g3 := gl 3 (by omega)
    have g4 := gl 4 (by omega)
    clear hg gl h1 h2 r0 rf q0 qf
    gi_wp2_with fail
    have hT5 : Turns (fun b => b = W.heap.size + 1) B (((((B.setCell ⟨W.heap.size + 1, 0, none⟩ (.int .i64 (-1))).setCell ⟨W.heap.size + 1, 1, none⟩ (.int .i64 (-1))).setCell ⟨W.heap.size + 1, 2, none⟩ (.int .i64 (-1))).setCell ⟨W.heap.size + 1, 3, none⟩ (.int .i64 (-1))).setCell ⟨W.heap.size + 1, 4, none⟩ (.int .i64 (-1))) := ((((((Turns.refl (fun b => b = W.heap.size + 1) B).setCell rfl _ _).setCell rfl _ _).setCell rfl _ _).setCell rfl _ _).setCell rfl _ _)
    have hc5 : ∀ i, i < 5 → (((((B.setCell ⟨W.heap.size + 1, 0, none⟩ (.int .i64 (-1))).setCell ⟨W.heap.size + 1, 1, none⟩ (.int .i64 (-1))).setCell ⟨W.heap.size + 1, 2, none⟩ (.int .i64 (-1))).setCell ⟨W.heap.size + 1, 3, none⟩ (.int .i64 (-1))).setCell ⟨W.heap.size + 1, 4, none⟩ (.int .i64 (-1))).cell? ⟨W.heap.size + 1, i, none⟩ = some (.int .i64 (-1)) := by
      intro i hi
      match i, hi with
      | 0, _ => go_simp
      | 1, _ => go_simp
      | 2, _ => go_simp
      | 3, _ => go_simp
      | 4, _ => go_simp
    generalize (((((B.setCell ⟨W.heap.size + 1, 0, none⟩ (.int .i64 (-1))).setCell ⟨W.heap.size + 1, 1, none⟩ (.int .i64 (-1))).setCell ⟨W.heap.size + 1, 2, none⟩ (.int .i64 (-1))).setCell ⟨W.heap.size + 1, 3, none⟩ (.int .i64 (-1))).setCell ⟨W.heap.size + 1, 4, none⟩ (.int .i64 (-1))) = B5 at *
    have hK5 := (hT5.block Db (Array.getElem?_eq_some_iff.1 hK).1 hnD).trans hK
    refine leave_mark (v := numsV [-1, -1, -1, -1, -1]) hK5 fun C hC hCT => ?_
    have q0 := tcell hCT (Ne.symm hnD) (hc5 0 (by omega))
    have q1 := tcell hCT (Ne.symm hnD) (hc5 1 (by omega))
    have q2 := tcell hCT (Ne.symm hnD) (hc5 2 (by omega))
    have q3 := tcell hCT (Ne.symm hnD) (hc5 3 (by omega))
    have q4 := tcell hCT (Ne.symm hnD) (hc5 4 (by omega))
    refine ⟨by simp [results, Tryd.results125, go_sem, numsV, q0, q1, q2, q3, q4], rfl, ?_⟩
    exact Below.trans (Below.trans hkB (hT5.toBelow (by rintro b rfl; omega) (by have := hkB.size; omega))) (hCT.toBelow (by rintro b rfl; omega) (by have := hkB.size; have := hT5.size; omega))
  case stop =>
    rintro Db e k T' B hDb hnD hE hTB hk ⟨rfl, rfl, n, hn, h1⟩ hK
    gi_wp2_with fail
    obtain ⟨n0, n1, n2, n3, n4, hne⟩ : ∃ n0 n1 n2 n3 n4, firstOf (c.B.truths boy x) = [n0, n1, n2, n3, n4] := by
      unfold firstOf
      cases ht : c.B.truths boy x with
      | nil => exact ⟨_, _, _, _, _, rfl⟩
      | cons y ys => exact truths_len (by rw [ht]; exact List.mem_cons_self)
    have hkB : Below W.heap.size W B := Below.trans (kept_trans hk0 hk2) (hTB.toBelow (n := W.heap.size) (by rintro b rfl; omega) (by omega))
    rw [hn, hne] at h1
    rw [hne]
    refine leave_mark (v := numsV [n0, n1, n2, n3, n4]) hK fun C hC hCT => ?_
    have q0 := tcell hCT (Ne.symm hnD) (h1 0 _ rfl)
    have q1 := tcell hCT (Ne.symm hnD) (h1 1 _ rfl)
    have q2 := tcell hCT (Ne.symm hnD) (h1 2 _ rfl)
    have q3 := tcell hCT (Ne.symm hnD) (h1 3 _ rfl)
    have q4 := tcell hCT (Ne.symm hnD) (h1 4 _ rfl)
    refine ⟨by simp [results, Tryd.results125, go_sem, numsV, q0, q1, q2, q3, q4], rfl, ?_⟩
    exact Below.trans hkB (hCT.toBelow (by rintro b rfl; omega) (by have := hkB.size; omega))
end Go.Proofs.YtbhgicggpkibeaaDoor
