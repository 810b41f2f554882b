import Derived.Test.YtbhgicggpkibeaaDoorVMa
set_option linter.all false
set_option linter.all false
namespace Go.Proofs.YtbhgicggpkibeaaDoor
open Go.RowKit Go.Sort Go.Rg
set_option maxRecDepth 100000

theorem eq_no (k : Nat) (n1 n2 n3 n4 : Int) (w : World) : (Op.equalIn 10000 90 (.agg #[.int .i64 (k : Int), .int .i64 n1, .int .i64 n2, .int .i64 n3, .int .i64 n4]) (.agg #[.int .i64 (-1), .int .i64 (-1), .int .i64 (-1), .int .i64 (-1), .int .i64 (-1)])).run Tryd.prog w = .ok false w := by kernel_rfl
theorem eq_yes (w : World) : (Op.equalIn 10000 90 (.agg #[.int .i64 (-1), .int .i64 (-1), .int .i64 (-1), .int .i64 (-1), .int .i64 (-1)]) (.agg #[.int .i64 (-1), .int .i64 (-1), .int .i64 (-1), .int .i64 (-1), .int .i64 (-1)])).run Tryd.prog w = .ok true w := by kernel_rfl
attribute [local go_sem] eq_no eq_yes
theorem gen_rng {lo hi : Nat → Int} {boy : Int} {lt : List Trial} {kp : List Int → Bool} : ∀ (d : Nat) (pre x : List Int), x ∈ gen lo hi boy lt kp d pre → Rng lo hi pre → Rng lo hi x
  | 0, pre, x, h, hr => by
    unfold gen at h
    split at h
    · simp at h; rw [h]; exact hr
    · cases h
  | d + 1, pre, x, h, hr => by
    unfold gen at h
    simp only [List.mem_flatten, List.mem_map] at h
    obtain ⟨l, ⟨m, hm, rfl⟩, hx⟩ := h
    split at hx
    · cases hx
    · have := List.mem_range.1 hm
      exact gen_rng d _ x hx (hr.snoc (by omega) (by omega))
theorem truths_rng {B : Book} {boy : Nat} {x : Boy} {n : List Int} (h : n ∈ B.truths boy x) : Rng x.lo x.hi n := gen_rng 5 [] n h (fun i v h => by simp at h)
theorem first_cases {B : Book} {boy : Nat} {x : Boy} (hx : x.okB = true) : (B.truths boy x = [] ∧ firstOf (B.truths boy x) = [-1, -1, -1, -1, -1]) ∨ (B.truths boy x ≠ [] ∧ ∃ (k : Nat) (n1 n2 n3 n4 : Int), firstOf (B.truths boy x) = [(k : Int), n1, n2, n3, n4]) := by
  cases ht : B.truths boy x with
  | nil => exact .inl ⟨rfl, rfl⟩
  | cons y ys =>
    refine .inr ⟨by simp, ?_⟩
    have hm : y ∈ B.truths boy x := by rw [ht]; exact List.mem_cons_self
    obtain ⟨n0, n1, n2, n3, n4, rfl⟩ := truths_len hm
    have h0 := truths_rng hm 0 n0 rfl
    have h1 := (spanAt_ok x hx).1 0 (by omega)
    obtain ⟨k, rfl⟩ := Int.eq_ofNat_of_zero_le (show 0 ≤ n0 by omega)
    exact ⟨k, n1, n2, n3, n4, rfl⟩

def Nothing (W : World) : Prop := ∀ i, i < 5 → W.cell? ⟨1, i, none⟩ = some (.int .i64 (-1))
theorem Nothing.kept {A B : World} (h : Nothing A) (k : Kept A B) : Nothing B := fun i hi => kcell k (h i hi)
def CanP (B : Book) (r : Bool) : Prop := r = true ↔ ∀ (boy : Nat) (x : Boy), B.boys[boy]? = some x → B.truths boy x ≠ []

set_option maxHeartbeats 4000000 in
theorem canBeTrue_any (S : Nat → Prop) (c : Choir) (W : World) (h : ChoirAt S W c) (hS : ∀ b, S b → b < W.heap.size) (hg : Nothing W) :
    Calls Tryd.prog 94 #[c.val] W (ToldB (CanP c.B) W) := by
  have hlen : 1 ≤ c.B.boys.length ∧ c.B.boys.length ≤ 4 := by
    have := h.ok
    simp only [Book.okB, inB, Bool.and_eq_true, decide_eq_true_eq] at this
    omega
  have hbo : ∀ (i : Nat) (x : Boy), c.B.boys[i]? = some x → x.okB = true := by
    have := h.ok
    simp only [Book.okB, Bool.and_eq_true, List.all_eq_true] at this
    exact fun i x hx => this.1.2 x (List.mem_of_getElem? hx)
  unfold Choir.val
  go_enter Tryd.func94, Tryd.ntmps94
  go_wp2_with fail
  have hk0 : Kept W (W.alloc (Obj.cells #[.slice (some ⟨c.bb, c.ob, none⟩) c.B.boys.length c.capb, .int .i64 c.B.weeks, .slice c.q c.B.trials.length c.capt, .map (some c.bm)] 84)) := kept_alloc (kept_refl _) _
  have hz0 : (W.alloc (Obj.cells #[.slice (some ⟨c.bb, c.ob, none⟩) c.B.boys.length c.capb, .int .i64 c.B.weeks, .slice c.q c.B.trials.length c.capt, .map (some c.bm)] 84)).heap.size = W.heap.size + 1 := by simp
  have c0 : (W.alloc (Obj.cells #[.slice (some ⟨c.bb, c.ob, none⟩) c.B.boys.length c.capb, .int .i64 c.B.weeks, .slice c.q c.B.trials.length c.capt, .map (some c.bm)] 84)).cell? ⟨W.heap.size, 0, none⟩ = some (.slice (some ⟨c.bb, c.ob, none⟩) c.B.boys.length c.capb) := by go_simp
  have c1 : (W.alloc (Obj.cells #[.slice (some ⟨c.bb, c.ob, none⟩) c.B.boys.length c.capb, .int .i64 c.B.weeks, .slice c.q c.B.trials.length c.capt, .map (some c.bm)] 84)).cell? ⟨W.heap.size, 1, none⟩ = some (.int .i64 c.B.weeks) := by go_simp
  have c2 : (W.alloc (Obj.cells #[.slice (some ⟨c.bb, c.ob, none⟩) c.B.boys.length c.capb, .int .i64 c.B.weeks, .slice c.q c.B.trials.length c.capt, .map (some c.bm)] 84)).cell? ⟨W.heap.size, 2, none⟩ = some (.slice c.q c.B.trials.length c.capt) := by go_simp
  have c3 : (W.alloc (Obj.cells #[.slice (some ⟨c.bb, c.ob, none⟩) c.B.boys.length c.capb, .int .i64 c.B.weeks, .slice c.q c.B.trials.length c.capt, .map (some c.bm)] 84)).cell? ⟨W.heap.size, 3, none⟩ = some (.map (some c.bm)) := by go_simp
  generalize W.alloc (Obj.cells #[.slice (some ⟨c.bb, c.ob, none⟩) c.B.boys.length c.capb, .int .i64 c.B.weeks, .slice c.q c.B.trials.length c.capt, .map (some c.bm)] 84) = V0 at *
  go_loopw [8] (fun i V => ∃ j : Nat, j ≤ c.B.boys.length ∧ i = .int .i64 j ∧ (∀ (boy : Nat) (x : Boy), boy < j → c.B.boys[boy]? = some x → c.B.truths boy x ≠ []) ∧ Kept V0 V) (fun i V => c.B.boys.length - (intOf i).toNat)
  case atStart => exact ⟨0, by omega, rfl, fun boy x hb => by omega, kept_refl _⟩
  case round =>
    obtain ⟨j, hj, rfl, hno, hV⟩ := hrel
    have HNO := Lib.hid hno; clear hno
    have hkV := kept_trans hk0 hV
    by_cases hlt : j < c.B.boys.length
    · have hltI : (j : Int) < c.B.boys.length := by omega
      have hget : c.B.boys[j]? = some c.B.boys[j] := List.getElem?_eq_getElem hlt
      generalize c.B.boys[j] = x at *
      have d0 : ∀ d os, (grow (redrawn wr d) os).cell? ⟨W.heap.size, 0, none⟩ = some (.slice (some ⟨c.bb, c.ob, none⟩) c.B.boys.length c.capb) := cell_regrown (kcell hV c0)
      have d1 : ∀ d os, (grow (redrawn wr d) os).cell? ⟨W.heap.size, 1, none⟩ = some (.int .i64 c.B.weeks) := cell_regrown (kcell hV c1)
      have d2 : ∀ d os, (grow (redrawn wr d) os).cell? ⟨W.heap.size, 2, none⟩ = some (.slice c.q c.B.trials.length c.capt) := cell_regrown (kcell hV c2)
      have d3 : ∀ d os, (grow (redrawn wr d) os).cell? ⟨W.heap.size, 3, none⟩ = some (.map (some c.bm)) := cell_regrown (kcell hV c3)
      have g0 : ∀ d os, (grow (redrawn wr d) os).cell? ⟨1, 0, none⟩ = some (.int .i64 (-1)) := cell_regrown ((hg.kept hkV) 0 (by omega))
      have g1 : ∀ d os, (grow (redrawn wr d) os).cell? ⟨1, 1, none⟩ = some (.int .i64 (-1)) := cell_regrown ((hg.kept hkV) 1 (by omega))
      have g2 : ∀ d os, (grow (redrawn wr d) os).cell? ⟨1, 2, none⟩ = some (.int .i64 (-1)) := cell_regrown ((hg.kept hkV) 2 (by omega))
      have g3 : ∀ d os, (grow (redrawn wr d) os).cell? ⟨1, 3, none⟩ = some (.int .i64 (-1)) := cell_regrown ((hg.kept hkV) 3 (by omega))
      have g4 : ∀ d os, (grow (redrawn wr d) os).cell? ⟨1, 4, none⟩ = some (.int .i64 (-1)) := cell_regrown ((hg.kept hkV) 4 (by omega))
      have hca : ∀ d os, Calls Tryd.prog 125 #[.agg #[.slice (some ⟨c.bb, c.ob, none⟩) c.B.boys.length c.capb, .int .i64 c.B.weeks, .slice c.q c.B.trials.length c.capt, .map (some c.bm)], .int .i64 (j : Int)] (grow (redrawn wr d) os) fun e w'' => e = .returned (numsV (firstOf (c.B.truths j x))) ∧ ∃ p : Regrown, w'' = grow (redrawn wr p.d) p.os := by
        intro d os
        have hkx := kept_trans hkV (below_regrown wr d os)
        exact Calls.regrown_of (first_any S c j x hget _ (h.turns (kturns hkx (fun _ => False)) (fun _ _ h => h)) (fun b hb => Nat.lt_of_lt_of_le (hS b hb) hkx.size) (hg.kept hkx))
      rcases first_cases (B := c.B) (boy := j) (hbo j x hget) with ⟨ht, hf⟩ | ⟨ht, k, n1, n2, n3, n4, hf⟩
      · rw [hf] at hca
        simp only [numsV, List.map_cons, List.map_nil] at hca
        have HCA := Lib.hid hca; clear hca
        have hey := eq_yes
        have HP : Hid (¬ ∀ (boy : Nat) (x : Boy), c.B.boys[boy]? = some x → c.B.truths boy x ≠ []) := Lib.hid (fun hh => hh j x hget ht)
        clear hget hbo hf ht
        go_wp2_with fail
        refine wp_region_quiet_below (by kernel_rfl) (by kernel_rfl) ?_
        repeat (any_goals (quiet_step (first | exact HCA.out _ _)))
        refine wpQuiet_nil ?_
        intro _ hw'
        obtain ⟨⟨dq, osq⟩, hw''⟩ := hw'
        subst hw''
        have hkq := kept_trans hkV (below_regrown wr dq osq)
        clear d0 d1 d2 d3 g0 g1 g2 g3 g4
        go_wp2_with fail
        go_ret
        exact ⟨false, (show CanP _ _ from ⟨(fun h => by cases h), (fun h => absurd h HP.out)⟩), rfl, hkq⟩
      · rw [hf] at hca
        simp only [numsV, List.map_cons, List.map_nil] at hca
        have HCA := Lib.hid hca; clear hca
        have HNEW : Hid (∀ (boy : Nat) (x : Boy), boy < j + 1 → c.B.boys[boy]? = some x → c.B.truths boy x ≠ []) := Lib.hid (by
          intro boy y hb hg2
          by_cases e : boy = j
          · subst e; rw [hget] at hg2; cases hg2; exact ht
          · exact HNO.out boy y (by omega) hg2)
        clear hget hbo hf ht
        go_wp2_with fail
        refine wp_region_quiet_below (by kernel_rfl) (by kernel_rfl) ?_
        repeat (any_goals (quiet_step (first | exact HCA.out _ _)))
        refine wpQuiet_nil ?_
        intro _ hw'
        obtain ⟨⟨dq, osq⟩, hw''⟩ := hw'
        subst hw''
        have hkq := kept_trans hV (below_regrown wr dq osq)
        clear d0 d1 d2 d3 g0 g1 g2 g3 g4
        go_wp2_with fail
        go_roundw
        case rel => exact ⟨j + 1, by omega, by go_num, HNEW.out, hkq⟩
        case measure => simp [intOf]; omega
    · have hltI : ¬ (j : Int) < c.B.boys.length := by omega
      go_wp2_with fail
      go_ret
      exact ⟨true, (show CanP _ _ from ⟨(fun _ boy x hx => HNO.out boy x (by have := (List.getElem?_eq_some_iff.1 hx).1; omega) hx), (fun _ => rfl)⟩), rfl, hkV⟩
end Go.Proofs.YtbhgicggpkibeaaDoor
set_option linter.all false
namespace Go.Proofs.YtbhgicggpkibeaaDoor
open Go.RowKit Go.Sort Go.Rg
set_option maxRecDepth 100000

def zeroChoir : Value := .agg #[.slice none 0 0, .int .i64 0, .slice none 0 0, .map none]
def Can (B : Book) : Prop := ∀ (boy : Nat) (x : Boy), B.boys[boy]? = some x → B.truths boy x ≠ []
def OpenP (B : Book) (asked : Bool) (n0 : Nat) (W : World) (e : Ending) (C : World) : Prop :=
  ∃ v err, e = .returned (.tuple #[v, .int .i64 err]) ∧ Kept W C ∧
    ((err = 0 ∧ B.okB = true ∧ asked = true ∧ Can B ∧ ∃ c : Choir, c.B = B ∧ v = c.val ∧ ChoirAt (fun b => b < C.heap.size ∧ (b < n0 ∨ W.heap.size ≤ b)) C c) ∨
     (v = zeroChoir ∧ ((err = 20 ∧ B.okB = false) ∨ (err = 21 ∧ B.okB = true ∧ asked = false) ∨ (err = 22 ∧ B.okB = true ∧ asked = true ∧ ¬ Can B))))
def Book.val (B : Book) (p q : Option Addr) (cap capt : Nat) : Value := .agg #[.slice p B.boys.length cap, .int .i64 B.weeks, .slice q B.trials.length capt]

set_option maxHeartbeats 4000000 in
theorem open_any (p q : Option Addr) (cap capt : Nat) (B : Book) (asked : Bool) (Wb W : World) (hb : BookAt Wb p q cap capt B) (hkb : Kept Wb W) (hg : Nothing W) :
    Calls Tryd.prog 48 #[B.val p q cap capt, .bool asked] W (OpenP B asked Wb.heap.size W) := by
  have h := hb.kept hkb
  unfold Book.val
  have hk0 : Kept W ((W.alloc (Obj.cells #[.slice p B.boys.length cap, .int .i64 B.weeks, .slice q B.trials.length capt] 25)).alloc (Obj.cells #[.slice none 0 0, .int .i64 0, .slice none 0 0, .map none] 84)) := kept_alloc (kept_alloc (kept_refl _) _) _
  have hz0 : ((W.alloc (Obj.cells #[.slice p B.boys.length cap, .int .i64 B.weeks, .slice q B.trials.length capt] 25)).alloc (Obj.cells #[.slice none 0 0, .int .i64 0, .slice none 0 0, .map none] 84)).heap.size = W.heap.size + 2 := by simp
  have a0 : ((W.alloc (Obj.cells #[.slice p B.boys.length cap, .int .i64 B.weeks, .slice q B.trials.length capt] 25)).alloc (Obj.cells #[.slice none 0 0, .int .i64 0, .slice none 0 0, .map none] 84)).cell? ⟨W.heap.size, 0, none⟩ = some (.slice p B.boys.length cap) := by go_simp
  have a1 : ((W.alloc (Obj.cells #[.slice p B.boys.length cap, .int .i64 B.weeks, .slice q B.trials.length capt] 25)).alloc (Obj.cells #[.slice none 0 0, .int .i64 0, .slice none 0 0, .map none] 84)).cell? ⟨W.heap.size, 1, none⟩ = some (.int .i64 B.weeks) := by go_simp
  have a2 : ((W.alloc (Obj.cells #[.slice p B.boys.length cap, .int .i64 B.weeks, .slice q B.trials.length capt] 25)).alloc (Obj.cells #[.slice none 0 0, .int .i64 0, .slice none 0 0, .map none] 84)).cell? ⟨W.heap.size, 2, none⟩ = some (.slice q B.trials.length capt) := by go_simp
  have b0 : ((W.alloc (Obj.cells #[.slice p B.boys.length cap, .int .i64 B.weeks, .slice q B.trials.length capt] 25)).alloc (Obj.cells #[.slice none 0 0, .int .i64 0, .slice none 0 0, .map none] 84)).cell? ⟨W.heap.size + 1, 0, none⟩ = some (.slice none 0 0) := by go_simp
  have b1 : ((W.alloc (Obj.cells #[.slice p B.boys.length cap, .int .i64 B.weeks, .slice q B.trials.length capt] 25)).alloc (Obj.cells #[.slice none 0 0, .int .i64 0, .slice none 0 0, .map none] 84)).cell? ⟨W.heap.size + 1, 1, none⟩ = some (.int .i64 0) := by go_simp
  have b2 : ((W.alloc (Obj.cells #[.slice p B.boys.length cap, .int .i64 B.weeks, .slice q B.trials.length capt] 25)).alloc (Obj.cells #[.slice none 0 0, .int .i64 0, .slice none 0 0, .map none] 84)).cell? ⟨W.heap.size + 1, 2, none⟩ = some (.slice none 0 0) := by go_simp
  have b3 : ((W.alloc (Obj.cells #[.slice p B.boys.length cap, .int .i64 B.weeks, .slice q B.trials.length capt] 25)).alloc (Obj.cells #[.slice none 0 0, .int .i64 0, .slice none 0 0, .map none] 84)).cell? ⟨W.heap.size + 1, 3, none⟩ = some (.map none) := by go_simp
  have bf : ∀ i, ((W.alloc (Obj.cells #[.slice p B.boys.length cap, .int .i64 B.weeks, .slice q B.trials.length capt] 25)).alloc (Obj.cells #[.slice none 0 0, .int .i64 0, .slice none 0 0, .map none] 84)).frozen? ⟨W.heap.size + 1, i, none⟩ = false := by intro i; go_simp
  go_enter Tryd.func48, Tryd.ntmps48
  go_wp2_with fail
  generalize ((W.alloc (Obj.cells #[.slice p B.boys.length cap, .int .i64 B.weeks, .slice q B.trials.length capt] 25)).alloc (Obj.cells #[.slice none 0 0, .int .i64 0, .slice none 0 0, .map none] 84)) = W1 at *
  refine (check_any p q cap capt B _ (h.kept hk0)).mono ?_
  rintro e W2 ⟨rfl, hk2⟩
  have hkW2 := kept_trans hk0 hk2
  have rs : ∀ (V : World) (v0 v1 v2 v3 : Value), Kept W1 V →
      ∀ X, X = ((((V.setCell ⟨W.heap.size + 1, 0, none⟩ v0).setCell ⟨W.heap.size + 1, 1, none⟩ v1).setCell ⟨W.heap.size + 1, 2, none⟩ v2).setCell ⟨W.heap.size + 1, 3, none⟩ v3) →
      Kept W X ∧ X.cell? ⟨W.heap.size + 1, 0, none⟩ = some v0 ∧ X.cell? ⟨W.heap.size + 1, 1, none⟩ = some v1 ∧ X.cell? ⟨W.heap.size + 1, 2, none⟩ = some v2 ∧ X.cell? ⟨W.heap.size + 1, 3, none⟩ = some v3 ∧ X.heap.size = V.heap.size ∧ Turns (fun b => b = W.heap.size + 1) V X := by
    intro V v0 v1 v2 v3 hV X hX
    have c0 := kcell hV b0
    have c1 := kcell hV b1
    have c2 := kcell hV b2
    have c3 := kcell hV b3
    have hz := hV.size
    have hT : Turns (fun b => b = W.heap.size + 1) V X := by
      rw [hX]; exact ((((Turns.refl (fun b => b = W.heap.size + 1) V).setCell rfl _ _).setCell rfl _ _).setCell rfl _ _).setCell rfl _ _
    refine ⟨Below.trans (kept_trans hk0 hV) (hT.toBelow (n := W.heap.size) (by rintro b rfl; omega) (by omega)), ?_, ?_, ?_, ?_, by rw [hX]; simp, hT⟩
    · rw [hX, cell_set_ne (by omega), cell_set_ne (by omega), cell_set_ne (by omega), cell_set_eq c0]
    · rw [hX, cell_set_ne (by omega), cell_set_ne (by omega)]; exact cell_set_eq ((cell_set_ne (by omega)).trans c1)
    · rw [hX, cell_set_ne (by omega)]; exact cell_set_eq ((cell_set_ne (by omega)).trans ((cell_set_ne (by omega)).trans c2))
    · rw [hX]; exact cell_set_eq ((cell_set_ne (by omega)).trans ((cell_set_ne (by omega)).trans ((cell_set_ne (by omega)).trans c3)))
  have RS := Lib.hid rs; clear rs
  have d0 := kcell hk2 a0
  have d1 := kcell hk2 a1
  have d2 := kcell hk2 a2
  have e0 := kcell hk2 b0
  have e1 := kcell hk2 b1
  have e2 := kcell hk2 b2
  have e3 := kcell hk2 b3
  have ef : ∀ i, W2.frozen? ⟨W.heap.size + 1, i, none⟩ = false := fun i => ((kturns hk2 (fun _ => False)).frozen (by omega) (fun h => h)).trans (bf i)
  have ef0 := ef 0
  have ef1 := ef 1
  have ef2 := ef 2
  have ef3 := ef 3
  have HBF := Lib.hid bf; clear bf ef
  have HA := Lib.hid (And.intro a0 (And.intro a1 a2)); clear a0 a1 a2
  have HBB := Lib.hid (And.intro b0 (And.intro b1 (And.intro b2 b3))); clear b0 b1 b2 b3
  rcases hok : B.okB with _ | _
  · have HK := Lib.hid hok; clear hok
    simp only [Bool.false_eq_true, if_false]
    go_wp2_with fail
    obtain ⟨hkX, r0, r1, r2, r3, hzX, _⟩ := RS.out W2 (.slice none 0 0) (.int .i64 0) (.slice none 0 0) (.map none) hk2 _ rfl
    refine bodyPost_ret (v := .tuple #[zeroChoir, .int .i64 20]) (by simp [results, Tryd.results48, go_sem, r0, r1, r2, r3, zeroChoir]) rfl ?_
    exact ⟨_, _, rfl, hkX, .inr ⟨rfl, .inl ⟨rfl, HK.out⟩⟩⟩
  · have HK := Lib.hid hok; clear hok
    simp only [if_true]
    cases asked with
    | false =>
      go_wp2_with fail
      obtain ⟨hkX, r0, r1, r2, r3, hzX, _⟩ := RS.out W2 (.slice none 0 0) (.int .i64 0) (.slice none 0 0) (.map none) hk2 _ rfl
      refine bodyPost_ret (v := .tuple #[zeroChoir, .int .i64 21]) (by simp [results, Tryd.results48, go_sem, r0, r1, r2, r3, zeroChoir]) rfl ?_
      exact ⟨_, _, rfl, hkX, .inr ⟨rfl, .inr (.inl ⟨rfl, HK.out, rfl⟩)⟩⟩
    | true =>
      go_wp2_with fail
      refine (newChoir_any p q cap capt B Wb W2 HK.out hb (kept_trans hkb hkW2)).mono ?_
      rintro e W3 ⟨c, rfl, rfl, hk3, hat⟩
      have hk13 := kept_trans hk2 hk3
      have e0 := kcell hk3 e0
      have e1 := kcell hk3 e1
      have e2 := kcell hk3 e2
      have e3 := kcell hk3 e3
      have ef : ∀ i, W3.frozen? ⟨W.heap.size + 1, i, none⟩ = false := fun i => ((kturns hk13 (fun _ => False)).frozen (by omega) (fun h => h)).trans (HBF.out i)
      have ef0 := ef 0
      have ef1 := ef 1
      have ef2 := ef 2
      have ef3 := ef 3
      have hz3 := hk13.size
      unfold Choir.val
      go_wp2_with fail
      have hk4 : Kept W3 (W3.alloc (Obj.cells #[.slice (some ⟨c.bb, c.ob, none⟩) c.B.boys.length c.capb, .int .i64 c.B.weeks, .slice c.q c.B.trials.length c.capt, .map (some c.bm)] 84)) := kept_alloc (kept_refl _) _
      have hz4 : (W3.alloc (Obj.cells #[.slice (some ⟨c.bb, c.ob, none⟩) c.B.boys.length c.capb, .int .i64 c.B.weeks, .slice c.q c.B.trials.length c.capt, .map (some c.bm)] 84)).heap.size = W3.heap.size + 1 := by simp
      have s0 : (W3.alloc (Obj.cells #[.slice (some ⟨c.bb, c.ob, none⟩) c.B.boys.length c.capb, .int .i64 c.B.weeks, .slice c.q c.B.trials.length c.capt, .map (some c.bm)] 84)).cell? ⟨W3.heap.size, 0, none⟩ = some (.slice (some ⟨c.bb, c.ob, none⟩) c.B.boys.length c.capb) := by go_simp
      have s1 : (W3.alloc (Obj.cells #[.slice (some ⟨c.bb, c.ob, none⟩) c.B.boys.length c.capb, .int .i64 c.B.weeks, .slice c.q c.B.trials.length c.capt, .map (some c.bm)] 84)).cell? ⟨W3.heap.size, 1, none⟩ = some (.int .i64 c.B.weeks) := by go_simp
      have s2 : (W3.alloc (Obj.cells #[.slice (some ⟨c.bb, c.ob, none⟩) c.B.boys.length c.capb, .int .i64 c.B.weeks, .slice c.q c.B.trials.length c.capt, .map (some c.bm)] 84)).cell? ⟨W3.heap.size, 2, none⟩ = some (.slice c.q c.B.trials.length c.capt) := by go_simp
      have s3 : (W3.alloc (Obj.cells #[.slice (some ⟨c.bb, c.ob, none⟩) c.B.boys.length c.capb, .int .i64 c.B.weeks, .slice c.q c.B.trials.length c.capt, .map (some c.bm)] 84)).cell? ⟨W3.heap.size, 3, none⟩ = some (.map (some c.bm)) := by go_simp
      have hcan := canBeTrue_any (fun b => b < W3.heap.size ∧ (b < Wb.heap.size ∨ W2.heap.size ≤ b)) c (W3.alloc (Obj.cells #[.slice (some ⟨c.bb, c.ob, none⟩) c.B.boys.length c.capb, .int .i64 c.B.weeks, .slice c.q c.B.trials.length c.capt, .map (some c.bm)] 84)) (hat.turns (kturns hk4 (fun _ => False)) (fun _ _ h => h)) (fun b hb => by have := hb.1; omega) (hg.kept (kept_trans hkW2 (kept_trans hk3 hk4)))
      unfold Choir.val at hcan
      generalize (W3.alloc (Obj.cells #[.slice (some ⟨c.bb, c.ob, none⟩) c.B.boys.length c.capb, .int .i64 c.B.weeks, .slice c.q c.B.trials.length c.capt, .map (some c.bm)] 84)) = W4 at *
      refine hcan.mono ?_
      clear hcan
      rintro e W5 ⟨r, hr, rfl, hk5⟩
      have hk15 := kept_trans hk13 (kept_trans hk4 hk5)
      have e0 := kcell (kept_trans hk4 hk5) e0
      have e1 := kcell (kept_trans hk4 hk5) e1
      have e2 := kcell (kept_trans hk4 hk5) e2
      have e3 := kcell (kept_trans hk4 hk5) e3
      have ef : ∀ i, W5.frozen? ⟨W.heap.size + 1, i, none⟩ = false := fun i => ((kturns hk15 (fun _ => False)).frozen (by omega) (fun h => h)).trans (HBF.out i)
      have ef0 := ef 0
      have ef1 := ef 1
      have ef2 := ef 2
      have ef3 := ef 3
      have s0 := kcell hk5 s0
      have s1 := kcell hk5 s1
      have s2 := kcell hk5 s2
      have s3 := kcell hk5 s3
      have HC := Lib.hid hr; clear hr
      have HAT := Lib.hid (hat.turns (kturns (kept_trans hk4 hk5) (fun _ => False)) (fun _ _ h => h)); clear hat
      cases r with
      | false =>
        go_wp2_with fail
        obtain ⟨hkX, r0, r1, r2, r3, hzX, _⟩ := RS.out W5 (.slice none 0 0) (.int .i64 0) (.slice none 0 0) (.map none) hk15 _ rfl
        refine bodyPost_ret (v := .tuple #[zeroChoir, .int .i64 22]) (by simp [results, Tryd.results48, go_sem, r0, r1, r2, r3, zeroChoir]) rfl ?_
        exact ⟨_, _, rfl, hkX, .inr ⟨rfl, .inr (.inr ⟨rfl, HK.out, rfl, (fun h => by have := HC.out.2 h; cases this)⟩)⟩⟩
      | true =>
        go_wp2_with fail
        obtain ⟨hkX, r0, r1, r2, r3, hzX, hTX⟩ := RS.out W5 (.slice (some ⟨c.bb, c.ob, none⟩) c.B.boys.length c.capb) (.int .i64 c.B.weeks) (.slice c.q c.B.trials.length c.capt) (.map (some c.bm)) hk15 _ rfl
        refine bodyPost_ret (v := .tuple #[c.val, .int .i64 0]) (by simp [results, Tryd.results48, go_sem, r0, r1, r2, r3, Choir.val]) rfl ?_
        refine ⟨_, _, rfl, hkX, .inl ⟨rfl, HK.out, rfl, HC.out.1 rfl, c, rfl, rfl, ?_⟩⟩
        have hz2 := hk2.size
        have hz5 := (kept_trans hk4 hk5).size
        have hzb := hkb.size
        exact (HAT.out.turns hTX (fun b hb e => by have := hb.2; omega)).mono (fun b hb => ⟨by have := hb.1; omega, by have := hb.2; omega⟩)
end Go.Proofs.YtbhgicggpkibeaaDoor
