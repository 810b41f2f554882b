import Derived.Test.YtbhgicggpkibeaaDoorVY4
set_option linter.all false
set_option linter.all false
namespace Go.Proofs.YtbhgicggpkibeaaDoor
open Go.RowKit Go.Sort Go.Rg
set_option maxRecDepth 100000

theorem sung_is (w : World) (hL : Laid w) (hN : Nothing w) : Calls Tryd.prog 6 #[] w fun e w' => e = .returned (.bool true) ∧ Kept w w' := by
  obtain ⟨l0, l1⟩ := hL
  have I : Go.Ai.Inv 4 (fun b => ⟨b, 0, 0⟩) seTop.heap w := by
    refine Go.Ai.start_inv (G := 4) (by decide) (by decide) (by decide) fun b x hx => ?_
    simp only [seTop, List.mem_cons, List.not_mem_nil, or_false, Prod.mk.injEq] at hx
    rcases hx with ⟨rfl, rfl⟩ | ⟨rfl, rfl⟩ | ⟨rfl, rfl⟩ | ⟨rfl, rfl⟩
    · exact .inl rfl
    · refine .inr ⟨_, rfl, by decide, fun i v hv => ?_, Go.Ai.lt_of_cell (hN 0 (by omega))⟩
      match i, hv with
      | 0, hv => cases hv; exact hN 0 (by omega)
      | 1, hv => cases hv; exact hN 1 (by omega)
      | 2, hv => cases hv; exact hN 2 (by omega)
      | 3, hv => cases hv; exact hN 3 (by omega)
      | 4, hv => cases hv; exact hN 4 (by omega)
    · exact .inl rfl
    · obtain ⟨m0, m1, m2, m3, m4, m5, m6, m7, m8, m9⟩ := l1
      refine .inr ⟨_, rfl, by decide, fun i v hv => ?_, l0⟩
      match i, hv with
      | 0, hv => cases hv; exact m0
      | 1, hv => cases hv; exact m1
      | 2, hv => cases hv; exact m2
      | 3, hv => cases hv; exact m3
      | 4, hv => cases hv; exact m4
      | 5, hv => cases hv; exact m5
      | 6, hv => cases hv; exact m6
      | 7, hv => cases hv; exact m7
      | 8, hv => cases hv; exact m8
      | 9, hv => cases hv; exact m9
  refine (Go.Ai.calls_of_ent seTop_h rfl I rfl).mono fun e w' ⟨j2, he, A⟩ => ⟨?_, ⟨A.os, A.tape, A.output, A.size, A.heap⟩⟩
  rw [he]; rfl

section
variable {B : Book} {sb sb' : Nat → List Int → Bool} {n : Nat}
theorem mem_surelyL {boy : Nat} : boy ∈ surelyL B sb n ↔ boy < n ∧ surelyB B sb boy = true := by
  simp [surelyL]
theorem surelyL_lt {x : Nat} (h : x ∈ surelyL B sb n) : x < n := (mem_surelyL.1 h).1
theorem pairwise_incr {l : List Nat} (h : l.Pairwise (· < ·)) : incr l := fun i x y hx hy => by
  obtain ⟨hi, rfl⟩ := List.getElem?_eq_some_iff.1 hx
  obtain ⟨hj, rfl⟩ := List.getElem?_eq_some_iff.1 hy
  exact List.pairwise_iff_getElem.1 h i (i + 1) hi hj (by omega)
theorem surelyL_incr : incr (surelyL B sb n) := pairwise_incr (List.Pairwise.filter _ List.pairwise_lt_range)
end
theorem foldl_testBit (x : Nat) : ∀ (l : List Nat) (s : Nat), (l.foldl (fun s x => s ||| 2 ^ x) s).testBit x = (s.testBit x || decide (x ∈ l))
  | [], s => by simp
  | y :: l, s => by
    rw [List.foldl_cons, foldl_testBit x l, Nat.testBit_or, Nat.testBit_two_pow]
    by_cases h : y = x
    · subst h; simp
    · have h' : ¬ x = y := fun e => h e.symm
      simp [h, h']
theorem gath_testBit (x : Nat) (l : List Nat) : (gath l).testBit x = decide (x ∈ l) := by
  unfold gath
  rw [foldl_testBit]
  simp
theorem gath_lt {l : List Nat} (h : ∀ x ∈ l, x < 4) : gath l < 16 := by
  rw [show 16 = 2 ^ 4 from rfl]
  refine Nat.lt_pow_two_of_testBit _ fun i hi => ?_
  rw [gath_testBit, decide_eq_false_iff_not]
  intro hm
  have := h i hm
  omega
theorem gath_and {l m : List Nat} (h : ∀ x, x ∈ l → ¬ x ∈ m) : gath l &&& gath m = 0 := by
  refine Nat.eq_of_testBit_eq fun i => ?_
  rw [Nat.testBit_and, gath_testBit, gath_testBit, Nat.zero_testBit]
  by_cases hi : i ∈ l
  · simp [hi, h i hi]
  · simp [hi]
theorem gath_sub {l m : List Nat} (h : ∀ x, x ∈ l → x ∈ m) : gath l &&& gath m = gath l := by
  refine Nat.eq_of_testBit_eq fun i => ?_
  rw [Nat.testBit_and, gath_testBit, gath_testBit]
  by_cases hi : i ∈ l
  · simp [hi, h i hi]
  · simp [hi]
theorem and_bits : ∀ s : Nat, s < 16 → ∀ t : Nat, t < 16 → s &&& t = 0 → bits .and .i64 (s : Int) (t : Int) = 0 := by decide +kernel
theorem andNot_bits : ∀ s : Nat, s < 16 → ∀ t : Nat, t < 16 → s &&& t = s → bits .andNot .i64 (s : Int) (t : Int) = 0 := by decide +kernel

theorem span_hi (f : List Int → Int) (w : Int) : ∀ (l : List (List Int)) (a b : Int), (l.foldl (spanAcc fun n => (f n, true)) (a, b, true)).2.1 ≤ w ↔ b ≤ w ∧ ∀ n ∈ l, f n ≤ w
  | [], a, b => by simp
  | n :: l, a, b => by
    rw [List.foldl_cons]
    show (l.foldl _ (min a (f n), max b (f n), true)).2.1 ≤ w ↔ _
    rw [span_hi f w l]
    rw [List.forall_mem_cons]
    constructor
    · rintro ⟨h1, h2⟩; exact ⟨by omega, by omega, h2⟩
    · rintro ⟨h1, h2, h3⟩; exact ⟨by omega, h3⟩
theorem spanOf_hi (f : List Int → Int) (w : Int) (l : List (List Int)) (hl : l ≠ []) : (spanOf (fun n => (f n, true)) l).2.1 ≤ w ↔ ∀ n ∈ l, f n ≤ w := by
  cases l with
  | nil => exact absurd rfl hl
  | cons n l =>
    unfold spanOf
    rw [List.foldl_cons]
    show (l.foldl _ (f n, f n, true)).2.1 ≤ w ↔ _
    rw [span_hi f w l, List.forall_mem_cons]

theorem must_iff {B : Book} {boy : Nat} {x : Boy} (hx : B.boys[boy]? = some x) (week : Int) :
    boy ∈ surelyL B (fun _ => brokenB week) B.boys.length ↔ ∀ n ∈ B.truths boy x, n.getD 4 0 ≤ week := by
  rw [mem_surelyL]
  have hb : boy < B.boys.length := (List.getElem?_eq_some_iff.1 hx).1
  have e : surelyB B (fun _ => brokenB week) boy = (B.truths boy x).all (brokenB week) := by unfold surelyB; rw [hx]
  rw [e, List.all_eq_true]
  simp only [hb, true_and, brokenB, decide_eq_true_eq]
theorem must_more {B : Book} {week week' : Int} (h : week ≤ week') (boy : Nat) (hm : boy ∈ surelyL B (fun _ => brokenB week) B.boys.length) : boy ∈ surelyL B (fun _ => brokenB week') B.boys.length := by
  have hb := surelyL_lt hm
  have hx : B.boys[boy]? = some B.boys[boy] := List.getElem?_eq_getElem hb
  rw [must_iff hx] at hm ⊢
  exact fun n hn => Int.le_trans (hm n hn) h
theorem must_sings {B : Book} (hcan : Can B) {week note : Int} (boy : Nat) (hm : boy ∈ surelyL B (fun _ => brokenB week) B.boys.length) : ¬ boy ∈ surelyL B (singsN B week note note) B.boys.length := by
  have hb := surelyL_lt hm
  have hx : B.boys[boy]? = some B.boys[boy] := List.getElem?_eq_getElem hb
  rw [must_iff hx] at hm
  rw [mem_surelyL]
  rintro ⟨_, hs⟩
  simp only [surelyB, hx, List.all_eq_true] at hs
  obtain ⟨n, hn⟩ := List.exists_mem_of_ne_nil _ (hcan boy _ hx)
  have h1 := hm n hn
  have h2 := hs n hn
  simp only [singsN, singsB, Bool.and_eq_true, decide_eq_true_eq] at h2
  omega
end Go.Proofs.YtbhgicggpkibeaaDoor
