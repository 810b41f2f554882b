/- How the row's arguments read as a book, and what the laid variables hold. No conditions. -/
import Derived.Test.YtchgkfnodcbpiaaDoorVG
import Derived.Test.YtchgkfnodcbpiaaDoorST
import Derived.Test.YtchgkfnodcbpiaaDoorVF
import Derived.Test.YtchgkfnodcbpiaaDoorCards
import Derived.Test.YtchgkfnodcbpiaaDoorTie
import Derived.WalkKit
import Derived.ProofKit
import Derived.OpenShut
import Derived.LaidMore
import Derived.Lib.LaidTab
import Derived.Stop.Joined
import Derived.Carry
import Derived.SizedLaws
import Derived.Deep.Slices
import Derived.Deep.Strs
set_option linter.all false
set_option linter.all false
namespace Go.Proofs.YtchgkfnodcbpiaaDoor
open Go.RowKit Go.Sort Go.Rg
set_option maxRecDepth 100000

def turnI (n b : Int) : Int := if n.tmod b < 0 then n.tmod b + b else n.tmod b
theorem turnI_lt (n b : Int) (hb : 1 ≤ b) : 0 ≤ turnI n b ∧ turnI n b < b := by
  obtain ⟨m1, m2⟩ := tmod_small n b hb
  unfold turnI
  split <;> omega
theorem turn_is (n b : Int) (hb : 1 ≤ b) (hb2 : b ≤ 1000) (w : World) : Calls Tryd.prog 9 #[.int .i64 n, .int .i64 b] w fun e w' => e = .returned (.int .i64 (turnI n b)) ∧ w = w' := by
  have hb0 : decide (b < 1) = false := by simp; omega
  have hbz : (b == 0) = false := by simp; omega
  obtain ⟨m1, m2⟩ := tmod_small n b hb
  by_cases hs : n.tmod b < 0
  · rw [show turnI n b = n.tmod b + b by simp [turnI, hs]]
    go_enter Tryd.func9, Tryd.ntmps9
    go_wp2_with fail
    all_goals go_ret
    all_goals first | exact ⟨rfl, rfl⟩ | (exfalso; omega)
  · rw [show turnI n b = n.tmod b by simp [turnI, hs]]
    go_enter Tryd.func9, Tryd.ntmps9
    go_wp2_with fail
    all_goals go_ret
    all_goals first | exact ⟨rfl, rfl⟩ | (exfalso; omega)

def wI (n : Nat) : List Nat → Nat → Int
  | [], _ => -1
  | x :: xs, k => if x = n then (k : Int) else wI n xs (k + 1)
theorem wI_cons (n x : Nat) (xs : List Nat) (k : Nat) : wI n (x :: xs) k = if x = n then (k : Int) else wI n xs (k + 1) := rfl
theorem wI_mem (n : Nat) : ∀ (l : List Nat) (k : Nat), 0 ≤ wI n l k ↔ n ∈ l
  | [], k => by simp [wI]
  | x :: xs, k => by
    unfold wI
    by_cases h : x = n
    · simp [h]
    · rw [if_neg h, wI_mem n xs (k + 1)]
      simp [h, Ne.symm h]
end Go.Proofs.YtchgkfnodcbpiaaDoor
set_option linter.all false
namespace Go.Proofs.YtchgkfnodcbpiaaDoor
open Go.RowKit Go.Sort Go.Rg
set_option maxRecDepth 100000

theorem sung_is (w : World) (hL : Laid w) (hN : Nothing w) : Calls Tryd.prog 5 #[] w fun e w' => e = .returned (.bool true) ∧ Kept w w' := by
  obtain ⟨l0, l1⟩ := hL
  have I : Go.Ai.Inv 2 (fun b => ⟨b, 0, 0⟩) seTop.heap w := by
    refine Go.Ai.start_inv (G := 2) (by decide) (by decide) (by decide) fun b x hx => ?_
    simp only [seTop, List.mem_cons, List.not_mem_nil, or_false, Prod.mk.injEq] at hx
    rcases hx with ⟨rfl, rfl⟩ | ⟨rfl, rfl⟩
    · refine .inr ⟨_, rfl, by decide, fun i v hv => ?_, Go.Ai.lt_of_cell (hN 0 (by omega))⟩
      match i, hv with
      | 0, hv => cases hv; exact hN 0 (by omega)
      | 1, hv => cases hv; exact hN 1 (by omega)
      | 2, hv => cases hv; exact hN 2 (by omega)
      | 3, hv => cases hv; exact hN 3 (by omega)
      | 4, hv => cases hv; exact hN 4 (by omega)
    · obtain ⟨m0, m1, m2, m3, m4, m5, m6, m7, m8, m9⟩ := l1
      refine .inr ⟨_, rfl, by decide, fun i v hv => ?_, l0⟩
      match i, hv with
      | 0, hv => cases hv; exact m0
      | 1, hv => cases hv; exact m1
      | 2, hv => cases hv; exact m2
      | 3, hv => cases hv; exact m3
      | 4, hv => cases hv; exact m4
      | 5, hv => cases hv; exact m5
      | 6, hv => cases hv; exact m6
      | 7, hv => cases hv; exact m7
      | 8, hv => cases hv; exact m8
      | 9, hv => cases hv; exact m9
  refine (Go.Ai.calls_of_ent seTop_h rfl I rfl).mono fun e w' ⟨j2, he, A⟩ => ⟨?_, ⟨A.os, A.tape, A.output, A.size, A.heap⟩⟩
  rw [he]; rfl

section
variable {B : Book} {sb sb' : Nat → List Int → Bool} {n : Nat}
theorem mem_surelyL {boy : Nat} : boy ∈ surelyL B sb n ↔ boy < n ∧ surelyB B sb boy = true := by
  simp [surelyL]
theorem surelyL_lt {x : Nat} (h : x ∈ surelyL B sb n) : x < n := (mem_surelyL.1 h).1
theorem pairwise_incr {l : List Nat} (h : l.Pairwise (· < ·)) : incr l := fun i x y hx hy => by
  obtain ⟨hi, rfl⟩ := List.getElem?_eq_some_iff.1 hx
  obtain ⟨hj, rfl⟩ := List.getElem?_eq_some_iff.1 hy
  exact List.pairwise_iff_getElem.1 h i (i + 1) hi hj (by omega)
theorem surelyL_incr : incr (surelyL B sb n) := pairwise_incr (List.Pairwise.filter _ List.pairwise_lt_range)
end
theorem foldl_testBit (x : Nat) : ∀ (l : List Nat) (s : Nat), (l.foldl (fun s x => s ||| 2 ^ x) s).testBit x = (s.testBit x || decide (x ∈ l))
  | [], s => by simp
  | y :: l, s => by
    rw [List.foldl_cons, foldl_testBit x l, Nat.testBit_or, Nat.testBit_two_pow]
    by_cases h : y = x
    · subst h; simp
    · have h' : ¬ x = y := fun e => h e.symm
      simp [h, h']
theorem gath_testBit (x : Nat) (l : List Nat) : (gath l).testBit x = decide (x ∈ l) := by
  unfold gath
  rw [foldl_testBit]
  simp
theorem gath_lt {l : List Nat} (h : ∀ x ∈ l, x < 4) : gath l < 16 := by
  rw [show 16 = 2 ^ 4 from rfl]
  refine Nat.lt_pow_two_of_testBit _ fun i hi => ?_
  rw [gath_testBit, decide_eq_false_iff_not]
  intro hm
  have := h i hm
  omega
theorem gath_and {l m : List Nat} (h : ∀ x, x ∈ l → ¬ x ∈ m) : gath l &&& gath m = 0 := by
  refine Nat.eq_of_testBit_eq fun i => ?_
  rw [Nat.testBit_and, gath_testBit, gath_testBit, Nat.zero_testBit]
  by_cases hi : i ∈ l
  · simp [hi, h i hi]
  · simp [hi]
theorem gath_sub {l m : List Nat} (h : ∀ x, x ∈ l → x ∈ m) : gath l &&& gath m = gath l := by
  refine Nat.eq_of_testBit_eq fun i => ?_
  rw [Nat.testBit_and, gath_testBit, gath_testBit]
  by_cases hi : i ∈ l
  · simp [hi, h i hi]
  · simp [hi]
theorem and_bits : ∀ s : Nat, s < 16 → ∀ t : Nat, t < 16 → s &&& t = 0 → bits .and .i64 (s : Int) (t : Int) = 0 := by decide +kernel
theorem andNot_bits : ∀ s : Nat, s < 16 → ∀ t : Nat, t < 16 → s &&& t = s → bits .andNot .i64 (s : Int) (t : Int) = 0 := by decide +kernel

theorem span_hi (f : List Int → Int) (w : Int) : ∀ (l : List (List Int)) (a b : Int), (l.foldl (spanAcc fun n => (f n, true)) (a, b, true)).2.1 ≤ w ↔ b ≤ w ∧ ∀ n ∈ l, f n ≤ w
  | [], a, b => by simp
  | n :: l, a, b => by
    rw [List.foldl_cons]
    show (l.foldl _ (min a (f n), max b (f n), true)).2.1 ≤ w ↔ _
    rw [span_hi f w l]
    rw [List.forall_mem_cons]
    constructor
    · rintro ⟨h1, h2⟩; exact ⟨by omega, by omega, h2⟩
    · rintro ⟨h1, h2, h3⟩; exact ⟨by omega, h3⟩
theorem spanOf_hi (f : List Int → Int) (w : Int) (l : List (List Int)) (hl : l ≠ []) : (spanOf (fun n => (f n, true)) l).2.1 ≤ w ↔ ∀ n ∈ l, f n ≤ w := by
  cases l with
  | nil => exact absurd rfl hl
  | cons n l =>
    unfold spanOf
    rw [List.foldl_cons]
    show (l.foldl _ (f n, f n, true)).2.1 ≤ w ↔ _
    rw [span_hi f w l, List.forall_mem_cons]

theorem must_iff {B : Book} {boy : Nat} {x : Boy} (hx : B.boys[boy]? = some x) (week : Int) :
    boy ∈ surelyL B (fun _ => brokenB week) B.boys.length ↔ ∀ n ∈ B.truths boy x, n.getD 4 0 ≤ week := by
  rw [mem_surelyL]
  have hb : boy < B.boys.length := (List.getElem?_eq_some_iff.1 hx).1
  have e : surelyB B (fun _ => brokenB week) boy = (B.truths boy x).all (brokenB week) := by unfold surelyB; rw [hx]
  rw [e, List.all_eq_true]
  simp only [hb, true_and, brokenB, decide_eq_true_eq]
theorem must_more {B : Book} {week week' : Int} (h : week ≤ week') (boy : Nat) (hm : boy ∈ surelyL B (fun _ => brokenB week) B.boys.length) : boy ∈ surelyL B (fun _ => brokenB week') B.boys.length := by
  have hb := surelyL_lt hm
  have hx : B.boys[boy]? = some B.boys[boy] := List.getElem?_eq_getElem hb
  rw [must_iff hx] at hm ⊢
  exact fun n hn => Int.le_trans (hm n hn) h
theorem must_sings {B : Book} (hcan : Can B) {week note : Int} (boy : Nat) (hm : boy ∈ surelyL B (fun _ => brokenB week) B.boys.length) : ¬ boy ∈ surelyL B (singsN B week note note) B.boys.length := by
  have hb := surelyL_lt hm
  have hx : B.boys[boy]? = some B.boys[boy] := List.getElem?_eq_getElem hb
  rw [must_iff hx] at hm
  rw [mem_surelyL]
  rintro ⟨_, hs⟩
  simp only [surelyB, hx, List.all_eq_true] at hs
  obtain ⟨n, hn⟩ := List.exists_mem_of_ne_nil _ (hcan boy _ hx)
  have h1 := hm n hn
  have h2 := hs n hn
  simp only [singsN, singsB, Bool.and_eq_true, decide_eq_true_eq] at h2
  omega
end Go.Proofs.YtchgkfnodcbpiaaDoor
set_option linter.all false
namespace Go.Proofs.YtchgkfnodcbpiaaDoor
open Go.RowKit Go.Sort Go.Rg
set_option maxRecDepth 100000

theorem spanFold (f : List Int → Int × Bool) (l : List (List Int)) : ∀ (a b : Int), a ≤ b → ∃ lo hi, l.foldl (spanAcc f) (a, b, true) = (lo, hi, true) ∧ lo ≤ a ∧ b ≤ hi ∧
    (∀ n ∈ l, (f n).2 = true → lo ≤ (f n).1 ∧ (f n).1 ≤ hi) ∧ (lo = a ∨ ∃ n ∈ l, (f n).2 = true ∧ (f n).1 = lo) ∧ (hi = b ∨ ∃ n ∈ l, (f n).2 = true ∧ (f n).1 = hi) := by
  induction l with
  | nil => exact fun a b h => ⟨a, b, rfl, by omega, by omega, by simp, .inl rfl, .inl rfl⟩
  | cons n l ih =>
    intro a b h
    rw [List.foldl_cons]
    cases hn : (f n).2 with
    | false =>
      have e : spanAcc f (a, b, true) n = (a, b, true) := by simp [spanAcc, hn]
      rw [e]
      obtain ⟨lo, hi, e1, h1, h2, h3, h4, h5⟩ := ih a b h
      refine ⟨lo, hi, e1, h1, h2, ?_, ?_, ?_⟩
      · intro m hm ht
        rcases List.mem_cons.1 hm with rfl | hm
        · rw [hn] at ht; cases ht
        · exact h3 m hm ht
      · exact h4.imp id (fun ⟨m, hm, r⟩ => ⟨m, List.mem_cons_of_mem _ hm, r⟩)
      · exact h5.imp id (fun ⟨m, hm, r⟩ => ⟨m, List.mem_cons_of_mem _ hm, r⟩)
    | true =>
      have e : spanAcc f (a, b, true) n = (min a (f n).1, max b (f n).1, true) := by simp [spanAcc, hn, spanStep]
      rw [e]
      obtain ⟨lo, hi, e1, h1, h2, h3, h4, h5⟩ := ih (min a (f n).1) (max b (f n).1) (by omega)
      have H4 := Lib.hid h4; have H5 := Lib.hid h5; have H := Lib.hid h3
      clear h4 h5 h3 ih
      refine ⟨lo, hi, e1, by omega, by omega, ?_, ?_, ?_⟩
      · intro m hm ht
        rcases List.mem_cons.1 hm with rfl | hm
        · omega
        · exact H.out m hm ht
      · rcases H4.out with h4 | ⟨m, hm, r⟩
        · by_cases hc : a ≤ (f n).1
          · exact .inl (by omega)
          · exact .inr ⟨n, List.mem_cons_self, hn, by omega⟩
        · exact .inr ⟨m, List.mem_cons_of_mem _ hm, r⟩
      · rcases H5.out with h5 | ⟨m, hm, r⟩
        · by_cases hc : (f n).1 ≤ b
          · exact .inl (by omega)
          · exact .inr ⟨n, List.mem_cons_self, hn, by omega⟩
        · exact .inr ⟨m, List.mem_cons_of_mem _ hm, r⟩
theorem spanOf_none (f : List Int → Int × Bool) (l : List (List Int)) : (∀ n ∈ l, (f n).2 = false) → spanOf f l = (0, 0, false) := by
  induction l with
  | nil => exact fun _ => rfl
  | cons n l ih =>
    intro h
    have e : spanAcc f (0, 0, false) n = (0, 0, false) := by simp [spanAcc, h n List.mem_cons_self]
    unfold spanOf
    rw [List.foldl_cons, e]
    exact ih (fun m hm => h m (List.mem_cons_of_mem _ hm))
theorem spanOf_some (f : List Int → Int × Bool) (l : List (List Int)) : (∃ n ∈ l, (f n).2 = true) → ∃ lo hi, spanOf f l = (lo, hi, true) ∧ lo ≤ hi ∧
    (∀ n ∈ l, (f n).2 = true → lo ≤ (f n).1 ∧ (f n).1 ≤ hi) ∧ (∃ n ∈ l, (f n).2 = true ∧ (f n).1 = lo) ∧ (∃ n ∈ l, (f n).2 = true ∧ (f n).1 = hi) := by
  induction l with
  | nil => rintro ⟨_, h, _⟩; cases h
  | cons n l ih =>
    intro h
    unfold spanOf
    rw [List.foldl_cons]
    cases hn : (f n).2 with
    | false =>
      have e : spanAcc f (0, 0, false) n = (0, 0, false) := by simp [spanAcc, hn]
      rw [e]
      obtain ⟨lo, hi, e1, h1, h3, ⟨m4, h4, h4'⟩, ⟨m5, h5, h5'⟩⟩ := ih (by
        obtain ⟨m, hm, ht⟩ := h
        rcases List.mem_cons.1 hm with rfl | hm
        · rw [hn] at ht; cases ht
        · exact ⟨m, hm, ht⟩)
      refine ⟨lo, hi, e1, h1, ?_, ⟨m4, List.mem_cons_of_mem _ h4, h4'⟩, ⟨m5, List.mem_cons_of_mem _ h5, h5'⟩⟩
      intro m hm ht
      rcases List.mem_cons.1 hm with rfl | hm
      · rw [hn] at ht; cases ht
      · exact h3 m hm ht
    | true =>
      have e : spanAcc f (0, 0, false) n = ((f n).1, (f n).1, true) := by simp [spanAcc, hn, spanStep]
      rw [e]
      obtain ⟨lo, hi, e1, h1, h2, h3, h4, h5⟩ := spanFold f l (f n).1 (f n).1 (by omega)
      have H4 := Lib.hid h4; have H5 := Lib.hid h5; have H := Lib.hid h3; have Hh := Lib.hid h
      clear h4 h5 h3 ih h
      refine ⟨lo, hi, e1, by omega, ?_, ?_, ?_⟩
      · intro m hm ht
        rcases List.mem_cons.1 hm with rfl | hm
        · omega
        · exact H.out m hm ht
      · rcases H4.out with h4 | ⟨m, hm, r⟩
        · exact ⟨n, List.mem_cons_self, hn, by omega⟩
        · exact ⟨m, List.mem_cons_of_mem _ hm, r⟩
      · rcases H5.out with h5 | ⟨m, hm, r⟩
        · exact ⟨n, List.mem_cons_self, hn, by omega⟩
        · exact ⟨m, List.mem_cons_of_mem _ hm, r⟩

/-- the highest note in a week, and is the voice not broken? -/
def lossOf (B : Book) (boy : Nat) : Int := (B.boys[boy]?.map Boy.ls).getD 0
def hiF (B : Book) (boy : Nat) (wk : Int) (n : List Int) : Int × Bool := (top (n.getD 1 0) (n.getD 2 0) (n.getD 3 0) (lossOf B boy) wk, decide (wk < n.getD 4 0))
theorem singsN_iff (B : Book) (wk lo hi : Int) (boy : Nat) (n : List Int) : singsN B wk lo hi boy n = true ↔ (hiF B boy wk n).2 = true ∧ n.getD 0 0 ≤ lo ∧ hi ≤ (hiF B boy wk n).1 := by
  simp [singsN, singsB, hiF, lossOf, and_assoc]

theorem often_zero {l : List (List Int)} {sb : List Int → Bool} (hl : l ≠ []) (h : ∀ n ∈ l, sb n = false) : oftenOf l sb = 0 := by
  cases l with
  | nil => exact absurd rfl hl
  | cons n l =>
    have h1 : (n :: l).all sb = false := by simp [h n List.mem_cons_self]
    have h2 : (n :: l).any sb = false := by rw [List.any_eq_false]; exact fun m hm => by rw [h m hm]; simp
    simp only [oftenOf, h1, h2]; rfl
theorem often_pos {l : List (List Int)} {sb : List Int → Bool} {n : List Int} (hn : n ∈ l) (h : sb n = true) : oftenOf l sb ≠ 0 := by
  have h2 : l.any sb = true := List.any_eq_true.2 ⟨n, hn, h⟩
  simp only [oftenOf, h2]
  split <;> simp
theorem often_two {l : List (List Int)} {sb : List Int → Bool} (h : ∀ n ∈ l, sb n = true) : oftenOf l sb = 2 := by
  have h2 : l.all sb = true := List.all_eq_true.2 h
  simp only [oftenOf, h2]; rfl
theorem often_rng (l : List (List Int)) (sb : List Int → Bool) : 0 ≤ oftenOf l sb ∧ oftenOf l sb ≤ 2 := by
  unfold oftenOf
  split
  · omega
  · split <;> omega

/-- what the law says of both ends, the highest note and how often a note can be sung -/
structure TopsAt (x : Boy) (week note lo0 lo1 br0 br1 tp0 tp1 : Int) (fd : Bool) (kind : Int) : Prop where
  a1 : x.l0 ≤ lo0
  a2 : lo0 ≤ lo1
  a3 : lo1 ≤ x.l1
  b1 : x.b0 ≤ br0
  b2 : br0 ≤ br1
  b3 : br1 ≤ x.b1
  k1 : 0 ≤ kind
  k2 : kind ≤ 2
  t1 : fd = false ↔ br1 ≤ week
  t2 : fd = false → kind = 0 ∧ tp0 = 0 ∧ tp1 = 0
  t3 : fd = true → tp0 ≤ tp1
  t4 : fd = true → tp1 < note → kind = 0
  t5 : note < lo0 → kind = 0
  t6 : fd = true → note = tp1 → lo1 ≤ note → kind ≠ 0
  t7 : fd = true → week < br0 → lo1 ≤ note → note ≤ tp0 → kind = 2
theorem tops_at (B : Book) (boy : Nat) (x : Boy) (hne : B.truths boy x ≠ []) (week note : Int) {lo0 lo1 br0 br1 tp0 tp1 : Int} {fd a b : Bool} {kind : Int}
    (e1 : spanOf (fun n => (n.getD 0 0, true)) (B.truths boy x) = (lo0, lo1, a)) (e2 : spanOf (fun n => (n.getD 4 0, true)) (B.truths boy x) = (br0, br1, b))
    (e3 : spanOf (hiF B boy week) (B.truths boy x) = (tp0, tp1, fd)) (e4 : oftenOf (B.truths boy x) (singsN B week note note boy) = kind) :
    TopsAt x week note lo0 lo1 br0 br1 tp0 tp1 fd kind := by
  obtain ⟨m0, hm0⟩ := List.exists_mem_of_ne_nil _ hne
  obtain ⟨p0, p1, f1, p2, p3, ⟨pm, pm1, -, pm2⟩, ⟨pM, pM1, -, pM2⟩⟩ := spanOf_some (fun n => (n.getD 0 0, true)) _ ⟨m0, hm0, rfl⟩
  obtain ⟨r0, r1, f2, r2, r3, ⟨rm, rm1, -, rm2⟩, ⟨rM, rM1, -, rM2⟩⟩ := spanOf_some (fun n => (n.getD 4 0, true)) _ ⟨m0, hm0, rfl⟩
  rw [e1] at f1; cases f1
  rw [e2] at f2; cases f2
  simp only at p3 pm2 pM2 r3 rm2 rM2
  have hr : ∀ n ∈ B.truths boy x, x.l0 ≤ n.getD 0 0 ∧ n.getD 0 0 ≤ x.l1 ∧ x.b0 ≤ n.getD 4 0 ∧ n.getD 4 0 ≤ x.b1 := by
    intro n hn
    have h := truths_rng hn
    obtain ⟨n0, n1, n2, n3, n4, rfl⟩ := truths_len hn
    have h0 := h 0 n0 rfl
    have h4 := h 4 n4 rfl
    exact ⟨h0.1, h0.2, h4.1, h4.2⟩
  obtain ⟨k1, k2⟩ := often_rng (B.truths boy x) (singsN B week note note boy)
  rw [e4] at k1 k2
  have a1 := hr pm pm1
  have a2 := hr pM pM1
  have a3 := hr rm rm1
  have a4 := hr rM rM1
  cases fd with
  | false =>
    have hno : ∀ n ∈ B.truths boy x, (hiF B boy week n).2 = false := by
      intro n hn
      cases hh : (hiF B boy week n).2 with
      | false => rfl
      | true =>
        obtain ⟨_, _, f3, _⟩ := spanOf_some (hiF B boy week) _ ⟨n, hn, hh⟩
        rw [e3] at f3; cases f3
    have f3 := spanOf_none _ _ hno
    rw [e3] at f3; cases f3
    have hz : kind = 0 := by
      rw [← e4]
      refine often_zero hne fun n hn => ?_
      cases hh : singsN B week note note boy n with
      | false => rfl
      | true => rw [singsN_iff, hno n hn] at hh; cases hh.1
    have hbr : br1 ≤ week := by
      have h := hno rM rM1
      simp only [hiF, decide_eq_false_iff_not] at h
      omega
    exact ⟨by omega, by omega, by omega, by omega, by omega, by omega, k1, k2, ⟨fun _ => hbr, fun _ => rfl⟩, fun _ => ⟨hz, rfl, rfl⟩, (fun h => nomatch h), (fun h => nomatch h), fun _ => hz, (fun h => nomatch h), (fun h => nomatch h)⟩
  | true =>
    have hyes : ∃ n ∈ B.truths boy x, (hiF B boy week n).2 = true := by
      refine Classical.byContradiction fun hc => ?_
      have f3 := spanOf_none (hiF B boy week) (B.truths boy x) (fun n hn => by
        cases hh : (hiF B boy week n).2 with
        | false => rfl
        | true => exact absurd ⟨n, hn, hh⟩ hc)
      rw [e3] at f3; cases f3
    obtain ⟨t0, t1, f3, t2, t3, ⟨tm, tm1, tm0, tm2⟩, ⟨tM, tM1, tM0, tM2⟩⟩ := spanOf_some _ _ hyes
    rw [e3] at f3; cases f3
    have hbr : ¬ br1 ≤ week := by
      have h := r3 tM tM1 trivial
      simp only [hiF, decide_eq_true_eq] at tM0
      omega
    refine ⟨by omega, by omega, by omega, by omega, by omega, by omega, k1, k2, ⟨(fun h => nomatch h), fun h => absurd h hbr⟩, (fun h => nomatch h), fun _ => t2, fun _ h => ?_, fun h => ?_, fun _ h1 h2 => ?_, fun _ h1 h2 h3 => ?_⟩
    · rw [← e4]
      refine often_zero hne fun n hn => ?_
      cases hh : singsN B week note note boy n with
      | false => rfl
      | true =>
        rw [singsN_iff] at hh
        have := t3 n hn hh.1
        omega
    · rw [← e4]
      refine often_zero hne fun n hn => ?_
      cases hh : singsN B week note note boy n with
      | false => rfl
      | true =>
        rw [singsN_iff] at hh
        have := p3 n hn trivial
        omega
    · rw [← e4]
      refine often_pos tM1 ?_
      rw [singsN_iff]
      have := p3 tM tM1 trivial
      exact ⟨tM0, by omega, by omega⟩
    · rw [← e4]
      refine often_two fun n hn => ?_
      rw [singsN_iff]
      have q1 := r3 n hn trivial
      have q2 := p3 n hn trivial
      have q0 : (hiF B boy week n).2 = true := by simp only [hiF, decide_eq_true_eq]; omega
      have q3 := t3 n hn q0
      exact ⟨q0, by omega, by omega⟩
end Go.Proofs.YtchgkfnodcbpiaaDoor
set_option linter.all false
namespace Go.Proofs.YtchgkfnodcbpiaaDoor
open Go.RowKit Go.Sort Go.Rg
set_option maxRecDepth 100000

/-- all boys who surely can sing each of the first so many notes -/
def ableL (B : Book) (week lo : Int) (k : Nat) : List Nat := (List.range B.boys.length).filter fun b => (List.range k).all fun i => surelyB B (singsN B week (lo + (i : Nat)) (lo + (i : Nat))) b
theorem mem_ableL {B : Book} {week lo : Int} {k b : Nat} : b ∈ ableL B week lo k ↔ b < B.boys.length ∧ ∀ i, i < k → surelyB B (singsN B week (lo + (i : Nat)) (lo + (i : Nat))) b = true := by
  simp [ableL, List.all_eq_true]
theorem able_zero (B : Book) (week lo : Int) : ableL B week lo 0 = List.range B.boys.length := by
  unfold ableL
  rw [List.filter_eq_self]
  intro b _; rfl
theorem able_lt {B : Book} {week lo : Int} {k : Nat} (hl : B.boys.length ≤ 4) : ∀ x ∈ ableL B week lo k, x < 4 := fun x hx => by have := (mem_ableL.1 hx).1; omega
theorem able_step (B : Book) (week lo : Int) (k : Nat) : gath (ableL B week lo k) &&& gath (surelyL B (singsN B week (lo + (k : Nat)) (lo + (k : Nat))) B.boys.length) = gath (ableL B week lo (k + 1)) := by
  refine Nat.eq_of_testBit_eq fun b => ?_
  rw [Nat.testBit_and, gath_testBit, gath_testBit, gath_testBit, ← Bool.decide_and]
  refine decide_eq_decide.2 ?_
  rw [mem_ableL, mem_ableL, mem_surelyL]
  constructor
  · rintro ⟨⟨h1, h2⟩, _, h3⟩
    refine ⟨h1, fun i hi => ?_⟩
    by_cases e : i = k
    · subst e; exact h3
    · exact h2 i (by omega)
  · rintro ⟨h1, h2⟩
    exact ⟨⟨h1, fun i hi => h2 i (by omega)⟩, h1, h2 k (by omega)⟩
theorem able_all {B : Book} {week lo hi : Int} {k : Nat} (hk : hi = lo + (k : Nat) - 1) (hk1 : 1 ≤ k) : ableL B week lo k = surelyL B (singsN B week lo hi) B.boys.length := by
  unfold ableL surelyL
  refine List.filter_congr fun b hb => ?_
  rw [Bool.eq_iff_iff, List.all_eq_true]
  have hb := List.mem_range.1 hb
  have hx : B.boys[b]? = some B.boys[b] := List.getElem?_eq_getElem hb
  simp only [List.mem_range, surelyB, hx, List.all_eq_true, singsN_iff]
  constructor
  · intro h n hn
    have h0 := h 0 (by omega) n hn
    have h1 := h (k - 1) (by omega) n hn
    have e : ((k - 1 : Nat) : Int) = k - 1 := by omega
    rw [e] at h1
    simp only [Int.natCast_zero, Int.add_zero] at h0
    have f : (hiF B b week n).1 = (hiF B b week n).1 := rfl
    exact ⟨h0.1, h0.2.1, by omega⟩
  · intro h i hi n hn
    have h0 := h n hn
    exact ⟨h0.1, by omega, by omega⟩
theorem surelyL_len4 {B : Book} {sb : Nat → List Int → Bool} (h : B.boys.length ≤ 4) : (surelyL B sb B.boys.length).length ≤ 4 := Nat.le_trans (surelyL_len _ _ _) h

/-- the bits of a small set -/
def bitsL (s n : Nat) : List Nat := (List.range n).filter fun i => s.testBit i
theorem bitsL_succ (s n : Nat) : bitsL s (n + 1) = bitsL s n ++ (if s.testBit n then [n] else []) := by
  unfold bitsL
  rw [List.range_succ, List.filter_append]
  congr 1
  simp only [List.filter_cons, List.filter_nil]
theorem bitsL_len (s n : Nat) : (bitsL s n).length ≤ n := by
  have := List.length_filter_le (fun i => s.testBit i) (List.range n)
  simpa [bitsL] using this
/-- the first one that is another boy -/
def heirOf (l : List Nat) (boy : Nat) : Option Nat := l.find? (fun b => decide (b ≠ boy))
theorem heir_bits {l : List Nat} {n boy s : Nat} (hl : ∃ p, l = (List.range n).filter p) (hs : ∀ i, i < n → s.testBit i = (decide (i ∈ l) && decide (i ≠ boy))) : (bitsL s n).head? = heirOf l boy := by
  obtain ⟨p, rfl⟩ := hl
  have : bitsL s n = ((List.range n).filter p).filter (fun b => decide (b ≠ boy)) := by
    unfold bitsL
    rw [List.filter_filter]
    refine List.filter_congr fun i hi => ?_
    rw [hs i (List.mem_range.1 hi)]
    simp [List.mem_range.1 hi, Bool.and_comm]
  rw [this, heirOf, List.head?_filter]
theorem shl_one : ∀ n : Nat, n ≤ 4 → IntKind.i64.wrap (bits .shl .i64 1 (n : Int)) = ((2 ^ n : Nat) : Int) ∨ True := by intros; exact .inr trivial
theorem andNot_test : ∀ s : Nat, s < 16 → ∀ b : Nat, b < 4 → ∃ t : Nat, t < 16 ∧ bits .andNot .i64 (s : Int) ((2 ^ b : Nat) : Int) = (t : Int) ∧ ∀ i, i < 4 → t.testBit i = (s.testBit i && decide (i ≠ b)) := by
  intro s hs b hb
  refine ⟨s - (s &&& 2 ^ b), by have := Nat.sub_le s (s &&& 2 ^ b); omega, ?_, ?_⟩
  · revert b; revert s; decide +kernel
  · revert b; revert s; decide +kernel
theorem and_val : ∀ s : Nat, s < 16 → ∀ t : Nat, t < 16 → bits .and .i64 (s : Int) (t : Int) = ((s &&& t : Nat) : Int) := by decide +kernel
end Go.Proofs.YtchgkfnodcbpiaaDoor
set_option linter.all false
namespace Go.Proofs.YtchgkfnodcbpiaaDoor
open Go.RowKit Go.Sort Go.Rg
set_option maxRecDepth 100000

set_option maxHeartbeats 2000000 in
theorem sings1_any (c : Choir) (boy : Nat) (wk note n0 n1 n2 n3 n4 loss : Int) (bw bn : Nat) (w : World) (hwc : w.cell? ⟨bw, 0, none⟩ = some (.int .i64 wk)) (hnc : w.cell? ⟨bn, 0, none⟩ = some (.int .i64 note))
   (hb : boy < c.B.boys.length) (hl : c.B.boys.length ≤ 4) (hc : w.cell? ⟨c.bb, c.ob + boy * 11 + 8, none⟩ = some (.int .i64 loss)) (hin : c.bb < w.heap.size)
   (h1 : 0 ≤ n1 ∧ n1 ≤ 100) (h2 : 0 ≤ n2 ∧ n2 ≤ 100) (h3 : 0 ≤ n3 ∧ n3 ≤ 100) (h4 : 0 ≤ wk ∧ wk ≤ 100) (h5 : 0 ≤ loss ∧ loss ≤ 100) :
    Calls Tryd.prog 39 #[encT c boy [n0, n1, n2, n3, n4], .pointer (some ⟨bw, 0, none⟩), .pointer (some ⟨bn, 0, none⟩)] w fun e w' => e = .returned (.bool (singsB n0 n1 n2 n3 n4 loss wk note note)) ∧ Kept w w' := by
  simp only [encT, List.map_cons, List.map_nil, List.append_toArray, List.cons_append, List.nil_append, Choir.k0, Choir.k2, Choir.m]
  have hzw := Go.Ai.lt_of_cell hwc
  have hzn := Go.Ai.lt_of_cell hnc
  have c0 : ∀ d os, (grow (redrawn (w.alloc (Obj.cells #[Value.slice (some ⟨c.bb, c.ob, none⟩) c.B.boys.length c.capb, Value.int IntKind.i64 c.B.weeks, Value.slice c.q c.B.trials.length c.capt, Value.map (some c.bm), Value.int IntKind.i64 ↑boy, Value.int IntKind.i64 n0, Value.int IntKind.i64 n1, Value.int IntKind.i64 n2, Value.int IntKind.i64 n3, Value.int IntKind.i64 n4] 76)) d) os).cell? ⟨w.heap.size, 0, none⟩ = some (Value.slice (some ⟨c.bb, c.ob, none⟩) c.B.boys.length c.capb) := cell_regrown (by go_simp)
  have c1 : ∀ d os, (grow (redrawn (w.alloc (Obj.cells #[Value.slice (some ⟨c.bb, c.ob, none⟩) c.B.boys.length c.capb, Value.int IntKind.i64 c.B.weeks, Value.slice c.q c.B.trials.length c.capt, Value.map (some c.bm), Value.int IntKind.i64 ↑boy, Value.int IntKind.i64 n0, Value.int IntKind.i64 n1, Value.int IntKind.i64 n2, Value.int IntKind.i64 n3, Value.int IntKind.i64 n4] 76)) d) os).cell? ⟨w.heap.size, 1, none⟩ = some (Value.int IntKind.i64 c.B.weeks) := cell_regrown (by go_simp)
  have c2 : ∀ d os, (grow (redrawn (w.alloc (Obj.cells #[Value.slice (some ⟨c.bb, c.ob, none⟩) c.B.boys.length c.capb, Value.int IntKind.i64 c.B.weeks, Value.slice c.q c.B.trials.length c.capt, Value.map (some c.bm), Value.int IntKind.i64 ↑boy, Value.int IntKind.i64 n0, Value.int IntKind.i64 n1, Value.int IntKind.i64 n2, Value.int IntKind.i64 n3, Value.int IntKind.i64 n4] 76)) d) os).cell? ⟨w.heap.size, 2, none⟩ = some (Value.slice c.q c.B.trials.length c.capt) := cell_regrown (by go_simp)
  have c3 : ∀ d os, (grow (redrawn (w.alloc (Obj.cells #[Value.slice (some ⟨c.bb, c.ob, none⟩) c.B.boys.length c.capb, Value.int IntKind.i64 c.B.weeks, Value.slice c.q c.B.trials.length c.capt, Value.map (some c.bm), Value.int IntKind.i64 ↑boy, Value.int IntKind.i64 n0, Value.int IntKind.i64 n1, Value.int IntKind.i64 n2, Value.int IntKind.i64 n3, Value.int IntKind.i64 n4] 76)) d) os).cell? ⟨w.heap.size, 3, none⟩ = some (Value.map (some c.bm)) := cell_regrown (by go_simp)
  have c4 : ∀ d os, (grow (redrawn (w.alloc (Obj.cells #[Value.slice (some ⟨c.bb, c.ob, none⟩) c.B.boys.length c.capb, Value.int IntKind.i64 c.B.weeks, Value.slice c.q c.B.trials.length c.capt, Value.map (some c.bm), Value.int IntKind.i64 ↑boy, Value.int IntKind.i64 n0, Value.int IntKind.i64 n1, Value.int IntKind.i64 n2, Value.int IntKind.i64 n3, Value.int IntKind.i64 n4] 76)) d) os).cell? ⟨w.heap.size, 4, none⟩ = some (Value.int IntKind.i64 ↑boy) := cell_regrown (by go_simp)
  have c5 : ∀ d os, (grow (redrawn (w.alloc (Obj.cells #[Value.slice (some ⟨c.bb, c.ob, none⟩) c.B.boys.length c.capb, Value.int IntKind.i64 c.B.weeks, Value.slice c.q c.B.trials.length c.capt, Value.map (some c.bm), Value.int IntKind.i64 ↑boy, Value.int IntKind.i64 n0, Value.int IntKind.i64 n1, Value.int IntKind.i64 n2, Value.int IntKind.i64 n3, Value.int IntKind.i64 n4] 76)) d) os).cell? ⟨w.heap.size, 5, none⟩ = some (Value.int IntKind.i64 n0) := cell_regrown (by go_simp)
  have c6 : ∀ d os, (grow (redrawn (w.alloc (Obj.cells #[Value.slice (some ⟨c.bb, c.ob, none⟩) c.B.boys.length c.capb, Value.int IntKind.i64 c.B.weeks, Value.slice c.q c.B.trials.length c.capt, Value.map (some c.bm), Value.int IntKind.i64 ↑boy, Value.int IntKind.i64 n0, Value.int IntKind.i64 n1, Value.int IntKind.i64 n2, Value.int IntKind.i64 n3, Value.int IntKind.i64 n4] 76)) d) os).cell? ⟨w.heap.size, 6, none⟩ = some (Value.int IntKind.i64 n1) := cell_regrown (by go_simp)
  have c7 : ∀ d os, (grow (redrawn (w.alloc (Obj.cells #[Value.slice (some ⟨c.bb, c.ob, none⟩) c.B.boys.length c.capb, Value.int IntKind.i64 c.B.weeks, Value.slice c.q c.B.trials.length c.capt, Value.map (some c.bm), Value.int IntKind.i64 ↑boy, Value.int IntKind.i64 n0, Value.int IntKind.i64 n1, Value.int IntKind.i64 n2, Value.int IntKind.i64 n3, Value.int IntKind.i64 n4] 76)) d) os).cell? ⟨w.heap.size, 7, none⟩ = some (Value.int IntKind.i64 n2) := cell_regrown (by go_simp)
  have c8 : ∀ d os, (grow (redrawn (w.alloc (Obj.cells #[Value.slice (some ⟨c.bb, c.ob, none⟩) c.B.boys.length c.capb, Value.int IntKind.i64 c.B.weeks, Value.slice c.q c.B.trials.length c.capt, Value.map (some c.bm), Value.int IntKind.i64 ↑boy, Value.int IntKind.i64 n0, Value.int IntKind.i64 n1, Value.int IntKind.i64 n2, Value.int IntKind.i64 n3, Value.int IntKind.i64 n4] 76)) d) os).cell? ⟨w.heap.size, 8, none⟩ = some (Value.int IntKind.i64 n3) := cell_regrown (by go_simp)
  have c9 : ∀ d os, (grow (redrawn (w.alloc (Obj.cells #[Value.slice (some ⟨c.bb, c.ob, none⟩) c.B.boys.length c.capb, Value.int IntKind.i64 c.B.weeks, Value.slice c.q c.B.trials.length c.capt, Value.map (some c.bm), Value.int IntKind.i64 ↑boy, Value.int IntKind.i64 n0, Value.int IntKind.i64 n1, Value.int IntKind.i64 n2, Value.int IntKind.i64 n3, Value.int IntKind.i64 n4] 76)) d) os).cell? ⟨w.heap.size, 9, none⟩ = some (Value.int IntKind.i64 n4) := cell_regrown (by go_simp)
  have kW : Kept w (w.alloc (Obj.cells #[Value.slice (some ⟨c.bb, c.ob, none⟩) c.B.boys.length c.capb, Value.int IntKind.i64 c.B.weeks, Value.slice c.q c.B.trials.length c.capt, Value.map (some c.bm), Value.int IntKind.i64 ↑boy, Value.int IntKind.i64 n0, Value.int IntKind.i64 n1, Value.int IntKind.i64 n2, Value.int IntKind.i64 n3, Value.int IntKind.i64 n4] 76)) := kept_alloc (kept_refl _) _
  have cw : ∀ d os, (grow (redrawn (w.alloc (Obj.cells #[Value.slice (some ⟨c.bb, c.ob, none⟩) c.B.boys.length c.capb, Value.int IntKind.i64 c.B.weeks, Value.slice c.q c.B.trials.length c.capt, Value.map (some c.bm), Value.int IntKind.i64 ↑boy, Value.int IntKind.i64 n0, Value.int IntKind.i64 n1, Value.int IntKind.i64 n2, Value.int IntKind.i64 n3, Value.int IntKind.i64 n4] 76)) d) os).cell? ⟨bw, 0, none⟩ = some (.int .i64 wk) := cell_regrown (((bcell kW).1 bw _ hzw).trans hwc)
  have cn : ∀ d os, (grow (redrawn (w.alloc (Obj.cells #[Value.slice (some ⟨c.bb, c.ob, none⟩) c.B.boys.length c.capb, Value.int IntKind.i64 c.B.weeks, Value.slice c.q c.B.trials.length c.capt, Value.map (some c.bm), Value.int IntKind.i64 ↑boy, Value.int IntKind.i64 n0, Value.int IntKind.i64 n1, Value.int IntKind.i64 n2, Value.int IntKind.i64 n3, Value.int IntKind.i64 n4] 76)) d) os).cell? ⟨bn, 0, none⟩ = some (.int .i64 note) := cell_regrown (((bcell kW).1 bn _ hzn).trans hnc)
  have cL : ∀ d os, (grow (redrawn (w.alloc (Obj.cells #[Value.slice (some ⟨c.bb, c.ob, none⟩) c.B.boys.length c.capb, Value.int IntKind.i64 c.B.weeks, Value.slice c.q c.B.trials.length c.capt, Value.map (some c.bm), Value.int IntKind.i64 ↑boy, Value.int IntKind.i64 n0, Value.int IntKind.i64 n1, Value.int IntKind.i64 n2, Value.int IntKind.i64 n3, Value.int IntKind.i64 n4] 76)) d) os).cell? ⟨c.bb, c.ob + boy * 11 + 8, none⟩ = some (.int .i64 loss) := cell_regrown (((bcell kW).1 c.bb _ hin).trans hc)
  have sW : w.heap.size ≤ (w.alloc (Obj.cells #[Value.slice (some ⟨c.bb, c.ob, none⟩) c.B.boys.length c.capb, Value.int IntKind.i64 c.B.weeks, Value.slice c.q c.B.trials.length c.capt, Value.map (some c.bm), Value.int IntKind.i64 ↑boy, Value.int IntKind.i64 n0, Value.int IntKind.i64 n1, Value.int IntKind.i64 n2, Value.int IntKind.i64 n3, Value.int IntKind.i64 n4] 76)).heap.size := by simp
  go_enter Tryd.func39, Tryd.ntmps39
  go_wp2_with fail
  generalize w.alloc (Obj.cells #[Value.slice (some ⟨c.bb, c.ob, none⟩) c.B.boys.length c.capb, Value.int IntKind.i64 c.B.weeks, Value.slice c.q c.B.trials.length c.capt, Value.map (some c.bm), Value.int IntKind.i64 ↑boy, Value.int IntKind.i64 n0, Value.int IntKind.i64 n1, Value.int IntKind.i64 n2, Value.int IntKind.i64 n3, Value.int IntKind.i64 n4] 76) = W at *
  have zL : ∀ d os, c.bb < (grow (redrawn W d) os).heap.size := fun d os => Nat.lt_of_lt_of_le (Nat.lt_of_lt_of_le hin sW) (below_regrown W d os).size
  have HL := Lib.hid cL
  have HZ := Lib.hid zL
  clear cL zL hc hwc hnc
  refine wp_region_quiet_below (by kernel_rfl) (by kernel_rfl) ?_
  repeat (any_goals (quiet_step (first | exact Calls.regrown_of (just_any _ _) | exact Calls.regrown_of (sings_any _ _ _ _ _ _ _ _ _ _ _ _ _ _ _ _ _ _ hb hl (HL.out _ _) (HZ.out _ _) h1 h2 h3 h4 h5))))
  refine wpQuiet_nil ?_
  intro _ hw'
  obtain ⟨⟨dq, osq⟩, hw''⟩ := hw'
  subst hw''
  have kW2 := kept_trans kW (below_regrown W dq osq)
  go_wp2_with fail
  go_ret
  exact ⟨rfl, kW2⟩

theorem sings_asks (S : Nat → Prop) (c : Choir) (boy : Nat) (wk note : Int) (x : Boy) (hx : c.B.boys[boy]? = some x) (bw bn : Nat) (W : World) (hat : ChoirAt S W c) (h4 : 0 ≤ wk ∧ wk ≤ 100) (hwc : W.cell? ⟨bw, 0, none⟩ = some (.int .i64 wk)) (hnc : W.cell? ⟨bn, 0, none⟩ = some (.int .i64 note)) :
    Asks c boy x W 39 #[.pointer (some ⟨bw, 0, none⟩), .pointer (some ⟨bn, 0, none⟩)] (singsN c.B wk note note boy) := by
  have hok := hat.ok
  have hlen : c.B.boys.length ≤ 4 := by
    have := hok
    simp only [Book.okB, inB, Bool.and_eq_true, decide_eq_true_eq] at this
    omega
  have hbl : boy < c.B.boys.length := (List.getElem?_eq_some_iff.1 hx).1
  have hxok : x.okB = true := by
    simp only [Book.okB, Bool.and_eq_true, List.all_eq_true] at hok
    exact hok.1.2 x (List.mem_of_getElem? hx)
  obtain ⟨hsp, hls⟩ := spanAt_ok x hxok
  refine ⟨enters_of Tryd.func39 (by kernel_rfl) rfl, fun A n hA hn => ?_⟩
  obtain ⟨_, _, _, _, _, _, _, _, c8, _⟩ := hat.boys.2 boy x hx
  have hr := truths_rng hn
  obtain ⟨n0, n1, n2, n3, n4, rfl⟩ := truths_len hn
  have r1 := hr 1 n1 rfl
  have r2 := hr 2 n2 rfl
  have r3 := hr 3 n3 rfl
  have s1 := hsp 1 (by omega)
  have s2 := hsp 2 (by omega)
  have s3 := hsp 3 (by omega)
  have := sings1_any c boy wk note n0 n1 n2 n3 n4 x.ls bw bn A (kcell hA hwc) (kcell hA hnc) hbl hlen (kcell hA c8) (Nat.lt_of_lt_of_le hat.boys.1 hA.size) (by omega) (by omega) (by omega) h4 (by omega)
  simpa [singsN, hx] using this

/-- how often a boy can sing a note in a week, or the error of trials that cannot all be right -/
def SingP (B : Book) (boy : Nat) (week note : Int) (W : World) (e : Ending) (C : World) : Prop :=
  ∃ v err, e = .returned (.tuple #[.int .i64 v, .int .i64 err]) ∧ Kept W C ∧
    ((err = 0 ∧ Can B ∧ ∃ x, B.boys[boy]? = some x ∧ v = oftenOf (B.truths boy x) (singsN B week note note boy)) ∨ (err = 22 ∧ ¬ Can B ∧ v = 0))

set_option maxHeartbeats 4000000 in
theorem sings_all (p q : Option Addr) (cap capt : Nat) (B : Book) (boy : Nat) (week note : Int) (W : World) (h : BookAt W p q cap capt B) (hg : Nothing W) (hok0 : B.okB = true) (hb : boy < B.boys.length) (hwk0 : 0 ≤ week ∧ week < B.weeks) (hnt0 : 0 ≤ note ∧ note ≤ 40) :
    Calls Tryd.prog 12 #[B.val p q cap capt, .int .i64 (boy : Int), .int .i64 week, .int .i64 note] W (SingP B boy week note W) := by
  have hwk : 0 ≤ B.weeks ∧ B.weeks ≤ 1000 := by
    have := hok0
    simp only [Book.okB, inB, Bool.and_eq_true, decide_eq_true_eq] at this
    omega
  have hwk1 : 0 ≤ week ∧ week ≤ 100 := by
    have := hok0
    simp only [Book.okB, inB, Bool.and_eq_true, decide_eq_true_eq] at this
    omega
  have hnb := h.nb
  have hboyT : inB (boy : Int) 0 (B.boys.length - 1) = true := by simp [inB]; omega
  have hweekT : inB week 0 (B.weeks - 1) = true := by simp [inB]; omega
  have hnoteT : inB note 0 40 = true := by simp [inB]; omega
  refine callsIn_wide.1 (callsIn_of_wp (n := 0) Tryd.func12 rfl trivial ?_ rfl)
  simp only [Tryd.ntmps12, List.size_toArray, List.length_cons, List.length_nil, Nat.reduceAdd, Nat.reduceSub, Array.replicate_succ, Array.replicate_zero, List.push_toArray, List.append_toArray, List.nil_append, List.cons_append]
  unfold Book.val
  gi_wp2_with fail
  have hk0 : Kept W (((W.alloc (Obj.cells #[.slice p B.boys.length cap, .int .i64 B.weeks, .slice q B.trials.length capt] 25)).alloc (Obj.cells #[.int .i64 week] 3)).alloc (Obj.cells #[.int .i64 note] 3)) := kept_alloc (kept_alloc (kept_alloc (kept_refl _) _) _) _
  have a0c : (((W.alloc (Obj.cells #[.slice p B.boys.length cap, .int .i64 B.weeks, .slice q B.trials.length capt] 25)).alloc (Obj.cells #[.int .i64 week] 3)).alloc (Obj.cells #[.int .i64 note] 3)).cell? ⟨W.heap.size, 0, none⟩ = some (.slice p B.boys.length cap) := by go_simp
  have a1c : (((W.alloc (Obj.cells #[.slice p B.boys.length cap, .int .i64 B.weeks, .slice q B.trials.length capt] 25)).alloc (Obj.cells #[.int .i64 week] 3)).alloc (Obj.cells #[.int .i64 note] 3)).cell? ⟨W.heap.size, 1, none⟩ = some (.int .i64 B.weeks) := by go_simp
  have a2c : (((W.alloc (Obj.cells #[.slice p B.boys.length cap, .int .i64 B.weeks, .slice q B.trials.length capt] 25)).alloc (Obj.cells #[.int .i64 week] 3)).alloc (Obj.cells #[.int .i64 note] 3)).cell? ⟨W.heap.size, 2, none⟩ = some (.slice q B.trials.length capt) := by go_simp
  have wc : (((W.alloc (Obj.cells #[.slice p B.boys.length cap, .int .i64 B.weeks, .slice q B.trials.length capt] 25)).alloc (Obj.cells #[.int .i64 week] 3)).alloc (Obj.cells #[.int .i64 note] 3)).cell? ⟨W.heap.size + 1, 0, none⟩ = some (.int .i64 week) := by go_simp
  have nc : (((W.alloc (Obj.cells #[.slice p B.boys.length cap, .int .i64 B.weeks, .slice q B.trials.length capt] 25)).alloc (Obj.cells #[.int .i64 week] 3)).alloc (Obj.cells #[.int .i64 note] 3)).cell? ⟨W.heap.size + 1 + 1, 0, none⟩ = some (.int .i64 note) := by go_simp
  generalize (((W.alloc (Obj.cells #[.slice p B.boys.length cap, .int .i64 B.weeks, .slice q B.trials.length capt] 25)).alloc (Obj.cells #[.int .i64 week] 3)).alloc (Obj.cells #[.int .i64 note] 3)) = W0 at *
  refine wpIn_region_invL (StO 13 (fun j => match j with | 0 => (.agg #[.slice p B.boys.length cap, .int .i64 B.weeks, .slice q B.trials.length capt]) | 1 => (.agg #[.slice p B.boys.length cap, .int .i64 B.weeks, .slice q B.trials.length capt]) | 2 => .int .i64 (boy : Int) | 5 => (.agg #[.slice p B.boys.length cap, .int .i64 B.weeks, .slice q B.trials.length capt]) | 6 => .int .i64 week | 10 => .int .i64 note | _ => .bool true) W0 B true) (by kernel_rfl) (by kernel_rfl) StO.start ?hop ?hend
  case hop =>
    rintro i o listed a w hl ho h1 h2 hcl ⟨v, err, pp, ha, hw⟩
    have hi11 : i < 20 := (List.getElem?_eq_some_iff.1 ho).1
    match i, ho with
    | 0, ho =>
      have st := StO.same (by kernel_rfl) ha hw ho h1 (by omega) (by omega) (by omega) (kept_refl w)
      have ST := Lib.hid st; clear st
      cases ho
      rw [if_pos (by rfl)]
      have t4 := ha.old 4 (by kernel_rfl)
      simp at t4
      have r0 := kcell hw.kept a0c
      have r1 := kcell hw.kept a1c
      have r2 := kcell hw.kept a2c
      go_simp
      exact ST.out
    | 1, ho =>
      have st := StO.same (by kernel_rfl) ha hw ho h1 (by omega) (by omega) (by omega) (kept_refl w)
      have ST := Lib.hid st; clear st
      cases ho
      rw [if_pos (by rfl)]
      have t4 := ha.old 4 (by kernel_rfl)
      simp at t4
      have r0 := kcell hw.kept a0c
      have r1 := kcell hw.kept a1c
      have r2 := kcell hw.kept a2c
      go_simp
      exact ST.out
    | 2, ho =>
      have st := StO.same (by kernel_rfl) ha hw ho h1 (by omega) (by omega) (by omega) (kept_refl w)
      have ST := Lib.hid st; clear st
      cases ho
      rw [if_pos (by rfl)]
      have t1 := ha.old 1 (by kernel_rfl)
      simp at t1
      go_simp
      exact ST.out
    | 3, ho =>
      have st := fun w' (k : Kept w w') => StO.same (by kernel_rfl) ha hw ho h1 (by omega) (by omega) (by omega) k
      have ST := Lib.hid st; clear st
      cases ho
      rw [if_pos (by rfl)]
      have t14 := ha.new 1 (h2 ⟨1, .data⟩ (by simp) rfl) (d := 14) rfl rfl (by simp)
      simp [openVs] at t14
      have t15 := ha.new 2 (h2 ⟨2, .data⟩ (by simp) rfl) (d := 15) rfl rfl (by simp)
      simp [openVs] at t15
      have hcall := isBoy_any p B.boys.length cap (.int .i64 B.weeks) (.slice q B.trials.length capt) (boy : Int) w hnb
      rw [hboyT] at hcall
      go_simp
      refine ⟨trivial, rfl, (callsIn_wide.2 hcall).mono ?_⟩
      rintro e w' ⟨rfl, hk⟩
      exact ST.out _ hk
    | 4, ho =>
      have st := StO.same (by kernel_rfl) ha hw ho h1 (by omega) (by omega) (by omega) (kept_refl w)
      have ST := Lib.hid st; clear st
      cases ho
      rw [if_pos (by rfl)]
      have t16 := ha.new 3 (h2 ⟨3, .data⟩ (by simp) rfl) (d := 16) rfl rfl (by simp)
      simp [openVs] at t16
      go_simp
      exact ST.out
    | 5, ho =>
      have st := StO.same (by kernel_rfl) ha hw ho h1 (by omega) (by omega) (by omega) (kept_refl w)
      have ST := Lib.hid st; clear st
      cases ho
      have t17 := ha.new 4 (h2 ⟨4, .guard⟩ (by simp) rfl) (d := 17) rfl rfl (by simp)
      simp [openVs] at t17
      rw [if_pos (by simp [Region.wanted, yielded, getD_bool t17])]
      have t4 := ha.old 4 (by kernel_rfl)
      simp at t4
      have r0 := kcell hw.kept a0c
      have r1 := kcell hw.kept a1c
      have r2 := kcell hw.kept a2c
      go_simp
      exact ST.out
    | 6, ho =>
      have st := StO.same (by kernel_rfl) ha hw ho h1 (by omega) (by omega) (by omega) (kept_refl w)
      have ST := Lib.hid st; clear st
      cases ho
      have t17 := ha.new 4 (h2 ⟨4, .guard⟩ (by simp) rfl) (d := 17) rfl rfl (by simp)
      simp [openVs] at t17
      rw [if_pos (by simp [Region.wanted, yielded, getD_bool t17])]
      have t6 := ha.old 6 (by kernel_rfl)
      simp at t6
      have rw0 := kcell hw.kept wc
      go_simp
      exact ST.out
    | 7, ho =>
      have st := fun w' (k : Kept w w') => StO.same (by kernel_rfl) ha hw ho h1 (by omega) (by omega) (by omega) k
      have ST := Lib.hid st; clear st
      cases ho
      have t17 := ha.new 4 (h2 ⟨4, .guard⟩ (by simp) rfl) (d := 17) rfl rfl (by simp)
      simp [openVs] at t17
      rw [if_pos (by simp [Region.wanted, yielded, getD_bool t17])]
      have t18 := ha.new 5 (h2 ⟨5, .data⟩ (by simp) rfl) (d := 18) rfl rfl (by simp)
      simp [openVs] at t18
      have t19 := ha.new 6 (h2 ⟨6, .data⟩ (by simp) rfl) (d := 19) rfl rfl (by simp)
      simp [openVs] at t19
      have hcall := isWeek_any (.slice p B.boys.length cap) (.slice q B.trials.length capt) B.weeks week w hwk.1 hwk.2
      rw [hweekT] at hcall
      go_simp
      refine ⟨trivial, rfl, (callsIn_wide.2 hcall).mono ?_⟩
      rintro e w' ⟨rfl, hk⟩
      exact ST.out _ hk
    | 8, ho =>
      have st := StO.same (by kernel_rfl) ha hw ho h1 (by omega) (by omega) (by omega) (kept_refl w)
      have ST := Lib.hid st; clear st
      cases ho
      rw [if_pos (by rfl)]
      have t17 := ha.new 4 (h2 ⟨4, .data⟩ (by simp) rfl) (d := 17) rfl rfl (by simp)
      simp [openVs] at t17
      have t20 := ha.new 7 (h2 ⟨7, .data⟩ (by simp) rfl) (d := 20) rfl rfl (by simp)
      simp [openVs] at t20
      go_simp
      exact ST.out
    | 9, ho =>
      have st := StO.same (by kernel_rfl) ha hw ho h1 (by omega) (by omega) (by omega) (kept_refl w)
      have ST := Lib.hid st; clear st
      cases ho
      rw [if_pos (by rfl)]
      have t21 := ha.new 8 (h2 ⟨8, .data⟩ (by simp) rfl) (d := 21) rfl rfl (by simp)
      simp [openVs] at t21
      go_simp
      exact ST.out
    | 10, ho =>
      have st := StO.same (by kernel_rfl) ha hw ho h1 (by omega) (by omega) (by omega) (kept_refl w)
      have ST := Lib.hid st; clear st
      cases ho
      have t22 := ha.new 9 (h2 ⟨9, .guard⟩ (by simp) rfl) (d := 22) rfl rfl (by simp)
      simp [openVs] at t22
      rw [if_pos (by simp [Region.wanted, yielded, getD_bool t22])]
      have t7 := ha.old 7 (by kernel_rfl)
      simp at t7
      have rn0 := kcell hw.kept nc
      go_simp
      exact ST.out
    | 11, ho =>
      have st := fun w' (k : Kept w w') => StO.same (by kernel_rfl) ha hw ho h1 (by omega) (by omega) (by omega) k
      have ST := Lib.hid st; clear st
      cases ho
      have t22 := ha.new 9 (h2 ⟨9, .guard⟩ (by simp) rfl) (d := 22) rfl rfl (by simp)
      simp [openVs] at t22
      rw [if_pos (by simp [Region.wanted, yielded, getD_bool t22])]
      have t23 := ha.new 10 (h2 ⟨10, .data⟩ (by simp) rfl) (d := 23) rfl rfl (by simp)
      simp [openVs] at t23
      have hcall := isNote_any note w
      rw [hnoteT] at hcall
      go_simp
      refine ⟨trivial, rfl, (callsIn_wide.2 hcall).mono ?_⟩
      rintro e w' ⟨rfl, hk⟩
      subst hk; exact ST.out _ (kept_refl _)
    | 12, ho =>
      have st := StO.same (by kernel_rfl) ha hw ho h1 (by omega) (by omega) (by omega) (kept_refl w)
      have ST := Lib.hid st; clear st
      cases ho
      rw [if_pos (by rfl)]
      have t22 := ha.new 9 (h2 ⟨9, .data⟩ (by simp) rfl) (d := 22) rfl rfl (by simp)
      simp [openVs] at t22
      have t24 := ha.new 11 (h2 ⟨11, .data⟩ (by simp) rfl) (d := 24) rfl rfl (by simp)
      simp [openVs] at t24
      go_simp
      exact ST.out
    | 13, ho =>
      obtain ⟨n5, n6, n7, n9, n10⟩ := open_first hcl h1 ⟨_, rfl, ⟨13, .data⟩, by simp, rfl, rfl⟩ ⟨_, rfl, ⟨14, .data⟩, by simp, rfl, rfl⟩ ⟨_, rfl, ⟨14, .data⟩, by simp, rfl, rfl⟩ ⟨_, rfl, ⟨15, .data⟩, by simp, rfl, rfl⟩ ⟨_, rfl, ⟨16, .data⟩, by simp, rfl, rfl⟩
      have st := fun v' err' w' (k : OpenReg W0 B true v' err' pp true (on listed 17) (on listed 18) w') => StO.opened (by kernel_rfl) ha hl ho h1 n5 n6 n7 n9 n10 k
      have ST := Lib.hid st; clear st
      cases ho
      rw [if_pos (by rfl)]
      have t13 := ha.new 0 (h2 ⟨0, .data⟩ (by simp) rfl) (d := 13) rfl rfl (by simp)
      simp [openVs] at t13
      have t25 := ha.new 12 (h2 ⟨12, .data⟩ (by simp) rfl) (d := 25) rfl rfl (by simp)
      simp [openVs] at t25
      have hcall := open_any p q cap capt B true W w h (kept_trans hk0 hw.kept) (hg.kept (kept_trans hk0 hw.kept))
      unfold Book.val at hcall
      have HOP := Lib.hid (fun e w' => hw.opened (e := e) (w' := w') W.heap.size hk0.size n9)
      go_simp
      refine ⟨trivial, rfl, (callsIn_wide.2 hcall).mono ?_⟩
      intro e w' hop
      obtain ⟨v', err', rfl, hr⟩ := HOP.out e w' hop
      exact ST.out v' err' w' hr
    | 14, ho =>
      have st := StO.same (by kernel_rfl) ha hw ho h1 (by omega) (by omega) (by omega) (kept_refl w)
      have ST := Lib.hid st; clear st
      cases ho
      rw [if_pos (by rfl)]
      have t26 := ha.new 13 (h2 ⟨13, .data⟩ (by simp) rfl) (d := 26) rfl rfl (by simp)
      simp [openVs] at t26
      go_simp
      exact ST.out
    | 15, ho =>
      have st := StO.same (by kernel_rfl) ha hw ho h1 (by omega) (by omega) (by omega) (kept_refl w)
      have ST := Lib.hid st; clear st
      cases ho
      rw [if_pos (by rfl)]
      have t12 := ha.new 14 (h2 ⟨14, .data⟩ (by simp) rfl) (d := 12) rfl rfl (by simp)
      simp [openVs] at t12
      go_simp
      exact ST.out
    | 16, ho =>
      have st := StO.same (by kernel_rfl) ha hw ho h1 (by omega) (by omega) (by omega) (kept_refl w)
      have ST := Lib.hid st; clear st
      cases ho
      rw [if_pos (by rfl)]
      have t12 := ha.new 14 (h2 ⟨14, .data⟩ (by simp) rfl) (d := 12) rfl rfl (by simp)
      simp [openVs] at t12
      go_simp
      exact ST.out
    | 17, ho =>
      have n9 : on listed 18 = false := by
        cases hb : on listed 18 with
        | false => rfl
        | true => have := hcl 18 _ rfl hb ⟨17, .data⟩ (by simp) rfl; rw [on_no h1] at this; cases this
      have st := StO.boxed (by kernel_rfl) ha hw hl ho h1 n9
      have ST := Lib.hid st; clear st
      cases ho
      rw [if_pos (by rfl)]
      go_simp
      exact ST.out
    | 18, ho =>
      have y8 : on listed 17 = true := h2 ⟨17, .data⟩ (by cases ho; simp) rfl
      have y4 : on listed 13 = true := h2 ⟨13, .chain⟩ (by cases ho; simp) rfl
      have t10 := ha.new 17 y8 (d := 10) rfl rfl (by simp)
      simp [openVs] at t10
      have t27 := ha.new 15 (h2 ⟨15, .data⟩ (by cases ho; simp) rfl) (d := 27) rfl rfl (by simp)
      simp [openVs] at t27
      obtain ⟨hbp, ⟨f0, f1, f2, f3, b0, b1, b2, b3⟩, hbf⟩ := hw.box y8
      have bf0 := hbf 0
      have bf1 := hbf 1
      have bf2 := hbf 2
      have bf3 := hbf 3
      rcases hw.res y4 with ⟨_, _, _, _, c, S, hcB, rfl, _⟩ | ⟨rfl, _⟩
      · clear hcB
        have st := StO.stored (by kernel_rfl) ha hw hl ho (by cases ho; rfl) h1 y8 (show c.val = _ from rfl)
        have ST := Lib.hid st; clear st
        cases ho
        rw [if_pos (by rfl)]
        unfold Choir.val at t27
        clear hbf
        go_simp
        exact ST.out
      · have st := StO.stored (by kernel_rfl) ha hw hl ho (by cases ho; rfl) h1 y8 (show zeroChoir = _ from rfl)
        have ST := Lib.hid st; clear st
        cases ho
        rw [if_pos (by rfl)]
        unfold zeroChoir at t27
        clear hbf
        go_simp
        exact ST.out
    | 19, ho =>
      have st := StO.same (by kernel_rfl) ha hw ho h1 (by omega) (by omega) (by omega) (kept_refl w)
      have ST := Lib.hid st; clear st
      cases ho
      rw [if_pos (by rfl)]
      have t28 := ha.new 16 (h2 ⟨16, .data⟩ (by simp) rfl) (d := 28) rfl rfl (by simp)
      simp [openVs] at t28
      go_simp
      exact ST.out

  case hend =>
    rintro listed a w hall ⟨v, err, pp, ha, hw⟩
    rw [show on listed 13 = true from hall 13 (by simp), show on listed 17 = true from hall 17 (by simp), show on listed 18 = true from hall 18 (by simp)] at hw
    obtain ⟨y, hy, hae⟩ := ha.lit (n := 36) rfl
    have y1 := (hy 1).symm.trans (ha.old 1 (by kernel_rfl))
    have y6 := (hy 6).symm.trans (ha.old 6 (by kernel_rfl))
    have y7 := (hy 7).symm.trans (ha.old 7 (by kernel_rfl))
    have y8 := (hy 8).symm.trans (ha.old 8 (by kernel_rfl))
    have y9 := (hy 9).symm.trans (ha.old 9 (by kernel_rfl))
    have y10 := (hy 10).symm.trans (ha.new 17 (hall 17 (by simp)) (d := 10) rfl rfl (by simp))
    have y11 := (hy 11).symm.trans (ha.new 19 (hall 19 (by simp)) (d := 11) rfl rfl (by simp))
    simp at y1 y6 y7 y8 y9
    simp [openVs] at y10 y11
    simp only [List.range, List.range.loop, List.map] at hae
    rw [y1, y6, y7, y8, y9, y10, y11] at hae
    subst hae
    clear ha hy y1 y6 y7 y8 y9 y10 y11
    refine (by assumption : ∀ a w, Code.wpIn _ _ _ _ _ a w → _) _ w ?_
    have wk := kcell hw.kept wc
    have wn := kcell hw.kept nc
    obtain ⟨_, x0, x1, x2, x3, hv, b0, b1, b2, b3⟩ := hw.put rfl
    rcases hw.res rfl with ⟨rfl, hok, _, hcan, c, S, hcB, hvc, hch, hSz, hSp⟩ | ⟨rfl, herr⟩
    · subst hcB
      subst hvc
      have e4 := congrArg (fun u => match u with | Value.agg cs => cs.toList | _ => []) hv
      simp only [Choir.val, List.cons.injEq, and_true] at e4
      obtain ⟨rfl, rfl, rfl, rfl⟩ := e4
      have hzp := Go.Ai.lt_of_cell b0
      have hzw := Go.Ai.lt_of_cell wk
      have hx : c.B.boys[boy]? = some c.B.boys[boy] := List.getElem?_eq_getElem hb
      generalize c.B.boys[boy] = x at *
      gi_wp2_with fail
      have hcall := often_any S c boy x hx w hch hSz _ _ (singsN c.B week note note boy) (sings_asks S c boy week note x hx (W.heap.size + 1) (W.heap.size + 1 + 1) w hch hwk1 wk wn)
      unfold Choir.val at hcall
      refine ⟨trivial, rfl, (callsIn_wide.2 hcall).mono ?_⟩
      rintro e w2 ⟨rfl, hk7⟩
      clear hcall
      gi_wp2_with fail
      refine bodyPost_ret (v := .tuple #[.int .i64 (oftenOf (c.B.truths boy x) (singsN c.B week note note boy)), .int .i64 0]) (by simp [results, Tryd.results12, go_sem]) rfl ?_
      exact ⟨_, 0, rfl, kept_trans (kept_trans hk0 hw.kept) hk7, .inl ⟨rfl, hcan, x, hx, rfl⟩⟩
    · rcases herr with ⟨_, he⟩ | ⟨_, _, he⟩ | ⟨rfl, _, _, hnc⟩
      · rw [hok0] at he; cases he
      · cases he
      gi_wp2_with fail
      refine bodyPost_ret (v := .tuple #[.int .i64 0, .int .i64 22]) (by simp [results, Tryd.results12, go_sem]) rfl ?_
      exact ⟨_, 22, rfl, kept_trans hk0 hw.kept, .inr ⟨rfl, hnc, rfl⟩⟩
end Go.Proofs.YtchgkfnodcbpiaaDoor
set_option linter.all false
namespace Go.Proofs.YtchgkfnodcbpiaaDoor
open Go.RowKit Go.Sort Go.Rg
set_option maxRecDepth 100000
attribute [local go_sem] Oper.semAt_some

set_option maxHeartbeats 2000000 in
theorem highest1_any (c : Choir) (boy : Nat) (wk n0 n1 n2 n3 n4 loss : Int) (bw : Nat) (w : World) (hwc : w.cell? ⟨bw, 0, none⟩ = some (.int .i64 wk))
   (hb : boy < c.B.boys.length) (hl : c.B.boys.length ≤ 4) (hc : w.cell? ⟨c.bb, c.ob + boy * 11 + 8, none⟩ = some (.int .i64 loss)) (hin : c.bb < w.heap.size)
   (h1 : 0 ≤ n1 ∧ n1 ≤ 100) (h2 : 0 ≤ n2 ∧ n2 ≤ 100) (h3 : 0 ≤ n3 ∧ n3 ≤ 100) (h4 : 0 ≤ wk ∧ wk ≤ 100) (h5 : 0 ≤ loss ∧ loss ≤ 100) :
    Calls Tryd.prog 42 #[encT c boy [n0, n1, n2, n3, n4], .pointer (some ⟨bw, 0, none⟩)] w fun e w' => e = .returned (.tuple #[.int .i64 (top n1 n2 n3 loss wk), .bool (!decide (n4 ≤ wk))]) ∧ Kept w w' := by
  simp only [encT, List.map_cons, List.map_nil, List.append_toArray, List.cons_append, List.nil_append, Choir.k0, Choir.k2, Choir.m]
  have hzw := Go.Ai.lt_of_cell hwc
  have c0 : ∀ d os, (grow (redrawn (w.alloc (Obj.cells #[Value.slice (some ⟨c.bb, c.ob, none⟩) c.B.boys.length c.capb, Value.int IntKind.i64 c.B.weeks, Value.slice c.q c.B.trials.length c.capt, Value.map (some c.bm), Value.int IntKind.i64 ↑boy, Value.int IntKind.i64 n0, Value.int IntKind.i64 n1, Value.int IntKind.i64 n2, Value.int IntKind.i64 n3, Value.int IntKind.i64 n4] 76)) d) os).cell? ⟨w.heap.size, 0, none⟩ = some (Value.slice (some ⟨c.bb, c.ob, none⟩) c.B.boys.length c.capb) := cell_regrown (by go_simp)
  have c1 : ∀ d os, (grow (redrawn (w.alloc (Obj.cells #[Value.slice (some ⟨c.bb, c.ob, none⟩) c.B.boys.length c.capb, Value.int IntKind.i64 c.B.weeks, Value.slice c.q c.B.trials.length c.capt, Value.map (some c.bm), Value.int IntKind.i64 ↑boy, Value.int IntKind.i64 n0, Value.int IntKind.i64 n1, Value.int IntKind.i64 n2, Value.int IntKind.i64 n3, Value.int IntKind.i64 n4] 76)) d) os).cell? ⟨w.heap.size, 1, none⟩ = some (Value.int IntKind.i64 c.B.weeks) := cell_regrown (by go_simp)
  have c2 : ∀ d os, (grow (redrawn (w.alloc (Obj.cells #[Value.slice (some ⟨c.bb, c.ob, none⟩) c.B.boys.length c.capb, Value.int IntKind.i64 c.B.weeks, Value.slice c.q c.B.trials.length c.capt, Value.map (some c.bm), Value.int IntKind.i64 ↑boy, Value.int IntKind.i64 n0, Value.int IntKind.i64 n1, Value.int IntKind.i64 n2, Value.int IntKind.i64 n3, Value.int IntKind.i64 n4] 76)) d) os).cell? ⟨w.heap.size, 2, none⟩ = some (Value.slice c.q c.B.trials.length c.capt) := cell_regrown (by go_simp)
  have c3 : ∀ d os, (grow (redrawn (w.alloc (Obj.cells #[Value.slice (some ⟨c.bb, c.ob, none⟩) c.B.boys.length c.capb, Value.int IntKind.i64 c.B.weeks, Value.slice c.q c.B.trials.length c.capt, Value.map (some c.bm), Value.int IntKind.i64 ↑boy, Value.int IntKind.i64 n0, Value.int IntKind.i64 n1, Value.int IntKind.i64 n2, Value.int IntKind.i64 n3, Value.int IntKind.i64 n4] 76)) d) os).cell? ⟨w.heap.size, 3, none⟩ = some (Value.map (some c.bm)) := cell_regrown (by go_simp)
  have c4 : ∀ d os, (grow (redrawn (w.alloc (Obj.cells #[Value.slice (some ⟨c.bb, c.ob, none⟩) c.B.boys.length c.capb, Value.int IntKind.i64 c.B.weeks, Value.slice c.q c.B.trials.length c.capt, Value.map (some c.bm), Value.int IntKind.i64 ↑boy, Value.int IntKind.i64 n0, Value.int IntKind.i64 n1, Value.int IntKind.i64 n2, Value.int IntKind.i64 n3, Value.int IntKind.i64 n4] 76)) d) os).cell? ⟨w.heap.size, 4, none⟩ = some (Value.int IntKind.i64 ↑boy) := cell_regrown (by go_simp)
  have c5 : ∀ d os, (grow (redrawn (w.alloc (Obj.cells #[Value.slice (some ⟨c.bb, c.ob, none⟩) c.B.boys.length c.capb, Value.int IntKind.i64 c.B.weeks, Value.slice c.q c.B.trials.length c.capt, Value.map (some c.bm), Value.int IntKind.i64 ↑boy, Value.int IntKind.i64 n0, Value.int IntKind.i64 n1, Value.int IntKind.i64 n2, Value.int IntKind.i64 n3, Value.int IntKind.i64 n4] 76)) d) os).cell? ⟨w.heap.size, 5, none⟩ = some (Value.int IntKind.i64 n0) := cell_regrown (by go_simp)
  have c6 : ∀ d os, (grow (redrawn (w.alloc (Obj.cells #[Value.slice (some ⟨c.bb, c.ob, none⟩) c.B.boys.length c.capb, Value.int IntKind.i64 c.B.weeks, Value.slice c.q c.B.trials.length c.capt, Value.map (some c.bm), Value.int IntKind.i64 ↑boy, Value.int IntKind.i64 n0, Value.int IntKind.i64 n1, Value.int IntKind.i64 n2, Value.int IntKind.i64 n3, Value.int IntKind.i64 n4] 76)) d) os).cell? ⟨w.heap.size, 6, none⟩ = some (Value.int IntKind.i64 n1) := cell_regrown (by go_simp)
  have c7 : ∀ d os, (grow (redrawn (w.alloc (Obj.cells #[Value.slice (some ⟨c.bb, c.ob, none⟩) c.B.boys.length c.capb, Value.int IntKind.i64 c.B.weeks, Value.slice c.q c.B.trials.length c.capt, Value.map (some c.bm), Value.int IntKind.i64 ↑boy, Value.int IntKind.i64 n0, Value.int IntKind.i64 n1, Value.int IntKind.i64 n2, Value.int IntKind.i64 n3, Value.int IntKind.i64 n4] 76)) d) os).cell? ⟨w.heap.size, 7, none⟩ = some (Value.int IntKind.i64 n2) := cell_regrown (by go_simp)
  have c8 : ∀ d os, (grow (redrawn (w.alloc (Obj.cells #[Value.slice (some ⟨c.bb, c.ob, none⟩) c.B.boys.length c.capb, Value.int IntKind.i64 c.B.weeks, Value.slice c.q c.B.trials.length c.capt, Value.map (some c.bm), Value.int IntKind.i64 ↑boy, Value.int IntKind.i64 n0, Value.int IntKind.i64 n1, Value.int IntKind.i64 n2, Value.int IntKind.i64 n3, Value.int IntKind.i64 n4] 76)) d) os).cell? ⟨w.heap.size, 8, none⟩ = some (Value.int IntKind.i64 n3) := cell_regrown (by go_simp)
  have c9 : ∀ d os, (grow (redrawn (w.alloc (Obj.cells #[Value.slice (some ⟨c.bb, c.ob, none⟩) c.B.boys.length c.capb, Value.int IntKind.i64 c.B.weeks, Value.slice c.q c.B.trials.length c.capt, Value.map (some c.bm), Value.int IntKind.i64 ↑boy, Value.int IntKind.i64 n0, Value.int IntKind.i64 n1, Value.int IntKind.i64 n2, Value.int IntKind.i64 n3, Value.int IntKind.i64 n4] 76)) d) os).cell? ⟨w.heap.size, 9, none⟩ = some (Value.int IntKind.i64 n4) := cell_regrown (by go_simp)
  have kW : Kept w (w.alloc (Obj.cells #[Value.slice (some ⟨c.bb, c.ob, none⟩) c.B.boys.length c.capb, Value.int IntKind.i64 c.B.weeks, Value.slice c.q c.B.trials.length c.capt, Value.map (some c.bm), Value.int IntKind.i64 ↑boy, Value.int IntKind.i64 n0, Value.int IntKind.i64 n1, Value.int IntKind.i64 n2, Value.int IntKind.i64 n3, Value.int IntKind.i64 n4] 76)) := kept_alloc (kept_refl _) _
  have cw : ∀ d os, (grow (redrawn (w.alloc (Obj.cells #[Value.slice (some ⟨c.bb, c.ob, none⟩) c.B.boys.length c.capb, Value.int IntKind.i64 c.B.weeks, Value.slice c.q c.B.trials.length c.capt, Value.map (some c.bm), Value.int IntKind.i64 ↑boy, Value.int IntKind.i64 n0, Value.int IntKind.i64 n1, Value.int IntKind.i64 n2, Value.int IntKind.i64 n3, Value.int IntKind.i64 n4] 76)) d) os).cell? ⟨bw, 0, none⟩ = some (.int .i64 wk) := cell_regrown (((bcell kW).1 bw _ hzw).trans hwc)
  have cL : ∀ d os, (grow (redrawn (w.alloc (Obj.cells #[Value.slice (some ⟨c.bb, c.ob, none⟩) c.B.boys.length c.capb, Value.int IntKind.i64 c.B.weeks, Value.slice c.q c.B.trials.length c.capt, Value.map (some c.bm), Value.int IntKind.i64 ↑boy, Value.int IntKind.i64 n0, Value.int IntKind.i64 n1, Value.int IntKind.i64 n2, Value.int IntKind.i64 n3, Value.int IntKind.i64 n4] 76)) d) os).cell? ⟨c.bb, c.ob + boy * 11 + 8, none⟩ = some (.int .i64 loss) := cell_regrown (((bcell kW).1 c.bb _ hin).trans hc)
  have sW : w.heap.size ≤ (w.alloc (Obj.cells #[Value.slice (some ⟨c.bb, c.ob, none⟩) c.B.boys.length c.capb, Value.int IntKind.i64 c.B.weeks, Value.slice c.q c.B.trials.length c.capt, Value.map (some c.bm), Value.int IntKind.i64 ↑boy, Value.int IntKind.i64 n0, Value.int IntKind.i64 n1, Value.int IntKind.i64 n2, Value.int IntKind.i64 n3, Value.int IntKind.i64 n4] 76)).heap.size := by simp
  go_enter Tryd.func42, Tryd.ntmps42
  go_wp2_with fail
  generalize w.alloc (Obj.cells #[Value.slice (some ⟨c.bb, c.ob, none⟩) c.B.boys.length c.capb, Value.int IntKind.i64 c.B.weeks, Value.slice c.q c.B.trials.length c.capt, Value.map (some c.bm), Value.int IntKind.i64 ↑boy, Value.int IntKind.i64 n0, Value.int IntKind.i64 n1, Value.int IntKind.i64 n2, Value.int IntKind.i64 n3, Value.int IntKind.i64 n4] 76) = W at *
  have zL : ∀ d os, c.bb < (grow (redrawn W d) os).heap.size := fun d os => Nat.lt_of_lt_of_le (Nat.lt_of_lt_of_le hin sW) (below_regrown W d os).size
  have HL := Lib.hid cL
  have HZ := Lib.hid zL
  clear cL zL hc hwc
  refine wp_region_quiet_below (by kernel_rfl) (by kernel_rfl) ?_
  repeat (any_goals (quiet_step (first | exact Calls.regrown_of (isBroken_any _ _ _ _ _ _ _ _ _ _ _ _) | exact Calls.regrown_of (highest_any _ _ _ _ _ _ _ _ _ _ _ _ _ _ _ _ hb hl (HL.out _ _) (HZ.out _ _) h1 h2 h3 h4 h5))))
  refine wpQuiet_nil ?_
  intro _ hw'
  obtain ⟨⟨dq, osq⟩, hw''⟩ := hw'
  subst hw''
  have kW2 := kept_trans kW (below_regrown W dq osq)
  go_wp2_with fail
  refine bodyPost_ret (v := .tuple #[.int .i64 (top n1 n2 n3 loss wk), .bool (!decide (n4 ≤ wk))]) (by simp [results, Tryd.results42, go_sem]) rfl ?_
  exact ⟨rfl, kW2⟩

theorem highest_tells (S : Nat → Prop) (c : Choir) (boy : Nat) (wk : Int) (x : Boy) (hx : c.B.boys[boy]? = some x) (bw : Nat) (W : World) (hat : ChoirAt S W c) (h4 : 0 ≤ wk ∧ wk ≤ 100) (hwc : W.cell? ⟨bw, 0, none⟩ = some (.int .i64 wk)) :
    Tells c boy x W 42 #[.pointer (some ⟨bw, 0, none⟩)] (hiF c.B boy wk) := by
  have hok := hat.ok
  have hlen : c.B.boys.length ≤ 4 := by
    have := hok
    simp only [Book.okB, inB, Bool.and_eq_true, decide_eq_true_eq] at this
    omega
  have hbl : boy < c.B.boys.length := (List.getElem?_eq_some_iff.1 hx).1
  have hxok : x.okB = true := by
    simp only [Book.okB, Bool.and_eq_true, List.all_eq_true] at hok
    exact hok.1.2 x (List.mem_of_getElem? hx)
  obtain ⟨hsp, hls⟩ := spanAt_ok x hxok
  refine ⟨enters_of Tryd.func42 (by kernel_rfl) rfl, fun A n hA hn => ?_⟩
  obtain ⟨_, _, _, _, _, _, _, _, c8, _⟩ := hat.boys.2 boy x hx
  have hr := truths_rng hn
  obtain ⟨n0, n1, n2, n3, n4, rfl⟩ := truths_len hn
  have r1 := hr 1 n1 rfl
  have r2 := hr 2 n2 rfl
  have r3 := hr 3 n3 rfl
  have s1 := hsp 1 (by omega)
  have s2 := hsp 2 (by omega)
  have s3 := hsp 3 (by omega)
  have := highest1_any c boy wk n0 n1 n2 n3 n4 x.ls bw A (kcell hA hwc) hbl hlen (kcell hA c8) (Nat.lt_of_lt_of_le hat.boys.1 hA.size) (by omega) (by omega) (by omega) h4 (by omega)
  have e : (!decide (n4 ≤ wk)) = decide (wk < n4) := by rw [← decide_not]; simp
  rw [e] at this
  simpa [hiF, lossOf, hx] using this

/-- the highest note in a week, at least and at most, or that there is none, or the error of trials that cannot all be right -/
def HighP (B : Book) (boy : Nat) (week : Int) (W : World) (e : Ending) (C : World) : Prop :=
  ∃ lo hi err, e = .returned (.tuple #[.agg #[.int .i64 lo, .int .i64 hi], .int .i64 err]) ∧ Kept W C ∧
    ((Can B ∧ ∃ x fd, B.boys[boy]? = some x ∧ spanOf (hiF B boy week) (B.truths boy x) = (lo, hi, fd) ∧ err = if fd then 0 else 4) ∨ (err = 22 ∧ ¬ Can B ∧ lo = 0 ∧ hi = 0))

set_option maxHeartbeats 4000000 in
theorem highest_all (p q : Option Addr) (cap capt : Nat) (B : Book) (boy : Nat) (week : Int) (W : World) (h : BookAt W p q cap capt B) (hg : Nothing W) (hok0 : B.okB = true) (hb : boy < B.boys.length) (hwk0 : 0 ≤ week ∧ week < B.weeks) :
    Calls Tryd.prog 14 #[B.val p q cap capt, .int .i64 (boy : Int), .int .i64 week] W (HighP B boy week W) := by
  have hwk : 0 ≤ B.weeks ∧ B.weeks ≤ 1000 := by
    have := hok0
    simp only [Book.okB, inB, Bool.and_eq_true, decide_eq_true_eq] at this
    omega
  have hwk1 : 0 ≤ week ∧ week ≤ 100 := by
    have := hok0
    simp only [Book.okB, inB, Bool.and_eq_true, decide_eq_true_eq] at this
    omega
  have hnb := h.nb
  have hboyT : inB (boy : Int) 0 (B.boys.length - 1) = true := by simp [inB]; omega
  have hweekT : inB week 0 (B.weeks - 1) = true := by simp [inB]; omega
  refine callsIn_wide.1 (callsIn_of_wp (n := 0) Tryd.func14 rfl trivial ?_ rfl)
  simp only [Tryd.ntmps14, List.size_toArray, List.length_cons, List.length_nil, Nat.reduceAdd, Nat.reduceSub, Array.replicate_succ, Array.replicate_zero, List.push_toArray, List.append_toArray, List.nil_append, List.cons_append]
  unfold Book.val
  gi_wp2_with fail
  have hk0 : Kept W (((W.alloc (Obj.cells #[.slice p B.boys.length cap, .int .i64 B.weeks, .slice q B.trials.length capt] 25)).alloc (Obj.cells #[.int .i64 week] 3)).alloc (Obj.cells #[.int .i64 0, .int .i64 0] 38)) := kept_alloc (kept_alloc (kept_alloc (kept_refl _) _) _) _
  have a0c : (((W.alloc (Obj.cells #[.slice p B.boys.length cap, .int .i64 B.weeks, .slice q B.trials.length capt] 25)).alloc (Obj.cells #[.int .i64 week] 3)).alloc (Obj.cells #[.int .i64 0, .int .i64 0] 38)).cell? ⟨W.heap.size, 0, none⟩ = some (.slice p B.boys.length cap) := by go_simp
  have a1c : (((W.alloc (Obj.cells #[.slice p B.boys.length cap, .int .i64 B.weeks, .slice q B.trials.length capt] 25)).alloc (Obj.cells #[.int .i64 week] 3)).alloc (Obj.cells #[.int .i64 0, .int .i64 0] 38)).cell? ⟨W.heap.size, 1, none⟩ = some (.int .i64 B.weeks) := by go_simp
  have a2c : (((W.alloc (Obj.cells #[.slice p B.boys.length cap, .int .i64 B.weeks, .slice q B.trials.length capt] 25)).alloc (Obj.cells #[.int .i64 week] 3)).alloc (Obj.cells #[.int .i64 0, .int .i64 0] 38)).cell? ⟨W.heap.size, 2, none⟩ = some (.slice q B.trials.length capt) := by go_simp
  have wc : (((W.alloc (Obj.cells #[.slice p B.boys.length cap, .int .i64 B.weeks, .slice q B.trials.length capt] 25)).alloc (Obj.cells #[.int .i64 week] 3)).alloc (Obj.cells #[.int .i64 0, .int .i64 0] 38)).cell? ⟨W.heap.size + 1, 0, none⟩ = some (.int .i64 week) := by go_simp
  have s0c : (((W.alloc (Obj.cells #[.slice p B.boys.length cap, .int .i64 B.weeks, .slice q B.trials.length capt] 25)).alloc (Obj.cells #[.int .i64 week] 3)).alloc (Obj.cells #[.int .i64 0, .int .i64 0] 38)).cell? ⟨W.heap.size + 1 + 1, 0, none⟩ = some (.int .i64 0) := by go_simp
  have s1c : (((W.alloc (Obj.cells #[.slice p B.boys.length cap, .int .i64 B.weeks, .slice q B.trials.length capt] 25)).alloc (Obj.cells #[.int .i64 week] 3)).alloc (Obj.cells #[.int .i64 0, .int .i64 0] 38)).cell? ⟨W.heap.size + 1 + 1, 1, none⟩ = some (.int .i64 0) := by go_simp
  have sf : ∀ i, (((W.alloc (Obj.cells #[.slice p B.boys.length cap, .int .i64 B.weeks, .slice q B.trials.length capt] 25)).alloc (Obj.cells #[.int .i64 week] 3)).alloc (Obj.cells #[.int .i64 0, .int .i64 0] 38)).frozen? ⟨W.heap.size + 1 + 1, i, none⟩ = false := by intro i; go_simp
  generalize (((W.alloc (Obj.cells #[.slice p B.boys.length cap, .int .i64 B.weeks, .slice q B.trials.length capt] 25)).alloc (Obj.cells #[.int .i64 week] 3)).alloc (Obj.cells #[.int .i64 0, .int .i64 0] 38)) = W0 at *
  refine wpIn_region_invL (StO 9 (fun j => match j with | 0 => (.agg #[.slice p B.boys.length cap, .int .i64 B.weeks, .slice q B.trials.length capt]) | 1 => (.agg #[.slice p B.boys.length cap, .int .i64 B.weeks, .slice q B.trials.length capt]) | 2 => .int .i64 (boy : Int) | 5 => (.agg #[.slice p B.boys.length cap, .int .i64 B.weeks, .slice q B.trials.length capt]) | 6 => .int .i64 week | _ => .bool true) W0 B true) (by kernel_rfl) (by kernel_rfl) StO.start ?hop ?hend
  case hop =>
    rintro i o listed a w hl ho h1 h2 hcl ⟨v, err, pp, ha, hw⟩
    have hi11 : i < 16 := (List.getElem?_eq_some_iff.1 ho).1
    match i, ho with
    | 0, ho =>
      have st := StO.same (by kernel_rfl) ha hw ho h1 (by omega) (by omega) (by omega) (kept_refl w)
      have ST := Lib.hid st; clear st
      cases ho
      rw [if_pos (by rfl)]
      have t3 := ha.old 3 (by kernel_rfl)
      simp at t3
      have r0 := kcell hw.kept a0c
      have r1 := kcell hw.kept a1c
      have r2 := kcell hw.kept a2c
      go_simp
      exact ST.out
    | 1, ho =>
      have st := StO.same (by kernel_rfl) ha hw ho h1 (by omega) (by omega) (by omega) (kept_refl w)
      have ST := Lib.hid st; clear st
      cases ho
      rw [if_pos (by rfl)]
      have t3 := ha.old 3 (by kernel_rfl)
      simp at t3
      have r0 := kcell hw.kept a0c
      have r1 := kcell hw.kept a1c
      have r2 := kcell hw.kept a2c
      go_simp
      exact ST.out
    | 2, ho =>
      have st := StO.same (by kernel_rfl) ha hw ho h1 (by omega) (by omega) (by omega) (kept_refl w)
      have ST := Lib.hid st; clear st
      cases ho
      rw [if_pos (by rfl)]
      have t1 := ha.old 1 (by kernel_rfl)
      simp at t1
      go_simp
      exact ST.out
    | 3, ho =>
      have st := fun w' (k : Kept w w') => StO.same (by kernel_rfl) ha hw ho h1 (by omega) (by omega) (by omega) k
      have ST := Lib.hid st; clear st
      cases ho
      rw [if_pos (by rfl)]
      have t15 := ha.new 1 (h2 ⟨1, .data⟩ (by simp) rfl) (d := 15) rfl rfl (by simp)
      simp [openVs] at t15
      have t16 := ha.new 2 (h2 ⟨2, .data⟩ (by simp) rfl) (d := 16) rfl rfl (by simp)
      simp [openVs] at t16
      have hcall := isBoy_any p B.boys.length cap (.int .i64 B.weeks) (.slice q B.trials.length capt) (boy : Int) w hnb
      rw [hboyT] at hcall
      go_simp
      refine ⟨trivial, rfl, (callsIn_wide.2 hcall).mono ?_⟩
      rintro e w' ⟨rfl, hk⟩
      exact ST.out _ hk
    | 4, ho =>
      have st := StO.same (by kernel_rfl) ha hw ho h1 (by omega) (by omega) (by omega) (kept_refl w)
      have ST := Lib.hid st; clear st
      cases ho
      rw [if_pos (by rfl)]
      have t17 := ha.new 3 (h2 ⟨3, .data⟩ (by simp) rfl) (d := 17) rfl rfl (by simp)
      simp [openVs] at t17
      go_simp
      exact ST.out
    | 5, ho =>
      have st := StO.same (by kernel_rfl) ha hw ho h1 (by omega) (by omega) (by omega) (kept_refl w)
      have ST := Lib.hid st; clear st
      cases ho
      have t18 := ha.new 4 (h2 ⟨4, .guard⟩ (by simp) rfl) (d := 18) rfl rfl (by simp)
      simp [openVs] at t18
      rw [if_pos (by simp [Region.wanted, yielded, getD_bool t18])]
      have t3 := ha.old 3 (by kernel_rfl)
      simp at t3
      have r0 := kcell hw.kept a0c
      have r1 := kcell hw.kept a1c
      have r2 := kcell hw.kept a2c
      go_simp
      exact ST.out
    | 6, ho =>
      have st := StO.same (by kernel_rfl) ha hw ho h1 (by omega) (by omega) (by omega) (kept_refl w)
      have ST := Lib.hid st; clear st
      cases ho
      have t18 := ha.new 4 (h2 ⟨4, .guard⟩ (by simp) rfl) (d := 18) rfl rfl (by simp)
      simp [openVs] at t18
      rw [if_pos (by simp [Region.wanted, yielded, getD_bool t18])]
      have t5 := ha.old 5 (by kernel_rfl)
      simp at t5
      have rw0 := kcell hw.kept wc
      go_simp
      exact ST.out
    | 7, ho =>
      have st := fun w' (k : Kept w w') => StO.same (by kernel_rfl) ha hw ho h1 (by omega) (by omega) (by omega) k
      have ST := Lib.hid st; clear st
      cases ho
      have t18 := ha.new 4 (h2 ⟨4, .guard⟩ (by simp) rfl) (d := 18) rfl rfl (by simp)
      simp [openVs] at t18
      rw [if_pos (by simp [Region.wanted, yielded, getD_bool t18])]
      have t19 := ha.new 5 (h2 ⟨5, .data⟩ (by simp) rfl) (d := 19) rfl rfl (by simp)
      simp [openVs] at t19
      have t20 := ha.new 6 (h2 ⟨6, .data⟩ (by simp) rfl) (d := 20) rfl rfl (by simp)
      simp [openVs] at t20
      have hcall := isWeek_any (.slice p B.boys.length cap) (.slice q B.trials.length capt) B.weeks week w hwk.1 hwk.2
      rw [hweekT] at hcall
      go_simp
      refine ⟨trivial, rfl, (callsIn_wide.2 hcall).mono ?_⟩
      rintro e w' ⟨rfl, hk⟩
      exact ST.out _ hk
    | 8, ho =>
      have st := StO.same (by kernel_rfl) ha hw ho h1 (by omega) (by omega) (by omega) (kept_refl w)
      have ST := Lib.hid st; clear st
      cases ho
      rw [if_pos (by rfl)]
      have t18 := ha.new 4 (h2 ⟨4, .data⟩ (by simp) rfl) (d := 18) rfl rfl (by simp)
      simp [openVs] at t18
      have t21 := ha.new 7 (h2 ⟨7, .data⟩ (by simp) rfl) (d := 21) rfl rfl (by simp)
      simp [openVs] at t21
      go_simp
      exact ST.out
    | 9, ho =>
      obtain ⟨n5, n6, n7, n9, n10⟩ := open_first hcl h1 ⟨_, rfl, ⟨9, .data⟩, by simp, rfl, rfl⟩ ⟨_, rfl, ⟨10, .data⟩, by simp, rfl, rfl⟩ ⟨_, rfl, ⟨10, .data⟩, by simp, rfl, rfl⟩ ⟨_, rfl, ⟨11, .data⟩, by simp, rfl, rfl⟩ ⟨_, rfl, ⟨12, .data⟩, by simp, rfl, rfl⟩
      have st := fun v' err' w' (k : OpenReg W0 B true v' err' pp true (on listed 13) (on listed 14) w') => StO.opened (by kernel_rfl) ha hl ho h1 n5 n6 n7 n9 n10 k
      have ST := Lib.hid st; clear st
      cases ho
      rw [if_pos (by rfl)]
      have t14 := ha.new 0 (h2 ⟨0, .data⟩ (by simp) rfl) (d := 14) rfl rfl (by simp)
      simp [openVs] at t14
      have t22 := ha.new 8 (h2 ⟨8, .data⟩ (by simp) rfl) (d := 22) rfl rfl (by simp)
      simp [openVs] at t22
      have hcall := open_any p q cap capt B true W w h (kept_trans hk0 hw.kept) (hg.kept (kept_trans hk0 hw.kept))
      unfold Book.val at hcall
      have HOP := Lib.hid (fun e w' => hw.opened (e := e) (w' := w') W.heap.size hk0.size n9)
      go_simp
      refine ⟨trivial, rfl, (callsIn_wide.2 hcall).mono ?_⟩
      intro e w' hop
      obtain ⟨v', err', rfl, hr⟩ := HOP.out e w' hop
      exact ST.out v' err' w' hr
    | 10, ho =>
      have st := StO.same (by kernel_rfl) ha hw ho h1 (by omega) (by omega) (by omega) (kept_refl w)
      have ST := Lib.hid st; clear st
      cases ho
      rw [if_pos (by rfl)]
      have t23 := ha.new 9 (h2 ⟨9, .data⟩ (by simp) rfl) (d := 23) rfl rfl (by simp)
      simp [openVs] at t23
      go_simp
      exact ST.out
    | 11, ho =>
      have st := StO.same (by kernel_rfl) ha hw ho h1 (by omega) (by omega) (by omega) (kept_refl w)
      have ST := Lib.hid st; clear st
      cases ho
      rw [if_pos (by rfl)]
      have t13 := ha.new 10 (h2 ⟨10, .data⟩ (by simp) rfl) (d := 13) rfl rfl (by simp)
      simp [openVs] at t13
      go_simp
      exact ST.out
    | 12, ho =>
      have st := StO.same (by kernel_rfl) ha hw ho h1 (by omega) (by omega) (by omega) (kept_refl w)
      have ST := Lib.hid st; clear st
      cases ho
      rw [if_pos (by rfl)]
      have t13 := ha.new 10 (h2 ⟨10, .data⟩ (by simp) rfl) (d := 13) rfl rfl (by simp)
      simp [openVs] at t13
      go_simp
      exact ST.out
    | 13, ho =>
      have n9 : on listed 14 = false := by
        cases hb : on listed 14 with
        | false => rfl
        | true => have := hcl 14 _ rfl hb ⟨13, .data⟩ (by simp) rfl; rw [on_no h1] at this; cases this
      have st := StO.boxed (by kernel_rfl) ha hw hl ho h1 n9
      have ST := Lib.hid st; clear st
      cases ho
      rw [if_pos (by rfl)]
      go_simp
      exact ST.out
    | 14, ho =>
      have y8 : on listed 13 = true := h2 ⟨13, .data⟩ (by cases ho; simp) rfl
      have y4 : on listed 9 = true := h2 ⟨9, .chain⟩ (by cases ho; simp) rfl
      have t8 := ha.new 13 y8 (d := 8) rfl rfl (by simp)
      simp [openVs] at t8
      have t24 := ha.new 11 (h2 ⟨11, .data⟩ (by cases ho; simp) rfl) (d := 24) rfl rfl (by simp)
      simp [openVs] at t24
      obtain ⟨hbp, ⟨f0, f1, f2, f3, b0, b1, b2, b3⟩, hbf⟩ := hw.box y8
      have bf0 := hbf 0
      have bf1 := hbf 1
      have bf2 := hbf 2
      have bf3 := hbf 3
      rcases hw.res y4 with ⟨_, _, _, _, c, S, hcB, rfl, _⟩ | ⟨rfl, _⟩
      · clear hcB
        have st := StO.stored (by kernel_rfl) ha hw hl ho (by cases ho; rfl) h1 y8 (show c.val = _ from rfl)
        have ST := Lib.hid st; clear st
        cases ho
        rw [if_pos (by rfl)]
        unfold Choir.val at t24
        clear hbf
        go_simp
        exact ST.out
      · have st := StO.stored (by kernel_rfl) ha hw hl ho (by cases ho; rfl) h1 y8 (show zeroChoir = _ from rfl)
        have ST := Lib.hid st; clear st
        cases ho
        rw [if_pos (by rfl)]
        unfold zeroChoir at t24
        clear hbf
        go_simp
        exact ST.out
    | 15, ho =>
      have st := StO.same (by kernel_rfl) ha hw ho h1 (by omega) (by omega) (by omega) (kept_refl w)
      have ST := Lib.hid st; clear st
      cases ho
      rw [if_pos (by rfl)]
      have t25 := ha.new 12 (h2 ⟨12, .data⟩ (by simp) rfl) (d := 25) rfl rfl (by simp)
      simp [openVs] at t25
      go_simp
      exact ST.out

  case hend =>
    rintro listed a w hall ⟨v, err, pp, ha, hw⟩
    rw [show on listed 9 = true from hall 9 (by simp), show on listed 13 = true from hall 13 (by simp), show on listed 14 = true from hall 14 (by simp)] at hw
    obtain ⟨y, hy, hae⟩ := ha.lit (n := 43) rfl
    have y1 := (hy 1).symm.trans (ha.old 1 (by kernel_rfl))
    have y5 := (hy 5).symm.trans (ha.old 5 (by kernel_rfl))
    have y6 := (hy 6).symm.trans (ha.old 6 (by kernel_rfl))
    have y7 := (hy 7).symm.trans (ha.old 7 (by kernel_rfl))
    have y8 := (hy 8).symm.trans (ha.new 13 (hall 13 (by simp)) (d := 8) rfl rfl (by simp))
    have y9 := (hy 9).symm.trans (ha.new 15 (hall 15 (by simp)) (d := 9) rfl rfl (by simp))
    simp at y1 y5 y6 y7
    simp [openVs] at y8 y9
    simp only [List.range, List.range.loop, List.map] at hae
    rw [y1, y5, y6, y7, y8, y9] at hae
    subst hae
    clear ha hy y1 y5 y6 y7 y8 y9
    refine (by assumption : ∀ a w, Code.wpIn _ _ _ _ _ a w → _) _ w ?_
    have wk := kcell hw.kept wc
    have s0 := kcell hw.kept s0c
    have s1 := kcell hw.kept s1c
    have sf0 : w.frozen? ⟨W.heap.size + 1 + 1, 0, none⟩ = false := ((kturns hw.kept (fun _ => False)).frozen (Go.Ai.lt_of_cell s0c) (fun h => h)).trans (sf 0)
    have sf1 : w.frozen? ⟨W.heap.size + 1 + 1, 1, none⟩ = false := ((kturns hw.kept (fun _ => False)).frozen (Go.Ai.lt_of_cell s0c) (fun h => h)).trans (sf 1)
    obtain ⟨_, x0, x1, x2, x3, hv, b0, b1, b2, b3⟩ := hw.put rfl
    rcases hw.res rfl with ⟨rfl, hok, _, hcan, c, S, hcB, hvc, hch, hSz, hSp⟩ | ⟨rfl, herr⟩
    · subst hcB
      subst hvc
      have e4 := congrArg (fun u => match u with | Value.agg cs => cs.toList | _ => []) hv
      simp only [Choir.val, List.cons.injEq, and_true] at e4
      obtain ⟨rfl, rfl, rfl, rfl⟩ := e4
      have hzp := Go.Ai.lt_of_cell b0
      have hzw := Go.Ai.lt_of_cell wk
      have hx : c.B.boys[boy]? = some c.B.boys[boy] := List.getElem?_eq_getElem hb
      generalize c.B.boys[boy] = x at *
      generalize hBP : HighP c.B boy week W = PP at *
      gi_wp2_with fail
      have hk6 : Kept w (w.alloc (Obj.cells #[.func (.func 42) #[] #[.pointer (some ⟨W.heap.size + 1, 0, none⟩)]] 82)) := kept_alloc (kept_refl _) _
      have hch1 := hch.turns (kturns hk6 (fun _ => False)) (fun _ _ h => h)
      have hcall := span_any S c boy x hx (w.alloc (Obj.cells #[.func (.func 42) #[] #[.pointer (some ⟨W.heap.size + 1, 0, none⟩)]] 82)) hch1 (fun b hb => Nat.lt_of_lt_of_le (hSz b hb) hk6.size) _ _ _ (highest_tells S c boy week x hx (W.heap.size + 1) _ hch1 hwk1 (kcell hk6 wk))
      unfold Choir.val at hcall
      generalize w.alloc (Obj.cells #[.func (.func 42) #[] #[.pointer (some ⟨W.heap.size + 1, 0, none⟩)]] 82) = w1 at *
      refine ⟨trivial, rfl, (callsIn_wide.2 hcall).mono ?_⟩
      rintro e w2 ⟨rfl, hk7⟩
      have hk8 := kept_trans hk6 hk7
      have s0 := kcell hk8 s0
      have s1 := kcell hk8 s1
      have sf0 : w2.frozen? ⟨W.heap.size + 1 + 1, 0, none⟩ = false := ((kturns hk8 (fun _ => False)).frozen (Go.Ai.lt_of_cell (kcell hw.kept s0c)) (fun h => h)).trans sf0
      have sf1 : w2.frozen? ⟨W.heap.size + 1 + 1, 1, none⟩ = false := ((kturns hk8 (fun _ => False)).frozen (Go.Ai.lt_of_cell (kcell hw.kept s0c)) (fun h => h)).trans sf1
      have hzs := Go.Ai.lt_of_cell s0
      generalize hsp : spanOf (hiF c.B boy week) (c.B.truths boy x) = st at *
      obtain ⟨lo, hi, fd⟩ := st
      simp only
      clear hcall
      have hk9 : Kept w2 (w2.alloc (Obj.cells #[.int .i64 lo, .int .i64 hi] 38)) := kept_alloc (kept_refl _) _
      have HSP := Lib.hid hsp; clear hsp
      cases fd with
      | false =>
        gi_wp2_with fail
        have hT := Turns.setCell (T := fun b => b = W.heap.size + 1 + 1) (Turns.setCell (T := fun b => b = W.heap.size + 1 + 1) (Turns.refl _ w2) rfl 0 (.int .i64 0)) rfl 1 (.int .i64 0)
        have v0 := (cell_set_ne (W := w2.setCell ⟨W.heap.size + 1 + 1, 0, none⟩ (.int .i64 0)) (b := W.heap.size + 1 + 1) (o := 1) (o' := 0) (v := .int .i64 0) (by omega)).trans (cell_set_eq s0)
        have v1 := cell_set_eq (v := .int .i64 0) ((cell_set_ne (W := w2) (b := W.heap.size + 1 + 1) (o := 0) (o' := 1) (v := .int .i64 0) (by omega)).trans s1)
        have hk9 : Kept ((w2.setCell ⟨W.heap.size + 1 + 1, 0, none⟩ (.int .i64 0)).setCell ⟨W.heap.size + 1 + 1, 1, none⟩ (.int .i64 0)) (((w2.setCell ⟨W.heap.size + 1 + 1, 0, none⟩ (.int .i64 0)).setCell ⟨W.heap.size + 1 + 1, 1, none⟩ (.int .i64 0)).alloc (Obj.cells #[.int .i64 lo, .int .i64 hi] 38)) := kept_alloc (kept_refl _) _
        have u0 := kcell hk9 v0
        have u1 := kcell hk9 v1
        refine bodyPost_ret (v := .tuple #[.agg #[.int .i64 0, .int .i64 0], .int .i64 4]) (by simp only [results, Tryd.results14]; generalize ((w2.setCell ⟨W.heap.size + 1 + 1, 0, none⟩ (.int .i64 0)).setCell ⟨W.heap.size + 1 + 1, 1, none⟩ (.int .i64 0)).alloc (Obj.cells #[.int .i64 lo, .int .i64 hi] 38) = w9 at *; simp [go_sem, u0, u1]) rfl ?_
        rw [← hBP]
        have hz0 := (kept_trans hk0 hw.kept).size
        have hz8 := hk8.size
        have hkE := Below.trans (Below.trans (kept_trans (kept_trans hk0 hw.kept) hk8) (hT.toBelow (n := W.heap.size) (by rintro b rfl; omega) (by omega))) ⟨hk9.os, hk9.tape, hk9.output, hk9.size, fun k hk => hk9.block k (by have := hT.size; omega)⟩
        have hz : lo = 0 ∧ hi = 0 := by
          by_cases hc : ∃ n ∈ c.B.truths boy x, (hiF c.B boy week n).2 = true
          · obtain ⟨_, _, e, _⟩ := spanOf_some _ _ hc
            rw [HSP.out] at e; cases e
          · have e := spanOf_none (hiF c.B boy week) (c.B.truths boy x) (fun n hn => by
              cases hh : (hiF c.B boy week n).2 with
              | false => rfl
              | true => exact absurd ⟨n, hn, hh⟩ hc)
            rw [HSP.out] at e; cases e; exact ⟨rfl, rfl⟩
        obtain ⟨rfl, rfl⟩ := hz
        exact ⟨0, 0, 4, rfl, hkE, .inl ⟨hcan, x, false, hx, HSP.out, rfl⟩⟩
      | true =>
        gi_wp2_with fail
        have hT := Turns.setCell (T := fun b => b = W.heap.size + 1 + 1) (Turns.setCell (T := fun b => b = W.heap.size + 1 + 1) (Turns.refl _ w2) rfl 0 (.int .i64 lo)) rfl 1 (.int .i64 hi)
        have v0 := (cell_set_ne (W := w2.setCell ⟨W.heap.size + 1 + 1, 0, none⟩ (.int .i64 lo)) (b := W.heap.size + 1 + 1) (o := 1) (o' := 0) (v := .int .i64 hi) (by omega)).trans (cell_set_eq s0)
        have v1 := cell_set_eq (v := .int .i64 hi) ((cell_set_ne (W := w2) (b := W.heap.size + 1 + 1) (o := 0) (o' := 1) (v := .int .i64 lo) (by omega)).trans s1)
        have hk9 : Kept ((w2.setCell ⟨W.heap.size + 1 + 1, 0, none⟩ (.int .i64 lo)).setCell ⟨W.heap.size + 1 + 1, 1, none⟩ (.int .i64 hi)) (((w2.setCell ⟨W.heap.size + 1 + 1, 0, none⟩ (.int .i64 lo)).setCell ⟨W.heap.size + 1 + 1, 1, none⟩ (.int .i64 hi)).alloc (Obj.cells #[.int .i64 lo, .int .i64 hi] 38)) := kept_alloc (kept_refl _) _
        have u0 := kcell hk9 v0
        have u1 := kcell hk9 v1
        refine bodyPost_ret (v := .tuple #[.agg #[.int .i64 lo, .int .i64 hi], .int .i64 0]) (by simp only [results, Tryd.results14]; generalize ((w2.setCell ⟨W.heap.size + 1 + 1, 0, none⟩ (.int .i64 lo)).setCell ⟨W.heap.size + 1 + 1, 1, none⟩ (.int .i64 hi)).alloc (Obj.cells #[.int .i64 lo, .int .i64 hi] 38) = w9 at *; simp [go_sem, u0, u1]) rfl ?_
        rw [← hBP]
        have hz0 := (kept_trans hk0 hw.kept).size
        have hz8 := hk8.size
        have hkE := Below.trans (Below.trans (kept_trans (kept_trans hk0 hw.kept) hk8) (hT.toBelow (n := W.heap.size) (by rintro b rfl; omega) (by omega))) ⟨hk9.os, hk9.tape, hk9.output, hk9.size, fun k hk => hk9.block k (by have := hT.size; omega)⟩
        exact ⟨lo, hi, 0, rfl, hkE, .inl ⟨hcan, x, true, hx, HSP.out, rfl⟩⟩
    · rcases herr with ⟨_, he⟩ | ⟨_, _, he⟩ | ⟨rfl, _, _, hnc⟩
      · rw [hok0] at he; cases he
      · cases he
      gi_wp2_with fail
      have hT := Turns.setCell (T := fun b => b = W.heap.size + 1 + 1) (Turns.setCell (T := fun b => b = W.heap.size + 1 + 1) (Turns.refl _ w) rfl 0 (.int .i64 0)) rfl 1 (.int .i64 0)
      have v0 := (cell_set_ne (W := w.setCell ⟨W.heap.size + 1 + 1, 0, none⟩ (.int .i64 0)) (b := W.heap.size + 1 + 1) (o := 1) (o' := 0) (v := .int .i64 0) (by omega)).trans (cell_set_eq s0)
      have v1 := cell_set_eq (v := .int .i64 0) ((cell_set_ne (W := w) (b := W.heap.size + 1 + 1) (o := 0) (o' := 1) (v := .int .i64 0) (by omega)).trans s1)
      refine bodyPost_ret (v := .tuple #[.agg #[.int .i64 0, .int .i64 0], .int .i64 22]) (by simp [results, Tryd.results14, go_sem, v0, v1]) rfl ?_
      refine ⟨0, 0, 22, rfl, ?_, .inr ⟨rfl, hnc, rfl, rfl⟩⟩
      exact Below.trans (kept_trans hk0 hw.kept) (hT.toBelow (n := W.heap.size) (by rintro b rfl; omega) (by have := (kept_trans hk0 hw.kept).size; omega))
end Go.Proofs.YtchgkfnodcbpiaaDoor
set_option linter.all false
namespace Go.Proofs.YtchgkfnodcbpiaaDoor
open Go.RowKit Go.Sort Go.Rg
set_option maxRecDepth 100000

theorem only_is (n : Int) (w : World) : Calls Tryd.prog 24 #[.int .i64 n] w fun e w' => e = .returned (.agg #[.int .i64 n, .int .i64 n]) ∧ Kept w w' := by
  go_enter Tryd.func24, Tryd.ntmps24
  go_wp2_with fail
  refine bodyPost_ret (v := .agg #[.int .i64 n, .int .i64 n]) (by simp [results, Tryd.results24, go_sem]) rfl ⟨rfl, ?_⟩
  exact kept_alloc (kept_refl _) _
theorem bounds_is (a b : Int) (w : World) : Calls Tryd.prog 23 #[.int .i64 a, .int .i64 b] w fun e w' => e = .returned (.agg #[.int .i64 a, .int .i64 b]) ∧ Kept w w' := by
  go_enter Tryd.func23, Tryd.ntmps23
  go_wp2_with fail
  refine bodyPost_ret (v := .agg #[.int .i64 a, .int .i64 b]) (by simp [results, Tryd.results23, go_sem]) rfl ⟨rfl, ?_⟩
  exact kept_alloc (kept_refl _) _
theorem under_true (a b c d : Int) (w : World) (h1 : c ≤ a) (h2 : b ≤ d) : Calls Tryd.prog 13 #[.agg #[.int .i64 a, .int .i64 b], .agg #[.int .i64 c, .int .i64 d]] w fun e w' => e = .returned (.bool true) ∧ Kept w w' := by
  go_enter Tryd.func13, Tryd.ntmps13
  go_wp2_with fail
  go_ret
  exact ⟨rfl, kept_alloc (kept_alloc (kept_refl _) _) _⟩
theorem eqS00 (w : World) : (Op.equalIn 10000 38 (.agg #[.int .i64 0, .int .i64 0]) (.agg #[.int .i64 0, .int .i64 0])).run Tryd.prog w = .ok true w := by kernel_rfl
end Go.Proofs.YtchgkfnodcbpiaaDoor
set_option linter.all false
namespace Go.Proofs.YtchgkfnodcbpiaaDoor
open Go.ChangeShapes Go.WideShapes Go.ChangeAt Go.WideMaps Go.WideElems Go.RowKit Go.Deep Go.Rg
set_option maxRecDepth 100000

theorem vown : ownKnob Tryd.prog.godebug = none := by kernel_rfl
theorem vlaidOut : laidOutB Tryd.prog = true := by kernel_rfl
theorem gNoth : Tryd.prog.globalNamed "decani/voice.nothing" = some 0 := by kernel_rfl
theorem tNoth : (Tryd.prog.globals[0]?).map (·.type) = some 74 := by kernel_rfl
theorem gBnds : Tryd.prog.globalNamed "decani/voice.bounds" = some 1 := by kernel_rfl
theorem tBnds : (Tryd.prog.globals[1]?).map (·.type) = some 109 := by kernel_rfl
theorem vcI : Tryd.prog.cellsOf 3 = 1 := by kernel_rfl
theorem vcN : Tryd.prog.cellsOf 74 = 5 := by kernel_rfl
theorem vcP : Tryd.prog.cellsOf 108 = 2 := by kernel_rfl
theorem vcS : Tryd.prog.cellsOf 38 = 2 := by kernel_rfl
theorem vcB : Tryd.prog.cellsOf 53 = 11 := by kernel_rfl
theorem vcT : Tryd.prog.cellsOf 27 = 4 := by kernel_rfl
theorem vcL : Tryd.prog.cellsOf 22 = 1 := by kernel_rfl
theorem vcM : Tryd.prog.cellsOf 23 = 1 := by kernel_rfl
theorem vcK : Tryd.prog.cellsOf 25 = 3 := by kernel_rfl
theorem vcA : Tryd.prog.cellsOf 28 = 3 := by kernel_rfl
section
variable {H : Type} {enc : TypeId × Value → H} {w : World} {base : Nat} {sp : Nat → Bool} {held : Bool} {fuel : Nat} {cs : List Value} {x : DataW H × List MemPlace}
theorem one_int {c : Value} (h : DataW.trod enc Tryd.prog w base sp held fuel 3 [c] = some x) : ∃ n, c = .int .i64 n := by
  obtain ⟨z, e, _⟩ := DataW.trod_int Tryd.underlying3 h
  simp at e
  exact ⟨z, e⟩
theorem span_ints {c d : Value} (h : DataW.trod enc Tryd.prog w base sp held fuel 38 [c, d] = some x) : ∃ a b, c = .int .i64 a ∧ d = .int .i64 b := by
  obtain ⟨xs, n, _, hx, hl, hn, hf⟩ := DataW.trod_struct Tryd.underlying38 h
  match xs, hn with
  | [y0, y1], _ =>
    have t0 : DataW.trod enc Tryd.prog w base sp held n 3 (([c, d].drop 0).take (Tryd.prog.cellsOf 3)) = some y0 := hf 0 _ rfl
    have t1 : DataW.trod enc Tryd.prog w base sp held n 3 (([c, d].drop 1).take (Tryd.prog.cellsOf 3)) = some y1 := hf 1 _ rfl
    rw [vcI] at t0 t1
    obtain ⟨a, rfl⟩ := one_int t0
    obtain ⟨b, rfl⟩ := one_int t1
    exact ⟨a, b, rfl, rfl⟩
def boyCells (x : Boy) : List Value := [.int .i64 x.l0, .int .i64 x.l1, .int .i64 x.h0, .int .i64 x.h1, .int .i64 x.g0, .int .i64 x.g1, .int .i64 x.t0, .int .i64 x.t1, .int .i64 x.ls, .int .i64 x.b0, .int .i64 x.b1]
theorem boy_ints (h : DataW.trod enc Tryd.prog w base sp held fuel 53 cs = some x) : ∃ b : Boy, cs = boyCells b := by
  obtain ⟨xs, n, _, hx, hl, hn, hf⟩ := DataW.trod_struct Tryd.underlying53 h
  rw [vcB] at hl
  match cs, hl, xs, hn with
  | [c0, c1, c2, c3, c4, c5, c6, c7, c8, c9, c10], _, [y0, y1, y2, y3, y4, y5], _ =>
    have t0 : DataW.trod enc Tryd.prog w base sp held n 38 (([c0, c1, c2, c3, c4, c5, c6, c7, c8, c9, c10].drop 0).take (Tryd.prog.cellsOf 38)) = some y0 := hf 0 _ rfl
    have t1 : DataW.trod enc Tryd.prog w base sp held n 38 (([c0, c1, c2, c3, c4, c5, c6, c7, c8, c9, c10].drop 2).take (Tryd.prog.cellsOf 38)) = some y1 := hf 1 _ rfl
    have t2 : DataW.trod enc Tryd.prog w base sp held n 38 (([c0, c1, c2, c3, c4, c5, c6, c7, c8, c9, c10].drop 4).take (Tryd.prog.cellsOf 38)) = some y2 := hf 2 _ rfl
    have t3 : DataW.trod enc Tryd.prog w base sp held n 38 (([c0, c1, c2, c3, c4, c5, c6, c7, c8, c9, c10].drop 6).take (Tryd.prog.cellsOf 38)) = some y3 := hf 3 _ rfl
    have t4 : DataW.trod enc Tryd.prog w base sp held n 3 (([c0, c1, c2, c3, c4, c5, c6, c7, c8, c9, c10].drop 8).take (Tryd.prog.cellsOf 3)) = some y4 := hf 4 _ rfl
    have t5 : DataW.trod enc Tryd.prog w base sp held n 38 (([c0, c1, c2, c3, c4, c5, c6, c7, c8, c9, c10].drop 9).take (Tryd.prog.cellsOf 38)) = some y5 := hf 5 _ rfl
    rw [vcS] at t0 t1 t2 t3 t5
    rw [vcI] at t4
    obtain ⟨a0, a1, rfl, rfl⟩ := span_ints t0
    obtain ⟨a2, a3, rfl, rfl⟩ := span_ints t1
    obtain ⟨a4, a5, rfl, rfl⟩ := span_ints t2
    obtain ⟨a6, a7, rfl, rfl⟩ := span_ints t3
    obtain ⟨a8, rfl⟩ := one_int t4
    obtain ⟨a9, a10, rfl, rfl⟩ := span_ints t5
    exact ⟨⟨a0, a1, a2, a3, a4, a5, a6, a7, a8, a9, a10⟩, rfl⟩
def trialCells (t : Trial) : List Value := [.int .i64 t.boy, .int .i64 t.week, .int .i64 t.note, .int .i64 t.sang]
theorem trial_ints (h : DataW.trod enc Tryd.prog w base sp held fuel 27 cs = some x) : ∃ t : Trial, cs = trialCells t := by
  obtain ⟨xs, n, _, hx, hl, hn, hf⟩ := DataW.trod_struct Tryd.underlying27 h
  rw [vcT] at hl
  match cs, hl, xs, hn with
  | [c0, c1, c2, c3], _, [y0, y1, y2, y3], _ =>
    have t0 : DataW.trod enc Tryd.prog w base sp held n 3 (([c0, c1, c2, c3].drop 0).take (Tryd.prog.cellsOf 3)) = some y0 := hf 0 _ rfl
    have t1 : DataW.trod enc Tryd.prog w base sp held n 3 (([c0, c1, c2, c3].drop 1).take (Tryd.prog.cellsOf 3)) = some y1 := hf 1 _ rfl
    have t2 : DataW.trod enc Tryd.prog w base sp held n 3 (([c0, c1, c2, c3].drop 2).take (Tryd.prog.cellsOf 3)) = some y2 := hf 2 _ rfl
    have t3 : DataW.trod enc Tryd.prog w base sp held n 3 (([c0, c1, c2, c3].drop 3).take (Tryd.prog.cellsOf 3)) = some y3 := hf 3 _ rfl
    rw [vcI] at t0 t1 t2 t3
    obtain ⟨a0, rfl⟩ := one_int t0
    obtain ⟨a1, rfl⟩ := one_int t1
    obtain ⟨a2, rfl⟩ := one_int t2
    obtain ⟨a3, rfl⟩ := one_int t3
    exact ⟨⟨a0, a1, a2, a3⟩, rfl⟩
/-- a slice of structs whose cells are numbers, opened -/
theorem rows_of {α : Type} [Inhabited α] {t e : TypeId} {k : Nat} (f : α → List Value) (hk : 0 < k) (hfl : ∀ y, (f y).length = k) (ht : Tryd.prog.underlying t = some (.slice e)) (hc : Tryd.prog.cellsOf e = k)
    (hel : ∀ (n : Nat) (cs : List Value) (x : DataW H × List MemPlace), DataW.trod enc Tryd.prog w base (fun _ => true) held n e cs = some x → ∃ y, cs = f y)
    {c : Value} (h : DataW.trod enc Tryd.prog w base (fun _ => true) held fuel t [c] = some x) :
    ∃ (p : Option Addr) (cap : Nat) (l : List α), c = .slice p l.length cap ∧ (l = [] ∨ ∃ es ss, x.1 = .slice es ss ∧ es.length = l.length) ∧ (l = [] ∨ ∃ b o, p = some ⟨b, o, none⟩ ∧ b < w.heap.size ∧ ∀ i y, l[i]? = some y → ∀ j, j < k → w.cell? ⟨b, o + i * k + j, none⟩ = (f y)[j]?) ∧ l.length ≤ cap := by
  rcases open_slice ht h with ⟨h0, _⟩ | ⟨a, len, cap, m, n, D, Pl, hcs, hb, hl, hm, hmm, hx, hi⟩
  · simp at h0
    exact ⟨none, 0, [], h0, .inl rfl, .inl rfl, Nat.le_refl _⟩
  · simp at hcs hmm
    rw [hc] at hi
    obtain ⟨g, hg⟩ := choose_lt (n := len) (p := fun i y => w.cells? base (a.add (i * k)) k = some (f y)) (fun i hil => by
      obtain ⟨cs', h1, h2⟩ := hi i (by omega)
      obtain ⟨y, rfl⟩ := hel _ _ _ h2
      exact ⟨y, h1⟩)
    refine ⟨some a, cap, (List.range len).map g, by simpa using hcs, .inr ⟨_, _, congrArg Prod.fst hx, by simp⟩, ?_, by simpa using hl⟩
    by_cases h0 : len = 0
    · exact .inl (by simp [h0])
    right
    have hcell : ∀ i, i < len → ∀ j, j < k → w.cell? ((a.add (i * k)).add j) = (f (g i))[j]? := fun i hil j hj => (World.cells?_some (hg i hil)).2.2 j hj
    have hz := hcell 0 (by omega) 0 hk
    rw [Nat.zero_mul] at hz
    have he : ((a.add 0).add 0) = a := by simp [Addr.add]
    rw [he, List.getElem?_eq_getElem (by rw [hfl]; exact hk)] at hz
    have hsp := World.cell?_spot hz
    obtain ⟨b, o, s⟩ := a
    simp only at hsp
    subst hsp
    refine ⟨b, o, rfl, Go.Ai.lt_of_cell hz, fun i y hy j hj => ?_⟩
    simp only [List.getElem?_map, Option.map_eq_some_iff] at hy
    obtain ⟨i', hi', rfl⟩ := hy
    obtain ⟨hil, rfl⟩ : i < len ∧ i' = i := by
      have := List.getElem?_eq_some_iff.1 hi'
      obtain ⟨h1, h2⟩ := this
      simp at h1 h2
      exact ⟨h1, h2.symm⟩
    have := hcell _ hil j hj
    rw [add_plain, add_plain] at this
    exact this
end
def vlaid : List (String × DataW Unit) := [("decani/voice.nothing", Rows.laid_decani_voice_nothing), ("decani/voice.bounds", Rows.laid_decani_voice_bounds)]
theorem vdoor_met (os : Os) (args : Array Value) : laidMetH Tryd.prog vlaid ((World.doorLaid Tryd.prog 400 os).forCall (fun _ _ => 0) ⟨#[], args, []⟩).memory :=
  laidMetH_of_parts3 (fuel := 8) (laidMet_of_run' 8 (by kernel_rfl) (by kernel_rfl)) (by kernel_rfl) (by kernel_rfl)

/-- An array of pairs of integers, cell for cell. -/
theorem pairs_of_trod {H : Type} {enc : TypeId × Value → H} {P : Program} {w : World} {base : Nat} {sp : Nat → Bool} {held : Bool} {fuel : Nat} {t e u : TypeId} {n : Nat} {k : IntKind} {f0 f1 : Field} {cs : List Value} {l : List (Int × Int)} {q : List MemPlace}
    (ht : P.underlying t = some (.array n e)) (he : P.underlying e = some (.struct #[f0, f1])) (hu : P.underlying u = some (.int k)) (h0 : f0.type = u) (h1 : f1.type = u) (o0 : f0.offset = 0) (o1 : f1.offset = 1) (ce : P.cellsOf e = 2) (cu : P.cellsOf u = 1)
    (h : DataW.trod enc P w base sp held fuel t cs = some (.agg (l.map fun p => .agg [.lit (.int k p.1), .lit (.int k p.2)]), q)) : ∀ (i : Nat) (p : Int × Int), l[i]? = some p → cs[2 * i]? = some (.int k p.1) ∧ cs[2 * i + 1]? = some (.int k p.2) := by
  intro i p hp
  obtain ⟨xs, m, _, hx, hl, hn, hel⟩ := DataW.trod_array ht h
  simp only [Prod.mk.injEq, DataW.agg.injEq] at hx
  have hi : i < l.length := by
    rcases Nat.lt_or_ge i l.length with h' | h'
    · exact h'
    · rw [List.getElem?_eq_none h'] at hp; cases hp
  have hxl : xs.length = l.length := by
    have := congrArg List.length hx.1
    simpa using this.symm
  obtain ⟨y, hy⟩ : ∃ y, xs[i]? = some y := ⟨xs[i], by simp [show i < xs.length by omega]⟩
  have hy1 : y.1 = .agg [.lit (.int k p.1), .lit (.int k p.2)] := by
    have := congrArg (fun z => z[i]?) hx.1
    simp only [List.getElem?_map, hp, hy, Option.map_some, Option.some.injEq] at this
    exact this.symm
  have hE := hel i (by omega)
  rw [hy, ce] at hE
  obtain ⟨y0, y1, m', hyy, _, t0, t1⟩ := trod_struct2 he hE
  rw [h0, o0, cu] at t0
  rw [h1, o1, cu] at t1
  obtain ⟨z0, c0, e0, _⟩ := DataW.trod_int hu t0
  obtain ⟨z1, c1, e1, _⟩ := DataW.trod_int hu t1
  rw [hyy, e0, e1] at hy1
  simp only [DataW.agg.injEq, List.cons.injEq, DataW.lit.injEq, Lit.int.injEq, true_and, and_true] at hy1
  obtain ⟨rfl, rfl⟩ := hy1
  refine ⟨?_, ?_⟩
  · have := congrArg (fun z => z[0]?) c0
    simp [List.getElem?_take, List.getElem?_drop] at this
    rw [Nat.mul_comm]
    exact this
  · have := congrArg (fun z => z[0]?) c1
    simp [List.getElem?_take, List.getElem?_drop] at this
    rw [Nat.mul_comm]
    exact this

def bndL : List (Int × Int) := [(40, 2), (40, 2), (2, 1), (6, 2), (9, 3)]
def bndF : List Int := [40, 2, 40, 2, 2, 1, 6, 2, 9, 3]
theorem of_vlaid {W : World} (h : laidMetH Tryd.prog vlaid W) : (∀ i, i < 5 → W.cell? ⟨0, i, none⟩ = some (.int .i64 (-1))) ∧ ∀ i, i < 10 → W.cell? ⟨1, i, none⟩ = some (.int .i64 (bndF.getD i 0)) := by
  rw [MakeChecks.laidMetH_plain _ _ _ (by kernel_rfl)] at h
  refine ⟨fun i hi => ?_, ?_⟩
  · have hT := Lib.tabIs_of_head (k := .i64) (zs := [-1, -1, -1, -1, -1]) gNoth tNoth Tryd.underlying74 Tryd.underlying3 vcI vcN h
    have := hT.cell gNoth i hi
    rw [this]
    match i, hi with
    | 0, _ => rfl
    | 1, _ => rfl
    | 2, _ => rfl
    | 3, _ => rfl
    | 4, _ => rfl
  · obtain ⟨ps, ⟨_, _, _, _, _, _, _, _, _, _, ⟨g, t, cs, fuel, p, q, hg, ht, hv, hd, _⟩, _⟩, _⟩ := h
    obtain rfl := Option.some.inj (gBnds.symm.trans hg)
    obtain rfl := Option.some.inj (tBnds.symm.trans ht)
    have hp := pairs_of_trod (l := bndL) Tryd.underlying109 Tryd.underlying108 Tryd.underlying3 rfl rfl rfl rfl vcP vcI hd
    have cell : ∀ i v, cs.toList[i]? = some v → W.cell? ⟨1, i, none⟩ = some v := fun i v hv' => by
      have := World.var?_cell hg hv i
      rw [this, ← Array.getElem?_toList]
      exact hv'
    intro i hi
    match i, hi with
    | 0, _ => exact cell 0 _ (hp 0 _ rfl).1
    | 1, _ => exact cell 1 _ (hp 0 _ rfl).2
    | 2, _ => exact cell 2 _ (hp 1 _ rfl).1
    | 3, _ => exact cell 3 _ (hp 1 _ rfl).2
    | 4, _ => exact cell 4 _ (hp 2 _ rfl).1
    | 5, _ => exact cell 5 _ (hp 2 _ rfl).2
    | 6, _ => exact cell 6 _ (hp 3 _ rfl).1
    | 7, _ => exact cell 7 _ (hp 3 _ rfl).2
    | 8, _ => exact cell 8 _ (hp 4 _ rfl).1
    | 9, _ => exact cell 9 _ (hp 4 _ rfl).2


theorem kept_but {W W' : World} (hb : Below W.heap.size W W') (may : MemPlace → Prop) : W.keptBut W' may := by
  refine ⟨hb.os, hb.output, fun i hi => ?_⟩
  rw [hb.block i hi]
  cases W.heap[i]? with
  | none => rfl
  | some o => cases o <;> first | exact ⟨rfl, rfl, rfl, fun _ _ => rfl⟩ | exact .inr ⟨rfl, rfl⟩ | rfl

theorem okWide_arr {P : Program} {w : World} {r : Reach} {base n : Nat} {t e : TypeId} {v : Value} (ht : P.underlying t = some (.array n e)) (h : Value.okWide P w r base t v) : ∃ cs, v = .agg cs ∧ cs.size = P.cellsOf t := by
  simp only [Value.okWide, ht] at h
  obtain ⟨cs, h1, h2, _⟩ := h
  exact ⟨cs, h1, h2⟩
theorem len3 {α : Type} {l : List α} (h : l.length = 3) : ∃ a b c, l = [a, b, c] := by
  match l, h with
  | [a, b, c], _ => exact ⟨a, b, c, rfl⟩
theorem vbB : Tryd.prog.bytesOf 53 = 88 := by kernel_rfl
theorem vbT : Tryd.prog.bytesOf 27 = 32 := by kernel_rfl
theorem few_boys {H : Type} {y : DataW H} {k : Nat} (hw : ∀ n ∈ y.weights Tryd.prog 22, n ≤ reachBytes) (h : ∃ es ss, y = .slice es ss ∧ es.length = k) : k ≤ 140737488355328 := by
  obtain ⟨es, ss, rfl, rfl⟩ := h
  have := hw ((es.length + ss.length) * Tryd.prog.bytesOf 53) (by simp [DataW.weights, Tryd.underlying22])
  rw [vbB] at this
  have := reachBytes_lt
  omega
theorem few_trials {H : Type} {y : DataW H} {k : Nat} (hw : ∀ n ∈ y.weights Tryd.prog 23, n ≤ reachBytes) (h : ∃ es ss, y = .slice es ss ∧ es.length = k) : k ≤ 140737488355328 := by
  obtain ⟨es, ss, rfl, rfl⟩ := h
  have := hw ((es.length + ss.length) * Tryd.prog.bytesOf 27) (by simp [DataW.weights, Tryd.underlying23])
  rw [vbT] at this
  have := reachBytes_lt
  omega
theorem book_weights {H : Type} {y0 y1 y2 : DataW H} {ts : List TypeId} {ds : List (DataW H)} (h : (DataW.weightsEach Tryd.prog (25 :: ts) (.agg [y0, y1, y2] :: ds)).all (· ≤ reachBytes) = true) :
    (∀ n ∈ y0.weights Tryd.prog 22, n ≤ reachBytes) ∧ ∀ n ∈ y2.weights Tryd.prog 23, n ≤ reachBytes := by
  have hall := fun n hn => of_decide_eq_true (List.all_eq_true.1 h n hn)
  have hin : ∀ n, n ∈ (DataW.agg [y0, y1, y2]).weights Tryd.prog 25 → n ≤ reachBytes := fun n hn => hall n (DataW.weights_mem_each (j := 0) rfl rfl n hn)
  refine ⟨fun n hn => hin n ?_, fun n hn => hin n ?_⟩
  · simp only [DataW.weights, Tryd.underlying25]
    exact DataW.weights_mem_each (j := 0) rfl rfl n hn
  · simp only [DataW.weights, Tryd.underlying25]
    exact DataW.weights_mem_each (j := 2) rfl rfl n hn
end Go.Proofs.YtchgkfnodcbpiaaDoor
