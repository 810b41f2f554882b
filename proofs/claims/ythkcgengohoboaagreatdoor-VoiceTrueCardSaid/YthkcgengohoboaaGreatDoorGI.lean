/- However boys truly sing, and however rightly they were tried: no trial must be false, and what the functions tell of a boy, a week and a note holds what is true: the law returns true for every book, list and numbers. The package-level variables voice.nothing and voice.bounds hold what their initialisers lay (tied). -/
import Derived.Test.YthkcgengohoboaaGreatDoorGH
import Derived.Test.YthkcgengohoboaaGreatDoorGE
import Derived.Test.YthkcgengohoboaaGreatDoorGF
import Derived.Shelf.Sort.Plain
import Derived.Shelf.Slices.In.SortNone
import Derived.Test.YthkcgengohoboaaGreatDoorProg
import Derived.Sort.OwnSortedInts
set_option linter.all false
set_option linter.all false
namespace Go.Proofs.YthkcgengohoboaaGreatDoor

theorem cmpI_neg {x y : Nat} : cmpI (x : Int) y < 0 ↔ x < y := by
  unfold cmpI
  split
  · simp; omega
  · split <;> simp <;> omega
theorem cmpI_zero {x y : Nat} : cmpI (x : Int) y = 0 ↔ x = y := by
  unfold cmpI
  split
  · simp; omega
  · split <;> simp <;> omega
theorem lex_cons {x y : Nat} {a b : List Nat} : lexC (x :: a) (y :: b) < 0 ↔ x < y ∨ (x = y ∧ lexC a b < 0) := by
  simp only [lexC]
  by_cases e : cmpI (x : Int) y = 0
  · rw [if_pos e]
    have := cmpI_zero.1 e
    subst this
    simp
  · rw [if_neg e, cmpI_neg]
    have : x ≠ y := fun h => e (cmpI_zero.2 h)
    simp [this]
theorem lex_trans : ∀ {a b c : List Nat}, lexC a b < 0 → lexC b c < 0 → lexC a c < 0
  | [], [], _, h, _ => by simp [lexC] at h
  | [], _ :: _, [], _, h => by simp [lexC] at h
  | [], _ :: _, _ :: _, _, _ => by simp [lexC]
  | _ :: _, [], _, h, _ => by simp [lexC] at h
  | _ :: _, _ :: _, [], _, h => by simp [lexC] at h
  | x :: a, y :: b, z :: c, h1, h2 => by
    rw [lex_cons] at h1 h2 ⊢
    rcases h1 with h1 | ⟨e1, h1⟩
    · rcases h2 with h2 | ⟨e2, _⟩
      · left; omega
      · left; omega
    · rcases h2 with h2 | ⟨e2, h2⟩
      · left; omega
      · exact .inr ⟨by omega, lex_trans h1 h2⟩
theorem lex_tri : ∀ (a b : List Nat), lexC a b < 0 ∨ a = b ∨ lexC b a < 0
  | [], [] => .inr (.inl rfl)
  | [], _ :: _ => .inl (by simp [lexC])
  | _ :: _, [] => .inr (.inr (by simp [lexC]))
  | x :: a, y :: b => by
    rw [lex_cons, lex_cons]
    rcases Nat.lt_trichotomy x y with e | e | e
    · exact .inl (.inl e)
    · subst e
      rcases lex_tri a b with h | h | h
      · exact .inl (.inr ⟨rfl, h⟩)
      · exact .inr (.inl (by rw [h]))
      · exact .inr (.inr (.inr ⟨rfl, h⟩))
    · exact .inr (.inr (.inl e))
theorem ord_trans {a b c : List Nat} (h1 : ordC a b < 0) (h2 : ordC b c < 0) : ordC a c < 0 := by
  rcases ord_cases h1 with h1 | ⟨e1, h1⟩ <;> rcases ord_cases h2 with h2 | ⟨e2, h2⟩
  · exact ord_less (by omega)
  · exact ord_less (by omega)
  · exact ord_less (by omega)
  · exact ord_lex (by omega) (lex_trans h1 h2)
theorem ord_tri (a b : List Nat) : ordC a b < 0 ∨ a = b ∨ ordC b a < 0 := by
  rcases Nat.lt_trichotomy a.length b.length with e | e | e
  · exact .inl (ord_less e)
  · rcases lex_tri a b with h | h | h
    · exact .inl (ord_lex e h)
    · exact .inr (.inl h)
    · exact .inr (.inr (ord_lex e.symm h))
  · exact .inr (.inr (ord_less e))
theorem fold_le : ∀ (L : List (List Nat)) (m : List Nat), ¬ ordC m (L.foldl minStep m) < 0 ∧ ∀ l ∈ L, ¬ ordC l (L.foldl minStep m) < 0
  | [], m => ⟨ordC_irrefl m, fun l h => by cases h⟩
  | b :: L, m => by
    rw [List.foldl_cons]
    obtain ⟨h1, h2⟩ := fold_le L (minStep m b)
    generalize L.foldl minStep (minStep m b) = r at *
    have key : ¬ ordC m r < 0 ∧ ¬ ordC b r < 0 := by
      unfold minStep at h1
      split at h1
      · rename_i hb
        exact ⟨fun h => h1 (ord_trans hb h), h1⟩
      · rename_i hb
        refine ⟨h1, fun h => ?_⟩
        rcases ord_tri b m with h3 | h3 | h3
        · exact hb h3
        · subst h3; exact h1 h
        · exact h1 (ord_trans h3 h)
    refine ⟨key.1, fun l hl => ?_⟩
    rcases List.mem_cons.1 hl with e | e
    · subst e; exact key.2
    · exact h2 l e
theorem minL_le : ∀ {L : List (List Nat)} {l : List Nat}, l ∈ L → ¬ ordC l (minL L) < 0
  | a :: L, l, h => by
    obtain ⟨h1, h2⟩ := fold_le L a
    rcases List.mem_cons.1 h with e | e
    · subst e; exact h1
    · exact h2 l e
theorem ext_lt : ∀ {a b : List Nat}, a.Pairwise (· < ·) → b.Pairwise (· < ·) → (∀ k, k ∈ a ↔ k ∈ b) → a = b
  | [], [], _, _, _ => rfl
  | [], y :: b, _, _, h => by have := (h y).2 List.mem_cons_self; cases this
  | x :: a, [], _, _, h => by have := (h x).1 List.mem_cons_self; cases this
  | x :: a, y :: b, ha, hb, h => by
    rw [List.pairwise_cons] at ha hb
    have hxy : x = y := by
      rcases List.mem_cons.1 ((h x).1 List.mem_cons_self) with e | e
      · exact e
      · rcases List.mem_cons.1 ((h y).2 List.mem_cons_self) with e2 | e2
        · exact e2.symm
        · have := ha.1 y e2
          have := hb.1 x e
          omega
    subst hxy
    congr 1
    refine ext_lt ha.2 hb.2 fun k => ?_
    have h1 := h k
    rw [List.mem_cons, List.mem_cons] at h1
    constructor
    · intro hk
      rcases h1.1 (.inr hk) with e | e
      · have := ha.1 k hk; omega
      · exact e
    · intro hk
      rcases h1.2 (.inr hk) with e | e
      · have := hb.1 k hk; omega
      · exact e
theorem incr_of {l : List Nat} (h : l.Pairwise (· < ·)) : incr l := by
  intro i x y hx hy
  obtain ⟨h1, rfl⟩ := List.getElem?_eq_some_iff.1 hx
  obtain ⟨h2, rfl⟩ := List.getElem?_eq_some_iff.1 hy
  exact List.pairwise_iff_getElem.1 h i (i + 1) h1 h2 (by omega)

section
variable {B : Book}
def ownB (B : Book) (k : Nat) : Nat := match B.trials[k]? with
  | some t => t.boy.toNat
  | none => 0
theorem belB_own {i k : Nat} {x : Boy} {t : List Int} (h : belB B i x t k = true) : ownB B k = i := by
  unfold belB at h
  unfold ownB
  cases ht : B.trials[k]? with
  | none => rw [ht] at h; cases h
  | some u =>
    rw [ht] at h
    simp only [Bool.and_eq_true, decide_eq_true_eq] at h
    show u.boy.toNat = i
    rw [h.1]
    omega
/-- what the best list of a boy is -/
theorem wrongAt_is (hok : B.okB = true) {i : Nat} {x : Boy} (hx : B.boys[i]? = some x) : ∃ t, t ∈ (Book.mk B.boys B.weeks []).truths i x ∧ wrongAt B i = F B.trials.length (belB B i x t) ∧
    ∀ t', t' ∈ (Book.mk B.boys B.weeks []).truths i x → ¬ ordC (F B.trials.length (belB B i x t')) (wrongAt B i) < 0 := by
  have hxo := (okB_boys hok).2.1 x (List.mem_of_getElem? hx)
  have hne : belLs B i x ≠ [] := fun e => untried_ne hxo (List.map_eq_nil_iff.1 e)
  have hw : wrongAt B i = minL (belLs B i x) := by unfold wrongAt; rw [hx]
  obtain ⟨t, ht, e⟩ := List.mem_map.1 (minL_mem hne)
  refine ⟨t, ht, by rw [hw]; exact e.symm, fun t' ht' => ?_⟩
  rw [hw]
  exact minL_le (List.mem_map.2 ⟨t', ht', rfl⟩)
def inW (B : Book) (i k : Nat) : Bool := decide (k ∈ wrongAt B i)
theorem inW_F (hok : B.okB = true) (i : Nat) : F B.trials.length (inW B i) = wrongAt B i := by
  cases hx : B.boys[i]? with
  | none =>
    have : wrongAt B i = [] := by unfold wrongAt; rw [hx]
    unfold inW F
    rw [this]
    simp
  | some x =>
    obtain ⟨t, -, h2, -⟩ := wrongAt_is hok hx
    refine ext_lt (F_lt _ _) (by rw [h2]; exact F_lt _ _) fun k => ?_
    rw [F_mem]
    unfold inW
    rw [decide_eq_true_eq]
    constructor
    · exact fun h => h.2
    · intro h
      refine ⟨?_, h⟩
      rw [h2] at h
      exact (F_mem.1 h).1
theorem inW_own (hok : B.okB = true) (i k : Nat) (_ : k < B.trials.length) (h : inW B i k = true) : ownB B k = i := by
  unfold inW at h
  rw [decide_eq_true_eq] at h
  cases hx : B.boys[i]? with
  | none =>
    have : wrongAt B i = [] := by unfold wrongAt; rw [hx]
    rw [this] at h; cases h
  | some x =>
    obtain ⟨t, -, h2, -⟩ := wrongAt_is hok hx
    rw [h2] at h
    exact belB_own (F_mem.1 h).2
theorem mem_acc {m k : Nat} : k ∈ accL B m ↔ ∃ i, i < m ∧ k ∈ wrongAt B i := by
  unfold accL
  rw [List.mem_flatMap]
  constructor
  · rintro ⟨i, h1, h2⟩; exact ⟨i, List.mem_range.1 h1, h2⟩
  · rintro ⟨i, h1, h2⟩; exact ⟨i, List.mem_range.2 h1, h2⟩
theorem acc_nodup (hok : B.okB = true) : ∀ m, (accL B m).Nodup
  | 0 => by simp [accL]
  | m + 1 => by
    rw [accL_succ, List.nodup_append]
    refine ⟨acc_nodup hok m, ?_, ?_⟩
    · rw [← inW_F hok m]
      exact (F_lt _ _).imp (fun h => by omega)
    · intro a ha b hb e
      subst e
      obtain ⟨i, hi, h1⟩ := mem_acc.1 ha
      rw [← inW_F hok i] at h1
      rw [← inW_F hok m] at hb
      have e1 := inW_own hok i a (F_mem.1 h1).1 (F_mem.1 h1).2
      have e2 := inW_own hok m a (F_mem.1 hb).1 (F_mem.1 hb).2
      omega
theorem wrongL_is (hok : B.okB = true) : wrongL B = F B.trials.length (anyB (inW B) B.boys.length) := by
  have hp := List.pairwise_mergeSort (le := fun x y : Nat => decide (x ≤ y)) (by simp; omega) (by simp; omega) (accL B B.boys.length)
  have hn : (wrongL B).Nodup := (List.mergeSort_perm _ _).nodup_iff.2 (acc_nodup hok _)
  refine ext_lt ?_ (F_lt _ _) fun k => ?_
  · refine (hp.and hn).imp ?_
    rintro a b ⟨h1, h2⟩
    simp at h1
    omega
  · unfold wrongL
    rw [List.mem_mergeSort, mem_acc, F_mem, anyB_true]
    constructor
    · rintro ⟨i, hi, hk⟩
      refine ⟨?_, i, hi, by unfold inW; simpa using hk⟩
      rw [← inW_F hok i] at hk
      exact (F_mem.1 hk).1
    · rintro ⟨-, i, hi, hk⟩
      unfold inW at hk
      exact ⟨i, hi, by simpa using hk⟩
theorem wrong_facts (hok : B.okB = true) : incr (wrongL B) ∧ (∀ x ∈ wrongL B, x < B.trials.length) ∧ (wrongL B).length ≤ B.trials.length ∧ (wrongL B = [] ↔ Can B) ∧ Can (B.less (wrongL B)) ∧
    ∀ s, ordC (bitsL s B.trials.length) (wrongL B) < 0 → ¬ Can (B.less (bitsL s B.trials.length)) := by
  have hw := wrongL_is hok
  have hmem : ∀ i k, k ∈ wrongAt B i → i < B.boys.length → k ∈ wrongL B := fun i k h hi => by
    unfold wrongL
    rw [List.mem_mergeSort]
    exact mem_acc.2 ⟨i, hi, h⟩
  refine ⟨by rw [hw]; exact incr_of (F_lt _ _), fun x hx => by rw [hw] at hx; exact (F_mem.1 hx).1, ?_, ?_, ?_, ?_⟩
  · rw [hw]
    have := List.length_filter_le (anyB (inW B) B.boys.length) (List.range B.trials.length)
    rw [List.length_range] at this
    exact this
  · rw [can_iff hok]
    constructor
    · intro he boy x hx
      obtain ⟨t, ht, h2, -⟩ := wrongAt_is hok hx
      refine ⟨t, ht, ?_⟩
      show F _ _ = []
      rw [← h2]
      refine List.eq_nil_iff_forall_not_mem.2 fun k hk => ?_
      have := hmem boy k hk (List.getElem?_eq_some_iff.1 hx).1
      rw [he] at this; cases this
    · intro hc
      refine List.eq_nil_iff_forall_not_mem.2 fun k hk => ?_
      rw [hw] at hk
      obtain ⟨i, hi, h1⟩ := anyB_true.1 (F_mem.1 hk).2
      have hx : B.boys[i]? = some B.boys[i] := List.getElem?_eq_getElem hi
      obtain ⟨t, ht, he⟩ := hc i _ hx
      obtain ⟨-, -, -, h4⟩ := wrongAt_is hok hx
      have h5 := h4 t ht
      have he' : F B.trials.length (belB B i B.boys[i] t) = [] := he
      rw [he'] at h5
      unfold inW at h1
      rw [decide_eq_true_eq] at h1
      exact h5 (ord_less (List.length_pos_iff.2 (List.ne_nil_of_mem h1)))
  · rw [can_less hok]
    intro boy x hx
    obtain ⟨t, ht, h2, -⟩ := wrongAt_is hok hx
    refine ⟨t, ht, fun k hk => hmem boy k ?_ (List.getElem?_eq_some_iff.1 hx).1⟩
    rw [h2]; exact hk
  · intro s hlt hc
    rw [can_less hok] at hc
    have hch : ∀ i : Nat, ∃ P : Nat → Bool, (∀ k, k < B.trials.length → P k = true → ownB B k = i) ∧ (i < B.boys.length → ¬ ordC (F B.trials.length P) (wrongAt B i) < 0 ∧ ∀ k, k < B.trials.length → P k = true → s.testBit k = true) := by
      intro i
      by_cases hi : i < B.boys.length
      · have hx : B.boys[i]? = some B.boys[i] := List.getElem?_eq_getElem hi
        obtain ⟨t, ht, h1⟩ := hc i _ hx
        obtain ⟨-, -, -, h4⟩ := wrongAt_is hok hx
        refine ⟨belB B i B.boys[i] t, fun k _ h => belB_own h, fun _ => ⟨h4 t ht, fun k hk h => ?_⟩⟩
        have := h1 k (F_mem.2 ⟨hk, h⟩)
        exact (F_mem.1 this).2
      · exact ⟨fun _ => false, fun k _ h => (nomatch h), fun h => absurd h hi⟩
    obtain ⟨V, hV⟩ := Classical.axiomOfChoice hch
    rw [hw] at hlt
    refine best_all (own := ownB B) (M := inW B) (V := V) (nb := B.boys.length) (n := B.trials.length) (o := fun k => s.testBit k) (inW_own hok) (fun i k hk h => (hV i).1 k hk h) (fun i hi => ?_) (fun i k hi hk h => ((hV i).2 hi).2 k hk h) hlt
    rw [inW_F hok i]
    exact ((hV i).2 hi).1
end
end Go.Proofs.YthkcgengohoboaaGreatDoor
set_option linter.all false
namespace Go.Proofs.YthkcgengohoboaaGreatDoor
open Go.RowKit Go.Sort Go.Rg
set_option maxRecDepth 100000

theorem rightly_ok {B : Book} (h : B.okB = true) (ks : List Know) : (B.rightly ks).okB = true := by
  unfold Book.rightly Book.okB
  simp only [Book.okB, Bool.and_eq_true, decide_eq_true_eq, List.all_eq_true] at h ⊢
  refine ⟨⟨⟨h.1.1.1, by rw [List.length_map]; exact h.1.1.2⟩, h.1.2⟩, fun t ht => ?_⟩
  obtain ⟨t0, h0, rfl⟩ := List.mem_map.1 ht
  have h2 := h.2 t0 h0
  unfold validTrialB at h2 ⊢
  simp only [Bool.and_eq_true] at h2 ⊢
  refine ⟨h2.1, ?_⟩
  show inB (if _ then 1 else 0) 0 1 = true
  split <;> rfl
/-- all that is drawn -/
def drawnK (B : Book) (bits : List Int) : List Know := (List.range B.boys.length).map (knowOf B bits)
theorem drawnK_get {B : Book} {bits : List Int} {i : Nat} (hi : i < B.boys.length) : (drawnK B bits)[i]? = some (knowOf B bits i) := by
  unfold drawnK
  rw [List.getElem?_map, List.getElem?_range hi]
  rfl
theorem knowOf_is {B : Book} {bits : List Int} {i : Nat} {x : Boy} (hx : B.boys[i]? = some x) : knowOf B bits i = ⟨(drawn x bits i).getD 0 0, (drawn x bits i).getD 4 0, topsOf (drawn x bits i) x.ls B.weeks.toNat⟩ := by
  unfold knowOf; rw [hx]
theorem topsOf_get (n : List Int) (ls : Int) {k w : Nat} (h : w < k) : (topsOf n ls k).getD w 0 = top (n.getD 1 0) (n.getD 2 0) (n.getD 3 0) ls (w : Int) := by
  unfold topsOf
  simp [List.getD, List.getElem?_range h]
/-- what is drawn sings as the truth does -/
theorem knows_sings {B : Book} {bits : List Int} {i : Nat} {x : Boy} (hx : B.boys[i]? = some x) {w : Int} (h0 : 0 ≤ w) (h1 : w < B.weeks) (note : Int) :
    knowsB (knowOf B bits i) w note = singsB ((drawn x bits i).getD 0 0) ((drawn x bits i).getD 1 0) ((drawn x bits i).getD 2 0) ((drawn x bits i).getD 3 0) ((drawn x bits i).getD 4 0) x.ls w note note := by
  rw [knowOf_is hx]
  obtain ⟨w, rfl⟩ := Int.eq_ofNat_of_zero_le h0
  unfold knowsB singsB inB
  have ht := topsOf_get (drawn x bits i) x.ls (show w < B.weeks.toNat by omega)
  simp only [Int.toNat_natCast]
  rw [Bool.eq_iff_iff]
  simp only [Bool.and_eq_true, decide_eq_true_eq]
  rw [ht, and_assoc]
theorem drawn_untried {B : Book} {bits : List Int} {i : Nat} {x : Boy} (hxo : x.okB = true) : drawn x bits i ∈ (Book.mk B.boys B.weeks []).truths i x := by
  obtain ⟨bl, bh, bg, bt, bb, -⟩ := boy_nums hxo
  exact (mem_untried rfl).2 ⟨drawI_in (by omega), drawI_in (by omega), drawI_in (by omega), drawI_in (by omega), drawI_in (by omega)⟩
theorem drawn_mem {B : Book} (hok : B.okB = true) {bits : List Int} {i : Nat} {x : Boy} (hx : B.boys[i]? = some x) : drawn x bits i ∈ (B.rightly (drawnK B bits)).truths i x := by
  obtain ⟨-, hb, -⟩ := okB_boys hok
  obtain ⟨-, hts⟩ := okB_trials hok
  have hi : i < B.boys.length := (List.getElem?_eq_some_iff.1 hx).1
  refine (truths_iff (rightly_ok hok _)).2 ⟨drawn_untried (hb x (List.mem_of_getElem? hx)), fun t ht hti => ?_⟩
  obtain ⟨t0, h0, rfl⟩ := List.mem_map.1 ht
  obtain ⟨-, ⟨w1, w2⟩, -⟩ := hts t0 h0
  have hti : t0.boy = (i : Int) := hti
  have hk : (drawnK B bits).getD t0.boy.toNat ⟨0, 0, []⟩ = knowOf B bits i := by
    rw [hti, Int.toNat_natCast, List.getD, drawnK_get hi]; rfl
  unfold TBn TB rightT
  rw [hk, knows_sings hx w1 (by omega)]
  simp only
  unfold beliesB
  cases singsB ((drawn x bits i).getD 0 0) ((drawn x bits i).getD 1 0) ((drawn x bits i).getD 2 0) ((drawn x bits i).getD 3 0) ((drawn x bits i).getD 4 0) x.ls t0.week t0.note t0.note <;> rfl
theorem can_drawn {B : Book} (hok : B.okB = true) (bits : List Int) : Can (B.rightly (drawnK B bits)) := fun boy x hx => List.ne_nil_of_mem (drawn_mem hok hx)
theorem wrong_drawn {B : Book} (hok : B.okB = true) (bits : List Int) : wrongL (B.rightly (drawnK B bits)) = [] := by
  obtain ⟨-, -, -, h, -⟩ := wrong_facts (rightly_ok hok (drawnK B bits))
  exact h.2 (can_drawn hok bits)
/-- a span covers what a truth says -/
theorem span_covers {f : List Int → Int × Bool} {l : List (List Int)} {n : List Int} (hn : n ∈ l) (hf : (f n).2 = true) {lo hi : Int} {fd : Bool} (h : spanOf f l = (lo, hi, fd)) : fd = true ∧ inB (f n).1 lo hi = true := by
  obtain ⟨lo', hi', e, -, hc, -⟩ := spanOf_some f l ⟨n, hn, hf⟩
  rw [e] at h
  cases h
  exact ⟨rfl, by have := hc n hn hf; simp [inB]; omega⟩
end Go.Proofs.YthkcgengohoboaaGreatDoor
set_option linter.all false
namespace Go.Proofs.YthkcgengohoboaaGreatDoor
open Go.RowKit Go.Sort Go.Rg
set_option maxRecDepth 100000

theorem lies_kept (n l h : Int) (w : World) : Calls Tryz.prog 37 #[.int .i64 n, .int .i64 l, .int .i64 h] w fun e w' => e = .returned (.bool (inB n l h)) ∧ Kept w w' := (lies_any n l h w).mono (by rintro e w' ⟨rfl, rfl⟩; exact ⟨rfl, kept_refl _⟩)
theorem both_at {X : Book} {boy : Nat} {x : Boy} {f : List Int → Int × Bool} {n : List Int} {lo hi err : Int} (hc : Can X) (hx : X.boys[boy]? = some x) (hn : n ∈ X.truths boy x) (hf : (f n).2 = true)
    (h : (err = 0 ∧ Can X ∧ ∃ x, X.boys[boy]? = some x ∧ lo = (spanOf f (X.truths boy x)).1 ∧ hi = (spanOf f (X.truths boy x)).2.1) ∨ (err = 22 ∧ ¬ Can X ∧ lo = 0 ∧ hi = 0)) : err = 0 ∧ inB (f n).1 lo hi = true := by
  rcases h with ⟨rfl, -, x', hx', rfl, rfl⟩ | ⟨-, h, -⟩
  · rw [hx] at hx'
    cases hx'
    exact ⟨rfl, (span_covers hn hf rfl).2⟩
  · exact absurd hc h
theorem sing_at {X : Book} {boy : Nat} {x : Boy} {sb : List Int → Bool} {n : List Int} {v err : Int} (hc : Can X) (hx : X.boys[boy]? = some x) (hn : n ∈ X.truths boy x)
    (h : (err = 0 ∧ Can X ∧ ∃ x, X.boys[boy]? = some x ∧ v = oftenOf (X.truths boy x) sb) ∨ (err = 22 ∧ ¬ Can X ∧ v = 0)) : err = 0 ∧ (v = 2 → sb n = true) ∧ (v = 0 → sb n = false) ∧ 0 ≤ v ∧ v ≤ 2 := by
  rcases h with ⟨rfl, -, x', hx', rfl⟩ | ⟨-, h, -⟩
  · rw [hx] at hx'
    cases hx'
    refine ⟨rfl, fun h2 => ?_, fun h0 => ?_, often_rng _ _⟩
    · unfold oftenOf at h2
      split at h2
      · rename_i h
        exact List.all_eq_true.1 h n hn
      · split at h2 <;> omega
    · cases hs : sb n with
      | false => rfl
      | true => exact absurd h0 (often_pos hn hs)
  · exact absurd hc h
theorem high_at {X : Book} {boy : Nat} {x : Boy} {wk : Int} {n : List Int} {lo hi err : Int} (hc : Can X) (hx : X.boys[boy]? = some x) (hn : n ∈ X.truths boy x)
    (h : (Can X ∧ ∃ x fd, X.boys[boy]? = some x ∧ spanOf (hiF X boy wk) (X.truths boy x) = (lo, hi, fd) ∧ err = if fd then 0 else 4) ∨ (err = 22 ∧ ¬ Can X ∧ lo = 0 ∧ hi = 0)) :
    (wk < n.getD 4 0 → err = 0 ∧ inB (top (n.getD 1 0) (n.getD 2 0) (n.getD 3 0) x.ls wk) lo hi = true) ∧ (err = 0 ∨ err = 4) := by
  rcases h with ⟨-, x', fd, hx', hs, rfl⟩ | ⟨-, h, -⟩
  · rw [hx] at hx'
    cases hx'
    refine ⟨fun hlt => ?_, ?_⟩
    · obtain ⟨rfl, h⟩ := span_covers hn (show (hiF X boy wk n).2 = true from decide_eq_true hlt) hs
      refine ⟨rfl, ?_⟩
      have hl : lossOf X boy = x.ls := by unfold lossOf; rw [hx]; rfl
      unfold hiF at h
      rw [hl] at h
      exact h
    · cases fd
      · exact .inr rfl
      · exact .inl rfl
  · exact absurd hc h
theorem sure_at {X : Book} {sb : Nat → List Int → Bool} {W C : World} {v : Value} {err : Int} (hc : Can X)
    (h : (err = 0 ∧ Can X ∧ C.ownsRow W.heap.size 3 1 v (surelyL X sb X.boys.length).length (intsV (surelyL X sb X.boys.length))) ∨ (err = 22 ∧ ¬ Can X ∧ v = .slice none 0 0)) :
    err = 0 ∧ ∃ l : List Nat, ListAt C v l ∧ l.length ≤ X.boys.length ∧ (∀ b ∈ l, b < X.boys.length) ∧ incr l ∧ ∀ b ∈ l, ∀ x n, X.boys[b]? = some x → n ∈ X.truths b x → sb b n = true := by
  rcases h with ⟨rfl, -, hrow⟩ | ⟨-, h, -⟩
  · refine ⟨rfl, _, ListAt.of_row hrow, surelyL_len _ _ _, fun b hb => surelyL_lt hb, surelyL_incr, fun b hb x n hx hn => ?_⟩
    have := (mem_surelyL.1 hb).2
    unfold surelyB at this
    rw [hx] at this
    exact List.all_eq_true.1 this n hn
  · exact absurd hc h
end Go.Proofs.YthkcgengohoboaaGreatDoor
namespace Go.Proofs
open Go.Shelf
def Tryz.lays189_ren : Go.Shelf.Ren := ⟨fun | 189 => 132 | 125 => 162 | 257 => 161 | 128 => 191 | 129 => 192 | 294 => 182 | 295 => 183 | 296 => 184 | 297 => 185 | 298 => 186 | 299 => 187 | 216 => 188 | 300 => 189 | 301 => 190 | 328 => 203 | 329 => 204 | 330 => 205 | 331 => 206 | 332 => 207 | 215 => 173 | 343 => 216 | n => n, fun | 28 => 41 | 3 => 3 | 46 => 200 | 0 => 0 | 51 => 217 | 53 => 219 | 4 => 4 | 183 => 211 | 182 => 210 | 131 => 126 | 5 => 5 | 9 => 9 | 218 => 231 | 222 => 235 | 228 => 247 | 229 => 248 | n => n, fun | n => n⟩
theorem Tryz.lays189 : Go.Proofs.Lays.n189 Tryz.prog Tryz.lays189_ren := {
  mixed := by kernel_rfl
  f125 := Tryz.func162.trans (congrArg some (by kernel_rfl))
  f128 := Tryz.func191.trans (congrArg some (by kernel_rfl))
  f129 := Tryz.func192.trans (congrArg some (by kernel_rfl))
  f189 := Tryz.func132.trans (congrArg some (by kernel_rfl))
  f215 := Tryz.func173.trans (congrArg some (by kernel_rfl))
  f216 := Tryz.func188.trans (congrArg some (by kernel_rfl))
  f257 := Tryz.func161.trans (congrArg some (by kernel_rfl))
  f294 := Tryz.func182.trans (congrArg some (by kernel_rfl))
  f295 := Tryz.func183.trans (congrArg some (by kernel_rfl))
  f296 := Tryz.func184.trans (congrArg some (by kernel_rfl))
  f297 := Tryz.func185.trans (congrArg some (by kernel_rfl))
  f298 := Tryz.func186.trans (congrArg some (by kernel_rfl))
  f299 := Tryz.func187.trans (congrArg some (by kernel_rfl))
  f300 := Tryz.func189.trans (congrArg some (by kernel_rfl))
  f301 := Tryz.func190.trans (congrArg some (by kernel_rfl))
  f328 := Tryz.func203.trans (congrArg some (by kernel_rfl))
  f329 := Tryz.func204.trans (congrArg some (by kernel_rfl))
  f330 := Tryz.func205.trans (congrArg some (by kernel_rfl))
  f331 := Tryz.func206.trans (congrArg some (by kernel_rfl))
  f332 := Tryz.func207.trans (congrArg some (by kernel_rfl))
  f343 := Tryz.func216.trans (congrArg some (by kernel_rfl))
  t0 := Tryz.underlying0
  a0 := Tryz.isAgg0
  z0 := Tryz.sizeOf0
  v0 := Tryz.zeroValue0
  t3 := Tryz.underlying3
  a3 := Tryz.isAgg3
  z3 := Tryz.sizeOf3
  v3 := Tryz.zeroValue3
  t4 := Tryz.underlying4
  a4 := Tryz.isAgg4
  z4 := Tryz.sizeOf4
  v4 := Tryz.zeroValue4
  t5 := Tryz.underlying5
  a5 := Tryz.isAgg5
  z5 := Tryz.sizeOf5
  v5 := Tryz.zeroValue5
  t9 := Tryz.underlying9
  a9 := Tryz.isAgg9
  z9 := Tryz.sizeOf9
  v9 := Tryz.zeroValue9
  t28 := Tryz.underlying41
  a28 := Tryz.isAgg41
  z28 := Tryz.sizeOf41
  v28 := Tryz.zeroValue41
  t46 := Tryz.underlying200
  a46 := Tryz.isAgg200
  z46 := Tryz.sizeOf200
  v46 := Tryz.zeroValue200
  t51 := Tryz.underlying217
  a51 := Tryz.isAgg217
  z51 := Tryz.sizeOf217
  v51 := Tryz.zeroValue217
  t53 := Tryz.underlying219
  a53 := Tryz.isAgg219
  z53 := Tryz.sizeOf219
  v53 := Tryz.zeroValue219
  t131 := Tryz.underlying126
  a131 := Tryz.isAgg126
  z131 := Tryz.sizeOf126
  v131 := Tryz.zeroValue126
  t182 := Tryz.underlying210
  a182 := Tryz.isAgg210
  z182 := Tryz.sizeOf210
  v182 := Tryz.zeroValue210
  t183 := Tryz.underlying211
  a183 := Tryz.isAgg211
  z183 := Tryz.sizeOf211
  v183 := Tryz.zeroValue211
  t218 := Tryz.underlying231
  a218 := Tryz.isAgg231
  z218 := Tryz.sizeOf231
  v218 := Tryz.zeroValue231
  t222 := Tryz.underlying235
  a222 := Tryz.isAgg235
  z222 := Tryz.sizeOf235
  v222 := Tryz.zeroValue235
  t228 := Tryz.underlying247
  a228 := Tryz.isAgg247
  z228 := Tryz.sizeOf247
  v228 := Tryz.zeroValue247
  t229 := Tryz.underlying248
  a229 := Tryz.isAgg248
  z229 := Tryz.sizeOf248
  v229 := Tryz.zeroValue248 }
end Go.Proofs
set_option linter.all false
namespace Go.Proofs.YthkcgengohoboaaGreatDoor
open Go.RowKit Go.Sort Go.Rg
set_option maxRecDepth 100000

theorem sorted_map (l : List Nat) : ((l.map fun x : Nat => (x : Int)).mergeSort fun x y => decide (x ≤ y)) = (l.mergeSort fun x y => decide (x ≤ y)).map fun x : Nat => (x : Int) := by
  rw [List.map_mergeSort (r := fun x y => decide (x ≤ y)) (s := fun x y : Int => decide (x ≤ y))]
  intro a _ b _
  simp
theorem ints_map (m : List Nat) : (m.map fun x : Nat => (x : Int)).map (Value.int .i64) = intsV m := by rw [List.map_map]; rfl
theorem sorts : Sorts := by
  intro v l base V hb hrow hl
  rcases hrow.2 with ⟨rfl, h0⟩ | ⟨g, cap, cur, rfl, hbg, hg, h1, h2, h3, h4⟩
  · have : l = [] := List.length_eq_zero_iff.1 h0
    subst this
    refine (Any.slices_Sort_int_none Tryz.lays189 none 0 V).mono ?_
    rintro e w' ⟨rfl, rfl⟩
    exact ⟨rfl, .inl ⟨rfl, by simp⟩, Below.refl _ _⟩
  · have hgz := (Array.getElem?_eq_some_iff.1 hg).1
    have hH : Holds (Value.int .i64) V g 0 (l.map fun x : Nat => (x : Int)).toArray := holds_of_blockI hg (by rw [ints_map, List.length_map]; simpa using h4)
    have h := Any.slices_Sort_int Tryz.lays189 g 0 cap (l.map fun x : Nat => (x : Int)) V hH hgz (by simp; omega)
    rw [List.length_map] at h
    refine h.mono ?_
    rintro e w' ⟨rfl, n, os, rfl⟩
    have hrow' := ownsRow_sortedI (n := n) (os := os) (base := base) (cap := cap) (ss := l.map fun x : Nat => (x : Int)) (ts := (l.map fun x : Nat => (x : Int)).mergeSort fun x y => decide (x ≤ y)) (by simp) hbg hg (by simpa using h1) h2 h3
    have hgr := grownBy_sortedI (w := V) (g := g) (n := n) (os := os) ((l.map fun x : Nat => (x : Int)).mergeSort fun x y => decide (x ≤ y)).toArray
    rw [sorted_map] at hrow' hgr ⊢
    refine ⟨rfl, ListAt.of_row (n := base) (e := 3) ?_, ⟨hgr.os, hgr.tape, hgr.output, hgr.size, fun k hk => hgr.block k (by omega) (fun e => by cases e; omega)⟩⟩
    have hll : (l.mergeSort fun x y => decide (x ≤ y)).length = l.length := List.length_mergeSort _
    rw [hll]
    rw [ints_map, List.length_map] at hrow'
    exact hrow'
end Go.Proofs.YthkcgengohoboaaGreatDoor
set_option linter.all false
namespace Go.Proofs.YthkcgengohoboaaGreatDoor
open Go.RowKit Go.Sort Go.Rg
set_option maxRecDepth 100000

set_option maxHeartbeats 4000000 in
theorem true_bad (p q : Option Addr) (cap capt : Nat) (B : Book) (bv : Value) (n0 n1 n2 : Int) (W : World) (h : BookAt W p q cap capt B) (hg : Nothing W) (hok : B.okB = false) :
    Calls Tryz.prog 6 #[B.val p q cap capt, bv, .agg #[.int .i64 n0, .int .i64 n1, .int .i64 n2]] W fun e C => e = .returned (.bool true) ∧ Kept W C := by
  have hk0 : Kept W ((W.alloc (Obj.cells #[.slice p B.boys.length cap, .int .i64 B.weeks, .slice q B.trials.length capt] 25)).alloc (Obj.cells #[.int .i64 n0, .int .i64 n1, .int .i64 n2] 38)) := kept_alloc (kept_alloc (kept_refl _) _) _
  have hcall := small_any p q cap capt B _ (h.kept hk0)
  rw [hok] at hcall
  unfold Book.val at hcall ⊢
  have HC := Lib.hid hcall; clear hcall
  go_enter Tryz.func6, Tryz.ntmps6
  go_wp2_with fail
  generalize (W.alloc (Obj.cells #[.slice p B.boys.length cap, .int .i64 B.weeks, .slice q B.trials.length capt] 25)).alloc (Obj.cells #[.int .i64 n0, .int .i64 n1, .int .i64 n2] 38) = W0 at *
  refine HC.out.mono ?_
  rintro e w2 ⟨rfl, hk2⟩
  have hk02 := kept_trans hk0 hk2
  have HS := Lib.hid (sung_is w2 (h.laid.kept hk02) (hg.kept hk02))
  go_wp2_with fail
  refine HS.out.mono ?_
  rintro e w3 ⟨rfl, hk3⟩
  go_wp2_with fail
  refine bodyPost_ret (v := .bool true) (by simp [results, Tryz.results6, go_sem]) rfl ?_
  exact ⟨rfl, kept_trans hk02 hk3⟩

set_option maxHeartbeats 100000000 in
theorem true_ok (p q : Option Addr) (cap capt : Nat) (B : Book) (bv : Value) (bits : List Int) (n0 n1 n2 : Int) (W : World) (h : BookAt W p q cap capt B) (hg : Nothing W) (hb : NumsAt W bv bits) (hok : B.okB = true) :
    Calls Tryz.prog 6 #[B.val p q cap capt, bv, .agg #[.int .i64 n0, .int .i64 n1, .int .i64 n2]] W fun e C => e = .returned (.bool true) ∧ Kept W C := by
  obtain ⟨⟨q1, q2, q3, q4, q5⟩, -, -⟩ := okB_boys hok
  have hk0 : Kept W ((W.alloc (Obj.cells #[.slice p B.boys.length cap, .int .i64 B.weeks, .slice q B.trials.length capt] 25)).alloc (Obj.cells #[.int .i64 n0, .int .i64 n1, .int .i64 n2] 38)) := kept_alloc (kept_alloc (kept_refl _) _) _
  have hcall := small_any p q cap capt B _ (h.kept hk0)
  rw [hok] at hcall
  unfold Book.val at hcall ⊢
  have HC := Lib.hid hcall; clear hcall
  have a0 : ((W.alloc (Obj.cells #[.slice p B.boys.length cap, .int .i64 B.weeks, .slice q B.trials.length capt] 25)).alloc (Obj.cells #[.int .i64 n0, .int .i64 n1, .int .i64 n2] 38)).cell? ⟨W.heap.size, 0, none⟩ = some (.slice p B.boys.length cap) := by go_simp
  have a1 : ((W.alloc (Obj.cells #[.slice p B.boys.length cap, .int .i64 B.weeks, .slice q B.trials.length capt] 25)).alloc (Obj.cells #[.int .i64 n0, .int .i64 n1, .int .i64 n2] 38)).cell? ⟨W.heap.size, 1, none⟩ = some (.int .i64 B.weeks) := by go_simp
  have a2 : ((W.alloc (Obj.cells #[.slice p B.boys.length cap, .int .i64 B.weeks, .slice q B.trials.length capt] 25)).alloc (Obj.cells #[.int .i64 n0, .int .i64 n1, .int .i64 n2] 38)).cell? ⟨W.heap.size, 2, none⟩ = some (.slice q B.trials.length capt) := by go_simp
  have b0 : ((W.alloc (Obj.cells #[.slice p B.boys.length cap, .int .i64 B.weeks, .slice q B.trials.length capt] 25)).alloc (Obj.cells #[.int .i64 n0, .int .i64 n1, .int .i64 n2] 38)).cell? ⟨W.heap.size + 1, 0, none⟩ = some (.int .i64 n0) := by go_simp
  have b1 : ((W.alloc (Obj.cells #[.slice p B.boys.length cap, .int .i64 B.weeks, .slice q B.trials.length capt] 25)).alloc (Obj.cells #[.int .i64 n0, .int .i64 n1, .int .i64 n2] 38)).cell? ⟨W.heap.size + 1, 1, none⟩ = some (.int .i64 n1) := by go_simp
  have b2 : ((W.alloc (Obj.cells #[.slice p B.boys.length cap, .int .i64 B.weeks, .slice q B.trials.length capt] 25)).alloc (Obj.cells #[.int .i64 n0, .int .i64 n1, .int .i64 n2] 38)).cell? ⟨W.heap.size + 1, 2, none⟩ = some (.int .i64 n2) := by go_simp
  have HBV := Lib.hid hb
  obtain ⟨pb, cpb, eb, -, -⟩ := hb
  subst eb
  go_enter Tryz.func6, Tryz.ntmps6
  go_wp2_with fail
  generalize (W.alloc (Obj.cells #[.slice p B.boys.length cap, .int .i64 B.weeks, .slice q B.trials.length capt] 25)).alloc (Obj.cells #[.int .i64 n0, .int .i64 n1, .int .i64 n2] 38) = W0 at *
  refine HC.out.mono ?_
  rintro e w1 ⟨rfl, hk1⟩
  clear HC
  have hk01 := kept_trans hk0 hk1
  have hz0 := Go.Ai.lt_of_cell b0
  replace a0 := kcell hk1 a0
  replace a1 := kcell hk1 a1
  replace a2 := kcell hk1 a2
  replace b0 := kcell hk1 b0
  replace b1 := kcell hk1 b1
  replace b2 := kcell hk1 b2
  have hcall := truly_any p q cap capt B (.slice pb bits.length cpb) bits w1 (h.kept hk01) hok (HBV.out.kept hk01)
  unfold Book.val at hcall
  have HC := Lib.hid hcall; clear hcall
  go_wp2_with fail
  refine HC.out.mono ?_
  rintro e w2 ⟨lv, rfl, hk2, hrow⟩
  clear HC
  have hk02 := kept_trans hk01 hk2
  replace a0 := kcell hk2 a0
  replace a1 := kcell hk2 a1
  replace a2 := kcell hk2 a2
  replace b0 := kcell hk2 b0
  replace b1 := kcell hk2 b1
  replace b2 := kcell hk2 b2
  have HKA := Lib.hid (KAt.of_row hrow)
  clear hrow
  rw [show (List.range B.boys.length).map (knowOf B bits) = drawnK B bits from rfl] at HKA
  have hcall := fun V (k : Kept w2 V) => rightly_any p q cap capt B lv (drawnK B bits) V (h.kept (kept_trans hk02 k)) hok (HKA.out.kept k) (by unfold drawnK; simp) (fun k hk => by
    obtain ⟨i, hi, rfl⟩ := List.mem_map.1 hk
    obtain ⟨x, hx⟩ : ∃ x, B.boys[i]? = some x := ⟨_, List.getElem?_eq_getElem (List.mem_range.1 hi)⟩
    rw [knowOf_is hx]
    simp [topsOf])
  unfold Book.val at hcall
  have HC := Lib.hid hcall; clear hcall
  obtain ⟨p', cap', ep, -⟩ := HKA.out
  subst ep
  have hX0 : (B.rightly (drawnK B bits)).boys = B.boys := rfl
  have hX1 : (B.rightly (drawnK B bits)).weeks = B.weeks := rfl
  have HXO := Lib.hid (rightly_ok hok (drawnK B bits))
  have HXC := Lib.hid (can_drawn hok bits)
  have HXW := Lib.hid (wrong_drawn hok bits)
  have HXM := Lib.hid (fun i x (hx : B.boys[i]? = some x) => drawn_mem hok (bits := bits) hx)
  have HKG := Lib.hid (fun i (hi : i < B.boys.length) => drawnK_get (bits := bits) hi)
  have HKL := Lib.hid (show (drawnK B bits).length = B.boys.length by unfold drawnK; simp)
  generalize B.rightly (drawnK B bits) = X at *
  generalize drawnK B bits = ks at *
  have HX0 := Lib.hid hX0; clear hX0
  have HX1 := Lib.hid hX1; clear hX1
  go_wp2_with fail
  refine (HC.out _ (kept_refl _)).mono ?_
  rintro e w3 ⟨q', capt', rfl, hk3, hX⟩
  clear HC
  have hk03 := kept_trans hk02 hk3
  replace a0 := kcell hk3 a0
  replace a1 := kcell hk3 a1
  replace a2 := kcell hk3 a2
  replace b0 := kcell hk3 b0
  replace b1 := kcell hk3 b1
  replace b2 := kcell hk3 b2
  have HBX := Lib.hid hX; clear hX
  go_wp2_with fail
  have kb4 : Kept w3 (w3.alloc (Obj.cells #[.slice p X.boys.length cap, .int .i64 X.weeks, .slice q' X.trials.length capt'] 25)) := kept_alloc (kept_refl _) _
  have x0 : (w3.alloc (Obj.cells #[.slice p X.boys.length cap, .int .i64 X.weeks, .slice q' X.trials.length capt'] 25)).cell? ⟨w3.heap.size, 0, none⟩ = some (.slice p X.boys.length cap) := by go_simp
  have x1 : (w3.alloc (Obj.cells #[.slice p X.boys.length cap, .int .i64 X.weeks, .slice q' X.trials.length capt'] 25)).cell? ⟨w3.heap.size, 1, none⟩ = some (.int .i64 X.weeks) := by go_simp
  have x2 : (w3.alloc (Obj.cells #[.slice p X.boys.length cap, .int .i64 X.weeks, .slice q' X.trials.length capt'] 25)).cell? ⟨w3.heap.size, 2, none⟩ = some (.slice q' X.trials.length capt') := by go_simp
  have hxw : W.heap.size + 1 < w3.heap.size := Go.Ai.lt_of_cell b0
  have hk04 := kept_trans hk03 kb4
  have HK24 := Lib.hid (kept_trans hk3 kb4)
  replace a0 := kcell kb4 a0
  replace a1 := kcell kb4 a1
  replace a2 := kcell kb4 a2
  replace b0 := kcell kb4 b0
  replace b1 := kcell kb4 b1
  replace b2 := kcell kb4 b2
  generalize (w3.alloc (Obj.cells #[.slice p X.boys.length cap, .int .i64 X.weeks, .slice q' X.trials.length capt'] 25)) = w4 at *
  generalize hxb : w3.heap.size = xb at *
  obtain ⟨pk, capk, ek, hor⟩ := HKA.out
  obtain ⟨rfl, rfl⟩ : p' = pk ∧ cap' = capk := by cases ek; exact ⟨rfl, rfl⟩
  clear ek
  obtain ⟨bk, ebk, hks⟩ := hor.resolve_left (fun e => by have := HKL.out; rw [e] at this; simp at this; omega)
  subst ebk
  obtain ⟨k1, k2⟩ := turnI_lt n0 (B.boys.length : Int) (by omega)
  obtain ⟨k3, k4⟩ := turnI_lt n1 B.weeks (by omega)
  obtain ⟨k5, k6⟩ := turnI_lt n2 41 (by omega)
  have a0r : ∀ d os, (grow (redrawn w4 d) os).cell? ⟨W.heap.size, 0, none⟩ = some (.slice p B.boys.length cap) := cell_regrown a0
  have a1r : ∀ d os, (grow (redrawn w4 d) os).cell? ⟨W.heap.size, 1, none⟩ = some (.int .i64 B.weeks) := cell_regrown a1
  have a2r : ∀ d os, (grow (redrawn w4 d) os).cell? ⟨W.heap.size, 2, none⟩ = some (.slice q B.trials.length capt) := cell_regrown a2
  have b0r : ∀ d os, (grow (redrawn w4 d) os).cell? ⟨W.heap.size + 1, 0, none⟩ = some (.int .i64 n0) := cell_regrown b0
  have b1r : ∀ d os, (grow (redrawn w4 d) os).cell? ⟨W.heap.size + 1, 1, none⟩ = some (.int .i64 n1) := cell_regrown b1
  have b2r : ∀ d os, (grow (redrawn w4 d) os).cell? ⟨W.heap.size + 1, 2, none⟩ = some (.int .i64 n2) := cell_regrown b2
  have ht0 : ∀ d os, Calls Tryz.prog 35 #[.int .i64 n0, .int .i64 (B.boys.length : Int)] (grow (redrawn w4 d) os) fun e w'' => e = .returned (.int .i64 (turnI n0 (B.boys.length : Int))) ∧ ∃ p : Regrown, w'' = grow (redrawn w4 p.d) p.os := fun d os => Calls.regrown_of ((turn_is n0 (B.boys.length : Int) (by omega) (by omega) _).mono (by rintro e w' ⟨rfl, rfl⟩; exact ⟨rfl, kept_refl _⟩))
  have HT0 := Lib.hid ht0; clear ht0
  have ht1 : ∀ d os, Calls Tryz.prog 35 #[.int .i64 n1, .int .i64 B.weeks] (grow (redrawn w4 d) os) fun e w'' => e = .returned (.int .i64 (turnI n1 B.weeks)) ∧ ∃ p : Regrown, w'' = grow (redrawn w4 p.d) p.os := fun d os => Calls.regrown_of ((turn_is n1 B.weeks (by omega) (by omega) _).mono (by rintro e w' ⟨rfl, rfl⟩; exact ⟨rfl, kept_refl _⟩))
  have HT1 := Lib.hid ht1; clear ht1
  have ht2 : ∀ d os, Calls Tryz.prog 35 #[.int .i64 n2, .int .i64 41] (grow (redrawn w4 d) os) fun e w'' => e = .returned (.int .i64 (turnI n2 41)) ∧ ∃ p : Regrown, w'' = grow (redrawn w4 p.d) p.os := fun d os => Calls.regrown_of ((turn_is n2 41 (by omega) (by omega) _).mono (by rintro e w' ⟨rfl, rfl⟩; exact ⟨rfl, kept_refl _⟩))
  have HT2 := Lib.hid ht2; clear ht2
  generalize turnI n0 (B.boys.length : Int) = boyI at *
  generalize turnI n1 B.weeks = week at *
  generalize turnI n2 41 = note at *
  obtain ⟨boy, rfl⟩ := Int.eq_ofNat_of_zero_le k1
  obtain ⟨wk, rfl⟩ := Int.eq_ofNat_of_zero_le k3
  have hbl : boy < B.boys.length := by omega
  obtain ⟨tv, e1, e2, e3, hN⟩ := hks boy _ (HKG.out boy hbl)
  have HKS := Lib.hid hks
  have HNK := Lib.hid hN
  obtain ⟨tp, tcap, etv, -, -⟩ := HNK.out
  subst etv
  clear hks hN hor
  refine wp_region_quiet_below (by kernel_rfl) (by kernel_rfl) ?_
  repeat (any_goals (first | go_big_quiet_skip | quiet_step (first | with_reducible exact HT0.out _ _ | with_reducible exact HT1.out _ _ | with_reducible exact HT2.out _ _)))
  refine wpQuiet_nil ?_
  intro _ hw'
  obtain ⟨⟨dq, osq⟩, hw''⟩ := hw'
  subst hw''
  have kW5 := below_regrown w4 dq osq
  clear a0r a1r a2r b0r b1r b2r HT0 HT1 HT2
  generalize grow (redrawn w4 dq) osq = w5 at *
  replace a0 := kcell kW5 a0
  replace a1 := kcell kW5 a1
  replace a2 := kcell kW5 a2
  replace x0 := kcell kW5 x0
  replace x1 := kcell kW5 x1
  replace x2 := kcell kW5 x2
  replace e1 := kcell (kept_trans HK24.out kW5) e1
  replace e2 := kcell (kept_trans HK24.out kW5) e2
  replace e3 := kcell (kept_trans HK24.out kW5) e3
  have hk0N := kept_trans hk04 kW5
  have hkx := kept_trans kb4 kW5
  have hkk := kept_trans HK24.out kW5
  have hbk : (boy : Int) < ks.length := by rw [HKL.out]; omega
  obtain ⟨x, hx⟩ : ∃ x, B.boys[boy]? = some x := ⟨_, List.getElem?_eq_getElem hbl⟩
  have HX := Lib.hid (show X.boys[boy]? = some x by rw [HX0.out]; exact hx)
  have HD := Lib.hid (HXM.out boy x hx)
  have HKS2 := Lib.hid (knows_sings (bits := bits) hx (show 0 ≤ (wk : Int) by omega) k4 note)
  have HKLo := Lib.hid (show (knowOf B bits boy).low = (drawn x bits boy).getD 0 0 by rw [knowOf_is hx])
  have HKBr := Lib.hid (show (knowOf B bits boy).brk = (drawn x bits boy).getD 4 0 by rw [knowOf_is hx])
  have HKTp := Lib.hid (show (knowOf B bits boy).tops = topsOf (drawn x bits boy) x.ls B.weeks.toNat by rw [knowOf_is hx])
  have HHX := Lib.hid hx; clear hx
  generalize hkn : knowOf B bits boy = k at *
  have HKN := Lib.hid hkn; clear hkn
  have HBL := Lib.hid (show boy < X.boys.length by rw [HX0.out]; exact hbl)
  have HWK := Lib.hid (show 0 ≤ (wk : Int) ∧ (wk : Int) < X.weeks by rw [HX1.out]; omega)
  clear hk01 hk02 hk03 hk04 b0 b1 b2 hk0 hk1 hk2 hk3
  have hzb := Go.Ai.lt_of_cell e1
  have hzx := Go.Ai.lt_of_cell x0
  go_wp2_with fail
  have kb6 : Kept w5 (w5.alloc (Obj.cells #[.int .i64 k.low, .int .i64 k.brk, .slice tp k.tops.length tcap] 59)) := kept_alloc (kept_refl _) _
  have y0 : (w5.alloc (Obj.cells #[.int .i64 k.low, .int .i64 k.brk, .slice tp k.tops.length tcap] 59)).cell? ⟨w5.heap.size, 0, none⟩ = some (.int .i64 k.low) := by go_simp
  have y1 : (w5.alloc (Obj.cells #[.int .i64 k.low, .int .i64 k.brk, .slice tp k.tops.length tcap] 59)).cell? ⟨w5.heap.size, 1, none⟩ = some (.int .i64 k.brk) := by go_simp
  have y2 : (w5.alloc (Obj.cells #[.int .i64 k.low, .int .i64 k.brk, .slice tp k.tops.length tcap] 59)).cell? ⟨w5.heap.size, 2, none⟩ = some (.slice tp k.tops.length tcap) := by go_simp
  replace hk0N := kept_trans hk0N kb6
  replace hkx := kept_trans hkx kb6
  replace hkk := kept_trans hkk kb6
  replace a0 := kcell kb6 a0
  replace a1 := kcell kb6 a1
  replace a2 := kcell kb6 a2
  replace x0 := kcell kb6 x0
  replace x1 := kcell kb6 x1
  replace x2 := kcell kb6 x2
  generalize (w5.alloc (Obj.cells #[.int .i64 k.low, .int .i64 k.brk, .slice tp k.tops.length tcap] 59)) = w6 at *
  generalize hyb : w5.heap.size = yb at *
  have hcall := right_any p q' cap capt' X w6 (HBX.out.kept hkx) (hg.kept hk0N) HXO.out
  unfold Book.val at hcall
  refine hcall.mono ?_
  clear hcall
  rintro e w7 ⟨r, rfl, hk7, hr⟩
  replace hk0N := kept_trans hk0N hk7
  replace hkx := kept_trans hkx hk7
  replace hkk := kept_trans hkk hk7
  replace a0 := kcell hk7 a0
  replace a1 := kcell hk7 a1
  replace a2 := kcell hk7 a2
  replace x0 := kcell hk7 x0
  replace x1 := kcell hk7 x1
  replace x2 := kcell hk7 x2
  replace y0 := kcell hk7 y0
  replace y1 := kcell hk7 y1
  replace y2 := kcell hk7 y2
  obtain rfl : r = true := hr.2 HXC.out
  clear hr
  have hza0 := Go.Ai.lt_of_cell a0
  have hzx0 := Go.Ai.lt_of_cell x0
  have hzy0 := Go.Ai.lt_of_cell y0
  go_wp2_with fail
  have hcall := wrongs_any sorts p q' cap capt' X w7 (HBX.out.kept hkx) HXO.out
  unfold Book.val at hcall
  refine hcall.mono ?_
  clear hcall
  rintro e w8 ⟨wv, rfl, hk8, hwl⟩
  replace hk0N := kept_trans hk0N hk8
  replace hkx := kept_trans hkx hk8
  replace hkk := kept_trans hkk hk8
  replace a0 := kcell hk8 a0
  replace a1 := kcell hk8 a1
  replace a2 := kcell hk8 a2
  replace x0 := kcell hk8 x0
  replace x1 := kcell hk8 x1
  replace x2 := kcell hk8 x2
  replace y0 := kcell hk8 y0
  replace y1 := kcell hk8 y1
  replace y2 := kcell hk8 y2
  rw [HXW.out] at hwl
  obtain ⟨pw, cw, rfl⟩ := listAt_len hwl
  clear hwl
  have hza0 := Go.Ai.lt_of_cell a0
  have hzx0 := Go.Ai.lt_of_cell x0
  have hzy0 := Go.Ai.lt_of_cell y0
  go_wp2_with fail
  have hcall := lowest_any p q' cap capt' X boy w8 (HBX.out.kept hkx) (hg.kept hk0N) HXO.out HBL.out
  unfold Book.val at hcall
  refine hcall.mono ?_
  clear hcall
  rintro e w9 ⟨l0, l1, er, rfl, hk9, hr⟩
  replace hk0N := kept_trans hk0N hk9
  replace hkx := kept_trans hkx hk9
  replace hkk := kept_trans hkk hk9
  replace a0 := kcell hk9 a0
  replace a1 := kcell hk9 a1
  replace a2 := kcell hk9 a2
  replace x0 := kcell hk9 x0
  replace x1 := kcell hk9 x1
  replace x2 := kcell hk9 x2
  replace y0 := kcell hk9 y0
  replace y1 := kcell hk9 y1
  replace y2 := kcell hk9 y2
  obtain ⟨rfl, hlo⟩ := both_at HXC.out HX.out HD.out rfl hr
  rw [← HKLo.out] at hlo
  have HLO := Lib.hid hlo
  clear hr hlo
  have hza0 := Go.Ai.lt_of_cell a0
  have hzx0 := Go.Ai.lt_of_cell x0
  have hzy0 := Go.Ai.lt_of_cell y0
  go_wp2_with fail
  have kb10 : Kept w9 (w9.alloc (Obj.cells #[.int .i64 l0, .int .i64 l1] 32)) := kept_alloc (kept_refl _) _
  have u0 : (w9.alloc (Obj.cells #[.int .i64 l0, .int .i64 l1] 32)).cell? ⟨w9.heap.size, 0, none⟩ = some (.int .i64 l0) := by go_simp
  have u1 : (w9.alloc (Obj.cells #[.int .i64 l0, .int .i64 l1] 32)).cell? ⟨w9.heap.size, 1, none⟩ = some (.int .i64 l1) := by go_simp
  replace hk0N := kept_trans hk0N kb10
  replace hkx := kept_trans hkx kb10
  replace hkk := kept_trans hkk kb10
  replace a0 := kcell kb10 a0
  replace a1 := kcell kb10 a1
  replace a2 := kcell kb10 a2
  replace x0 := kcell kb10 x0
  replace x1 := kcell kb10 x1
  replace x2 := kcell kb10 x2
  replace y0 := kcell kb10 y0
  replace y1 := kcell kb10 y1
  replace y2 := kcell kb10 y2
  generalize (w9.alloc (Obj.cells #[.int .i64 l0, .int .i64 l1] 32)) = w10 at *
  generalize hub : w9.heap.size = ub at *
  have hcall := breaks_any p q' cap capt' X boy w10 (HBX.out.kept hkx) (hg.kept hk0N) HXO.out HBL.out
  unfold Book.val at hcall
  refine hcall.mono ?_
  clear hcall
  rintro e w11 ⟨r0, r1, er, rfl, hk11, hr⟩
  replace hk0N := kept_trans hk0N hk11
  replace hkx := kept_trans hkx hk11
  replace hkk := kept_trans hkk hk11
  replace a0 := kcell hk11 a0
  replace a1 := kcell hk11 a1
  replace a2 := kcell hk11 a2
  replace x0 := kcell hk11 x0
  replace x1 := kcell hk11 x1
  replace x2 := kcell hk11 x2
  replace y0 := kcell hk11 y0
  replace y1 := kcell hk11 y1
  replace y2 := kcell hk11 y2
  replace u0 := kcell hk11 u0
  replace u1 := kcell hk11 u1
  obtain ⟨rfl, hlo⟩ := both_at HXC.out HX.out HD.out rfl hr
  rw [← HKBr.out] at hlo
  have HBR := Lib.hid hlo
  clear hr hlo
  have hza0 := Go.Ai.lt_of_cell a0
  have hzx0 := Go.Ai.lt_of_cell x0
  have hzy0 := Go.Ai.lt_of_cell y0
  have hzu0 := Go.Ai.lt_of_cell u0
  go_wp2_with fail
  have kb12 : Kept w11 (w11.alloc (Obj.cells #[.int .i64 r0, .int .i64 r1] 32)) := kept_alloc (kept_refl _) _
  have v0 : (w11.alloc (Obj.cells #[.int .i64 r0, .int .i64 r1] 32)).cell? ⟨w11.heap.size, 0, none⟩ = some (.int .i64 r0) := by go_simp
  have v1 : (w11.alloc (Obj.cells #[.int .i64 r0, .int .i64 r1] 32)).cell? ⟨w11.heap.size, 1, none⟩ = some (.int .i64 r1) := by go_simp
  replace hk0N := kept_trans hk0N kb12
  replace hkx := kept_trans hkx kb12
  replace hkk := kept_trans hkk kb12
  replace a0 := kcell kb12 a0
  replace a1 := kcell kb12 a1
  replace a2 := kcell kb12 a2
  replace x0 := kcell kb12 x0
  replace x1 := kcell kb12 x1
  replace x2 := kcell kb12 x2
  replace y0 := kcell kb12 y0
  replace y1 := kcell kb12 y1
  replace y2 := kcell kb12 y2
  replace u0 := kcell kb12 u0
  replace u1 := kcell kb12 u1
  generalize (w11.alloc (Obj.cells #[.int .i64 r0, .int .i64 r1] 32)) = w12 at *
  generalize hvb : w11.heap.size = vb at *
  have hcall := sings_all p q' cap capt' X boy wk note w12 (HBX.out.kept hkx) (hg.kept hk0N) HXO.out HBL.out HWK.out ⟨k5, by omega⟩
  unfold Book.val at hcall
  refine hcall.mono ?_
  clear hcall
  rintro e w13 ⟨kind, er, rfl, hk13, hr⟩
  replace hk0N := kept_trans hk0N hk13
  replace hkx := kept_trans hkx hk13
  replace hkk := kept_trans hkk hk13
  replace a0 := kcell hk13 a0
  replace a1 := kcell hk13 a1
  replace a2 := kcell hk13 a2
  replace x0 := kcell hk13 x0
  replace x1 := kcell hk13 x1
  replace x2 := kcell hk13 x2
  replace y0 := kcell hk13 y0
  replace y1 := kcell hk13 y1
  replace y2 := kcell hk13 y2
  replace u0 := kcell hk13 u0
  replace u1 := kcell hk13 u1
  replace v0 := kcell hk13 v0
  replace v1 := kcell hk13 v1
  obtain ⟨rfl, hs2, hs0, hs3, hs4⟩ := sing_at HXC.out HX.out HD.out hr
  have HS2 := Lib.hid hs2; clear hs2
  have HS0 := Lib.hid hs0; clear hs0 hr
  have HKD := Lib.hid (show inB kind 0 2 = true by simp [inB]; omega)
  have hza0 := Go.Ai.lt_of_cell a0
  have hzx0 := Go.Ai.lt_of_cell x0
  have hzy0 := Go.Ai.lt_of_cell y0
  have hzu0 := Go.Ai.lt_of_cell u0
  have hzv0 := Go.Ai.lt_of_cell v0
  go_wp2_with fail
  have hcall := covers_is l0 l1 k.low w13
  rw [HLO.out] at hcall
  refine hcall.mono ?_
  clear hcall
  rintro e w14 ⟨rfl, hk14⟩
  replace hk0N := kept_trans hk0N hk14
  replace hkx := kept_trans hkx hk14
  replace hkk := kept_trans hkk hk14
  replace a0 := kcell hk14 a0
  replace a1 := kcell hk14 a1
  replace a2 := kcell hk14 a2
  replace x0 := kcell hk14 x0
  replace x1 := kcell hk14 x1
  replace x2 := kcell hk14 x2
  replace y0 := kcell hk14 y0
  replace y1 := kcell hk14 y1
  replace y2 := kcell hk14 y2
  replace u0 := kcell hk14 u0
  replace u1 := kcell hk14 u1
  replace v0 := kcell hk14 v0
  replace v1 := kcell hk14 v1
  have hza0 := Go.Ai.lt_of_cell a0
  have hzx0 := Go.Ai.lt_of_cell x0
  have hzy0 := Go.Ai.lt_of_cell y0
  have hzu0 := Go.Ai.lt_of_cell u0
  have hzv0 := Go.Ai.lt_of_cell v0
  go_wp2_with fail
  have hcall := covers_is r0 r1 k.brk w14
  rw [HBR.out] at hcall
  refine hcall.mono ?_
  clear hcall
  rintro e w15 ⟨rfl, hk15⟩
  replace hk0N := kept_trans hk0N hk15
  replace hkx := kept_trans hkx hk15
  replace hkk := kept_trans hkk hk15
  replace a0 := kcell hk15 a0
  replace a1 := kcell hk15 a1
  replace a2 := kcell hk15 a2
  replace x0 := kcell hk15 x0
  replace x1 := kcell hk15 x1
  replace x2 := kcell hk15 x2
  replace y0 := kcell hk15 y0
  replace y1 := kcell hk15 y1
  replace y2 := kcell hk15 y2
  replace u0 := kcell hk15 u0
  replace u1 := kcell hk15 u1
  replace v0 := kcell hk15 v0
  replace v1 := kcell hk15 v1
  have hza0 := Go.Ai.lt_of_cell a0
  have hzx0 := Go.Ai.lt_of_cell x0
  have hzy0 := Go.Ai.lt_of_cell y0
  have hzu0 := Go.Ai.lt_of_cell u0
  have hzv0 := Go.Ai.lt_of_cell v0
  go_wp2_with fail
  have hcall := (lies_kept kind 0 2 w15)
  rw [HKD.out] at hcall
  refine hcall.mono ?_
  clear hcall
  rintro e w16 ⟨rfl, hk16⟩
  replace hk0N := kept_trans hk0N hk16
  replace hkx := kept_trans hkx hk16
  replace hkk := kept_trans hkk hk16
  replace a0 := kcell hk16 a0
  replace a1 := kcell hk16 a1
  replace a2 := kcell hk16 a2
  replace x0 := kcell hk16 x0
  replace x1 := kcell hk16 x1
  replace x2 := kcell hk16 x2
  replace y0 := kcell hk16 y0
  replace y1 := kcell hk16 y1
  replace y2 := kcell hk16 y2
  replace u0 := kcell hk16 u0
  replace u1 := kcell hk16 u1
  replace v0 := kcell hk16 v0
  replace v1 := kcell hk16 v1
  have hza0 := Go.Ai.lt_of_cell a0
  have hzx0 := Go.Ai.lt_of_cell x0
  have hzy0 := Go.Ai.lt_of_cell y0
  have hzu0 := Go.Ai.lt_of_cell u0
  have hzv0 := Go.Ai.lt_of_cell v0
  rename (∀ a w, Code.wp Tryz.prog (Code.seq (Code.seq (Code.region 14 _ _) _) _) _ a w → _) => hK14
  have HK14 := Lib.hid hK14; clear hK14
  go_wp2_with fail
  refine HK14.out _ _ ?_
  refine wp_seq_k fun K hK => ?_
  have HK16 := Lib.hid hK; clear hK
  have hwl : wk < k.tops.length := by rw [HKTp.out]; simp [topsOf]; omega
  have HFIN : ∀ a' w', a'.tmps.size = 253 → a'.defers = [] → a'.tmps.getD 3 undef = .pointer (some ⟨W.heap.size, 0, none⟩) → a'.tmps.getD 7 undef = .slice (some ⟨bk, 0, none⟩) ks.length cap' → a'.tmps.getD 8 undef = .pointer (some ⟨xb, 0, none⟩) → a'.tmps.getD 9 undef = .int .i64 (boy : Int) → a'.tmps.getD 10 undef = .int .i64 (wk : Int) → a'.tmps.getD 11 undef = .int .i64 note → a'.tmps.getD 12 undef = .pointer (some ⟨yb, 0, none⟩) → Kept w16 w' → K a' w' := by
    intro a' z1 hsz hdf g3 g7 g8 g9 g10 g11 g12 hkF
    obtain ⟨atm, adf⟩ := a'
    simp only at hsz hdf g3 g7 g8 g9 g10 g11 g12
    obtain ⟨y, hy⟩ : ∃ y : Nat → Value, ∀ i, y i = atm.getD i undef := ⟨_, fun _ => rfl⟩
    have y3 : y 3 = .pointer (some ⟨W.heap.size, 0, none⟩) := (hy 3).trans g3
    have y7 : y 7 = .slice (some ⟨bk, 0, none⟩) ks.length cap' := (hy 7).trans g7
    have y8 : y 8 = .pointer (some ⟨xb, 0, none⟩) := (hy 8).trans g8
    have y9 : y 9 = .int .i64 (boy : Int) := (hy 9).trans g9
    have y10 : y 10 = .int .i64 (wk : Int) := (hy 10).trans g10
    have y11 : y 11 = .int .i64 note := (hy 11).trans g11
    have y12 : y 12 = .pointer (some ⟨yb, 0, none⟩) := (hy 12).trans g12
    have hae := arr_range atm
    rw [hsz] at hae
    simp only [List.range, List.range.loop, List.map, ← hy] at hae
    rw [y3, y7, y8, y9, y10, y11, y12] at hae
    subst hae
    subst hdf
    clear hy hsz y3 g3 y7 g7 y8 g8 y9 g9 y10 g10 y11 g11 y12 g12
    replace hk0N := kept_trans hk0N hkF
    replace hkx := kept_trans hkx hkF
    replace hkk := kept_trans hkk hkF
    replace a0 := kcell hkF a0
    replace a1 := kcell hkF a1
    replace a2 := kcell hkF a2
    replace x0 := kcell hkF x0
    replace x1 := kcell hkF x1
    replace x2 := kcell hkF x2
    replace y0 := kcell hkF y0
    replace y1 := kcell hkF y1
    replace y2 := kcell hkF y2
    clear u0 u1 v0 v1
    have hza0 := Go.Ai.lt_of_cell a0
    have hzx0 := Go.Ai.lt_of_cell x0
    have hzy0 := Go.Ai.lt_of_cell y0
    refine HK16.out _ _ ?_
    go_wp2_with fail
    have hcall := highest_all p q' cap capt' X boy wk z1 (HBX.out.kept hkx) (hg.kept hk0N) HXO.out HBL.out HWK.out
    unfold Book.val at hcall
    refine hcall.mono ?_
    clear hcall
    rintro e z2 ⟨t0, t1, er, rfl, hkz2, hr⟩
    obtain ⟨hh1, hh2⟩ := high_at HXC.out HX.out HD.out hr
    clear hr
    rw [← HKBr.out] at hh1
    have htw : k.tops[wk]? = some (top ((drawn x bits boy).getD 1 0) ((drawn x bits boy).getD 2 0) ((drawn x bits boy).getD 3 0) x.ls (wk : Int)) := by
      have h1 := topsOf_get (drawn x bits boy) x.ls (show wk < B.weeks.toNat by omega)
      rw [← HKTp.out] at h1
      have h2 := List.getElem?_eq_getElem hwl
      rw [List.getD, h2] at h1
      rw [h2]
      exact congrArg some h1
    generalize top ((drawn x bits boy).getD 1 0) ((drawn x bits boy).getD 2 0) ((drawn x bits boy).getD 3 0) x.ls (wk : Int) = tw at *
    have HH1 := Lib.hid hh1; clear hh1
    have HTW := Lib.hid htw; clear htw
    replace hk0N := kept_trans hk0N hkz2
    replace hkx := kept_trans hkx hkz2
    replace hkk := kept_trans hkk hkz2
    replace a0 := kcell hkz2 a0
    replace a1 := kcell hkz2 a1
    replace a2 := kcell hkz2 a2
    replace x0 := kcell hkz2 x0
    replace x1 := kcell hkz2 x1
    replace x2 := kcell hkz2 x2
    replace y0 := kcell hkz2 y0
    replace y1 := kcell hkz2 y1
    replace y2 := kcell hkz2 y2
    have hza0 := Go.Ai.lt_of_cell a0
    have hzx0 := Go.Ai.lt_of_cell x0
    have hzy0 := Go.Ai.lt_of_cell y0
    go_wp2_with fail
    rename_i Kr hKr Kc hKc
    have HK19 := Lib.hid hKr; clear hKr
    have kz3 : Kept z2 (z2.alloc (Obj.cells #[.int .i64 t0, .int .i64 t1] 32)) := kept_alloc (kept_refl _) _
    have s0 : (z2.alloc (Obj.cells #[.int .i64 t0, .int .i64 t1] 32)).cell? ⟨z2.heap.size, 0, none⟩ = some (.int .i64 t0) := by go_simp
    have s1 : (z2.alloc (Obj.cells #[.int .i64 t0, .int .i64 t1] 32)).cell? ⟨z2.heap.size, 1, none⟩ = some (.int .i64 t1) := by go_simp
    replace hk0N := kept_trans hk0N kz3
    replace hkx := kept_trans hkx kz3
    replace hkk := kept_trans hkk kz3
    replace a0 := kcell kz3 a0
    replace a1 := kcell kz3 a1
    replace a2 := kcell kz3 a2
    replace x0 := kcell kz3 x0
    replace x1 := kcell kz3 x1
    replace x2 := kcell kz3 x2
    replace y0 := kcell kz3 y0
    replace y1 := kcell kz3 y1
    replace y2 := kcell kz3 y2
    generalize (z2.alloc (Obj.cells #[.int .i64 t0, .int .i64 t1] 32)) = z3 at *
    generalize hsb : z2.heap.size = sb at *
    obtain ⟨tb, tofs, etp, htb, htc⟩ : ∃ tb tofs, tp = some ⟨tb, tofs, none⟩ ∧ tb < w2.heap.size ∧ w2.cell? ⟨tb, tofs + wk, none⟩ = some (.int .i64 tw) := by
      obtain ⟨p1, c1, e1, -, hor⟩ := HNK.out
      obtain ⟨b1, o1, rfl, hb1, hc1⟩ := hor.resolve_left (fun e => by rw [e] at hwl; simp at hwl)
      cases e1
      exact ⟨b1, o1, rfl, hb1, hc1 wk tw HTW.out⟩
    subst etp
    have htc := kcell hkk htc
    have hwlI : (wk : Int) < k.tops.length := by omega
    have rr1 := cell_regrown y1
    have rr2 := cell_regrown y2
    have rs0 := cell_regrown s0
    have rs1 := cell_regrown s1
    have rtc := cell_regrown htc
    have hcov : ∀ d os, Calls Tryz.prog 36 #[.agg #[.int .i64 t0, .int .i64 t1], .int .i64 tw] (grow (redrawn z3 d) os) fun e w'' => e = .returned (.bool (inB tw t0 t1)) ∧ ∃ p : Regrown, w'' = grow (redrawn z3 p.d) p.os := fun d os => Calls.regrown_of (covers_is t0 t1 tw _)
    have HCV := Lib.hid hcov; clear hcov
    have HFIN : ∀ a' w', a'.tmps.size = 253 → a'.defers = [] → a'.tmps.getD 3 undef = .pointer (some ⟨W.heap.size, 0, none⟩) → a'.tmps.getD 7 undef = .slice (some ⟨bk, 0, none⟩) ks.length cap' → a'.tmps.getD 8 undef = .pointer (some ⟨xb, 0, none⟩) → a'.tmps.getD 9 undef = .int .i64 (boy : Int) → a'.tmps.getD 10 undef = .int .i64 (wk : Int) → a'.tmps.getD 11 undef = .int .i64 note → Kept z3 w' → Kr a' w' := by
      intro a' z5 hsz hdf g3 g7 g8 g9 g10 g11 hkF
      obtain ⟨atm, adf⟩ := a'
      simp only at hsz hdf g3 g7 g8 g9 g10 g11
      obtain ⟨y, hy⟩ : ∃ y : Nat → Value, ∀ i, y i = atm.getD i undef := ⟨_, fun _ => rfl⟩
      have y3 : y 3 = .pointer (some ⟨W.heap.size, 0, none⟩) := (hy 3).trans g3
      have y7 : y 7 = .slice (some ⟨bk, 0, none⟩) ks.length cap' := (hy 7).trans g7
      have y8 : y 8 = .pointer (some ⟨xb, 0, none⟩) := (hy 8).trans g8
      have y9 : y 9 = .int .i64 (boy : Int) := (hy 9).trans g9
      have y10 : y 10 = .int .i64 (wk : Int) := (hy 10).trans g10
      have y11 : y 11 = .int .i64 note := (hy 11).trans g11
      have hae := arr_range atm
      rw [hsz] at hae
      simp only [List.range, List.range.loop, List.map, ← hy] at hae
      rw [y3, y7, y8, y9, y10, y11] at hae
      subst hae
      subst hdf
      clear hy hsz y3 g3 y7 g7 y8 g8 y9 g9 y10 g10 y11 g11
      replace hk0N := kept_trans hk0N hkF
      replace hkx := kept_trans hkx hkF
      replace hkk := kept_trans hkk hkF
      replace a0 := kcell hkF a0
      replace a1 := kcell hkF a1
      replace a2 := kcell hkF a2
      replace x0 := kcell hkF x0
      replace x1 := kcell hkF x1
      replace x2 := kcell hkF x2
      have hza0 := Go.Ai.lt_of_cell a0
      have hzx0 := Go.Ai.lt_of_cell x0
      clear y0 y1 y2 s0 s1 rr1 rr2 rs0 rs1 rtc htc
      refine HK19.out _ _ ?_
      go_wp2_with fail
      have hcall := surely_all p q' cap capt' X wk note z5 (HBX.out.kept hkx) (hg.kept hk0N) HXO.out HWK.out ⟨k5, by omega⟩
      unfold Book.val at hcall
      refine hcall.mono ?_
      clear hcall
      rintro e z6 ⟨sv, er2, rfl, hkz6, hr⟩
      obtain ⟨rfl, sl, hsl, hsn, hsx, hsi, hsa⟩ := sure_at HXC.out hr
      clear hr
      rw [HX0.out] at hsn hsx
      obtain ⟨ps, cs, rfl⟩ := listAt_len hsl
      have HSX := Lib.hid hsx
      have HSA := Lib.hid hsa; clear hsa
      have HSI := Lib.hid hsi; clear hsi
      replace hk0N := kept_trans hk0N hkz6
      replace hkx := kept_trans hkx hkz6
      replace hkk := kept_trans hkk hkz6
      replace a0 := kcell hkz6 a0
      replace a1 := kcell hkz6 a1
      replace a2 := kcell hkz6 a2
      replace x0 := kcell hkz6 x0
      replace x1 := kcell hkz6 x1
      replace x2 := kcell hkz6 x2
      have hza0 := Go.Ai.lt_of_cell a0
      have hzx0 := Go.Ai.lt_of_cell x0
      go_wp2_with fail
      have hcall := must_any p q' cap capt' X wk z6 (HBX.out.kept hkx) (hg.kept hk0N) HXO.out HWK.out
      unfold Book.val at hcall
      refine hcall.mono ?_
      clear hcall
      rintro e z7 ⟨mv, er3, rfl, hkz7, hr⟩
      obtain ⟨rfl, ml, hml, hmn, hmx, hmi, hma⟩ := sure_at HXC.out hr
      clear hr
      rw [HX0.out] at hmn hmx
      obtain ⟨pm, cm, rfl⟩ := listAt_len hml
      have HMX := Lib.hid hmx
      have HMA := Lib.hid hma; clear hma
      have hsl := hsl.kept hkz7
      replace hk0N := kept_trans hk0N hkz7
      replace hkx := kept_trans hkx hkz7
      replace hkk := kept_trans hkk hkz7
      replace a0 := kcell hkz7 a0
      replace a1 := kcell hkz7 a1
      replace a2 := kcell hkz7 a2
      replace x0 := kcell hkz7 x0
      replace x1 := kcell hkz7 x1
      replace x2 := kcell hkz7 x2
      have hza0 := Go.Ai.lt_of_cell a0
      have hzx0 := Go.Ai.lt_of_cell x0
      have HO1 := Lib.hid (ordered_any _ sl B.boys.length z7 hsl (by omega) hsx q2 HSI.out)
      clear hsx hmx
      go_wp2_with fail
      refine HO1.out.mono ?_
      rintro e z8 ⟨rfl, hkz8⟩
      have hsl := hsl.kept hkz8
      have hml := hml.kept hkz8
      replace hk0N := kept_trans hk0N hkz8
      replace hkx := kept_trans hkx hkz8
      replace hkk := kept_trans hkk hkz8
      replace a0 := kcell hkz8 a0
      replace a1 := kcell hkz8 a1
      replace a2 := kcell hkz8 a2
      replace x0 := kcell hkz8 x0
      replace x1 := kcell hkz8 x1
      replace x2 := kcell hkz8 x2
      have hza0 := Go.Ai.lt_of_cell a0
      have hzx0 := Go.Ai.lt_of_cell x0
      have HO2 := Lib.hid (ordered_any _ ml B.boys.length z8 hml (by omega) HMX.out q2 hmi)
      go_wp2_with fail
      refine HO2.out.mono ?_
      rintro e z9 ⟨rfl, hkz9⟩
      have hsl := hsl.kept hkz9
      have hml := hml.kept hkz9
      replace hk0N := kept_trans hk0N hkz9
      replace hkx := kept_trans hkx hkz9
      replace hkk := kept_trans hkk hkz9
      replace a0 := kcell hkz9 a0
      replace a1 := kcell hkz9 a1
      replace a2 := kcell hkz9 a2
      replace x0 := kcell hkz9 x0
      replace x1 := kcell hkz9 x1
      replace x2 := kcell hkz9 x2
      have hza0 := Go.Ai.lt_of_cell a0
      have hzx0 := Go.Ai.lt_of_cell x0
      have HSL := Lib.hid hsl; clear hsl
      have HML := Lib.hid hml; clear hml
      go_wp2_with fail
      go_loopw [26] (fun i V => ∃ j : Nat, j ≤ sl.length ∧ i = .int .i64 j ∧ Kept z9 V) (fun i V => sl.length - (intOf i).toNat)
      case atStart => exact ⟨0, by omega, rfl, kept_refl _⟩
      case round =>
        obtain ⟨j, hj, rfl, hV⟩ := hrel
        by_cases hlt : j < sl.length
        · have hltI : (j : Int) < sl.length := by omega
          obtain ⟨bs, cs', es, hbs, hcs⟩ := (HSL.out.kept hV).resolve_left (fun h => by rw [h.2] at hlt; simp at hlt)
          cases es
          have hcj := hcs j _ (List.getElem?_eq_getElem hlt)
          have hbm := HSX.out sl[j] (List.getElem_mem hlt)
          obtain ⟨x', hx'⟩ : ∃ x, B.boys[sl[j]]? = some x := ⟨_, List.getElem?_eq_getElem hbm⟩
          have hX' : X.boys[sl[j]]? = some x' := by rw [HX0.out]; exact hx'
          have hans : knowsB (knowOf B bits sl[j]) (wk : Int) note = true := by
            have h1 := HSA.out sl[j] (List.getElem_mem hlt) x' _ hX' (HXM.out sl[j] x' hx')
            rw [knows_sings hx' (by omega) k4]
            unfold singsN at h1
            rw [hX'] at h1
            exact h1
          have hwl' : wk < (knowOf B bits sl[j]).tops.length := by rw [knowOf_is hx']; simp [topsOf]; omega
          obtain ⟨tv', e1', e2', e3', hN'⟩ := HKS.out sl[j] _ (HKG.out sl[j] hbm)
          have e1' := kcell (kept_trans hkk hV) e1'
          have e2' := kcell (kept_trans hkk hV) e2'
          have e3' := kcell (kept_trans hkk hV) e3'
          have hbi : (sl[j] : Int) < ks.length := by rw [HKL.out]; omega
          have hcall := knows_any wr (knowOf B bits sl[j]) tv' wk note (hN'.kept (kept_trans hkk hV)) hwl'
          rw [hans] at hcall
          have HC1 := Lib.hid hcall
          clear hcall hans hwl' hcs hN' hX' hx' hbm
          generalize (knowOf B bits sl[j]) = k' at *
          generalize sl[j] = sj at *
          go_wp2_with fail
          refine HC1.out.mono ?_
          rintro e wz ⟨rfl, hkz⟩
          have hVn := kept_trans hV hkz
          go_wp2_with fail
          go_roundw
          case rel => exact ⟨j + 1, by omega, by go_num, hVn⟩
          case measure => simp [intOf]; omega
        · have hltI : ¬ (j : Int) < sl.length := by omega
          have hkkv := kept_trans hkk hV
          have HV9 := Lib.hid hV
          clear hV
          go_wp2_with fail
          go_loopw [27] (fun i V => ∃ j : Nat, j ≤ ml.length ∧ i = .int .i64 j ∧ Kept z9 V) (fun i V => ml.length - (intOf i).toNat)
          case atStart => exact ⟨0, by omega, rfl, HV9.out⟩
          case round =>
            obtain ⟨j, hj, rfl, hV⟩ := hrel
            by_cases hlt : j < ml.length
            · have hltI : (j : Int) < ml.length := by omega
              obtain ⟨bs, cs', es, hbs, hcs⟩ := (HML.out.kept hV).resolve_left (fun h => by rw [h.2] at hlt; simp at hlt)
              cases es
              have hcj := hcs j _ (List.getElem?_eq_getElem hlt)
              have hbm := HMX.out ml[j] (List.getElem_mem hlt)
              obtain ⟨x', hx'⟩ : ∃ x, B.boys[ml[j]]? = some x := ⟨_, List.getElem?_eq_getElem hbm⟩
              have hX' : X.boys[ml[j]]? = some x' := by rw [HX0.out]; exact hx'
              have hans : (knowOf B bits ml[j]).brk ≤ (wk : Int) := by
                have h1 := HMA.out ml[j] (List.getElem_mem hlt) x' _ hX' (HXM.out ml[j] x' hx')
                rw [knowOf_is hx']
                exact of_decide_eq_true h1
              have hans2 : ¬ (wk : Int) < (knowOf B bits ml[j]).brk := by omega
              obtain ⟨tv', e1', e2', e3', hN'⟩ := HKS.out ml[j] _ (HKG.out ml[j] hbm)
              have e1' := kcell (kept_trans hkk hV) e1'
              have e2' := kcell (kept_trans hkk hV) e2'
              have e3' := kcell (kept_trans hkk hV) e3'
              have hbi : (ml[j] : Int) < ks.length := by rw [HKL.out]; omega
              have hVn := hV
              clear hcs hN' hX' hx' hbm
              generalize (knowOf B bits ml[j]) = k' at *
              generalize ml[j] = sj at *
              go_wp2_with fail
              go_roundw
              case rel => exact ⟨j + 1, by omega, by go_num, hVn⟩
              case measure => simp [intOf]; omega
            · have hltI : ¬ (j : Int) < ml.length := by omega
              have HSU := Lib.hid (sung_is wr (h.laid.kept (kept_trans hk0N hV)) (hg.kept (kept_trans hk0N hV)))
              go_wp2_with fail
              refine HSU.out.mono ?_
              rintro e wf ⟨rfl, hkf⟩
              go_wp2_with fail
              refine bodyPost_ret (v := .bool true) (by simp [results, Tryz.results6, go_sem]) rfl ?_
              exact ⟨rfl, kept_trans (kept_trans hk0N hV) hkf⟩
    have HF := Lib.hid HFIN; clear HFIN
    by_cases hA : (wk : Int) < k.brk
    · obtain ⟨rfl, hin⟩ := HH1.out hA
      rw [hin] at HCV
      refine wp_region_quiet_below (by kernel_rfl) (by kernel_rfl) ?_
      repeat (any_goals (first | go_big_quiet_skip | quiet_step (first | with_reducible exact HCV.out _ _)))
      refine wpQuiet_nil ?_
      intro _ hw'
      obtain ⟨⟨dq, osq⟩, hw''⟩ := hw'
      subst hw''
      have kz4 := below_regrown z3 dq osq
      go_wp2_with fail
      exact HF.out _ _ rfl rfl rfl rfl rfl rfl rfl rfl kz4
    · rcases hh2 with rfl | rfl
      · skip
        refine wp_region_quiet_below (by kernel_rfl) (by kernel_rfl) ?_
        repeat (any_goals (first | go_big_quiet_skip | quiet_step (first | with_reducible exact HCV.out _ _)))
        refine wpQuiet_nil ?_
        intro _ hw'
        obtain ⟨⟨dq, osq⟩, hw''⟩ := hw'
        subst hw''
        have kz4 := below_regrown z3 dq osq
        go_wp2_with fail
        exact HF.out _ _ rfl rfl rfl rfl rfl rfl rfl rfl kz4
      · skip
        refine wp_region_quiet_below (by kernel_rfl) (by kernel_rfl) ?_
        repeat (any_goals (first | go_big_quiet_skip | quiet_step (first | with_reducible exact HCV.out _ _)))
        refine wpQuiet_nil ?_
        intro _ hw'
        obtain ⟨⟨dq, osq⟩, hw''⟩ := hw'
        subst hw''
        have kz4 := below_regrown z3 dq osq
        go_wp2_with fail
        exact HF.out _ _ rfl rfl rfl rfl rfl rfl rfl rfl kz4
  have HF := Lib.hid HFIN; clear HFIN
  have HKSN := Lib.hid (show knowsB k (wk : Int) note = singsN X (wk : Int) note note boy (drawn x bits boy) from by rw [HKS2.out]; unfold singsN; rw [HX.out]; rfl)
  have HCS := Lib.hid (knows_any w16 k _ wk note (HNK.out.kept hkk) hwl)
  by_cases hk2 : kind = 2
  · have hsb : knowsB k (wk : Int) note = true := by rw [HKSN.out]; exact HS2.out hk2
    subst hk2
    rw [hsb] at HCS
    go_wp2_with fail
    refine HCS.out.mono ?_
    rintro e w17 ⟨rfl, hk17⟩
    go_wp2_with fail
    exact HF.out _ _ rfl rfl rfl rfl rfl rfl rfl rfl rfl hk17
  · by_cases hk0 : kind = 0
    · have hsb : knowsB k (wk : Int) note = false := by rw [HKSN.out]; exact HS0.out hk0
      subst hk0
      rw [hsb] at HCS
      go_wp2_with fail
      refine HCS.out.mono ?_
      rintro e w17 ⟨rfl, hk17⟩
      go_wp2_with fail
      exact HF.out _ _ rfl rfl rfl rfl rfl rfl rfl rfl rfl hk17
    · go_wp2_with fail
      exact HF.out _ _ rfl rfl rfl rfl rfl rfl rfl rfl rfl (kept_refl _)
end Go.Proofs.YthkcgengohoboaaGreatDoor
set_option linter.all false
namespace Go.Proofs.YthkcgengohoboaaGreatDoor
open Go.ChangeShapes Go.WideShapes Go.ChangeAt Go.WideMaps Go.WideElems Go.RowKit Go.Deep Go.Rg
set_option maxRecDepth 100000
section
variable {H : Type} {enc : TypeId × Value → H} {w : World} {base : Nat} {sp : Nat → Bool} {held : Bool} {fuel : Nat} {cs : List Value} {x : DataW H × List MemPlace}
def intCells (n : Int) : List Value := [.int .i64 n]
theorem int_cells (h : DataW.trod enc Tryz.prog w base sp held fuel 3 cs = some x) : ∃ n : Int, cs = intCells n := by
  obtain ⟨z, e, _⟩ := DataW.trod_int Tryz.underlying3 h
  exact ⟨z, e⟩
end
theorem vbI : Tryz.prog.bytesOf 3 = 8 := by kernel_rfl
theorem few_ints {H : Type} {y : DataW H} {k : Nat} (hw : ∀ n ∈ y.weights Tryz.prog 41, n ≤ reachBytes) (h : ∃ es ss, y = .slice es ss ∧ es.length = k) : k ≤ 140737488355328 := by
  obtain ⟨es, ss, rfl, rfl⟩ := h
  have := hw ((es.length + ss.length) * Tryz.prog.bytesOf 3) (by simp [DataW.weights, Tryz.underlying41])
  rw [vbI] at this
  have := reachBytes_lt
  omega
theorem ints_weights {H : Type} {y0 y1 : DataW H} {t0 : TypeId} {ts : List TypeId} {ds : List (DataW H)} (h : (DataW.weightsEach Tryz.prog (t0 :: 41 :: ts) (y0 :: y1 :: ds)).all (· ≤ reachBytes) = true) :
    ∀ n ∈ y1.weights Tryz.prog 41, n ≤ reachBytes := by
  have hall := fun n hn => of_decide_eq_true (List.all_eq_true.1 h n hn)
  exact fun n hn => hall n (DataW.weights_mem_each (j := 1) rfl rfl n hn)
set_option maxHeartbeats 1000000 in
theorem vlifted (os : Os) (started : os.Started) (H : Type) (enc : TypeId × Value → H) :
    ReturnsInHanded {} Tryz.checked os 6 .any (fun w args => (Rows.voiceTrueSpec.pre enc Tryz.prog Tryz.f6 [] false w args ∧ laidMetH Tryz.prog vlaid w) ∧ sizedMet enc Tryz.prog Tryz.f6 (OpenSpec.ofChange Rows.voiceTrueSpec) false w args)
      (Rows.voiceTrueSpec.post enc Tryz.prog Tryz.f6 false true false false) := by
  refine returnsInHanded_of_change_and (C := Tryz.checked) (X := fun w _ => laidMetH Tryz.prog vlaid w) (fun _ _ _ hh h => h.of_heap hh) vown started (by kernel_rfl) Tryz.func6
    (ChangeSpec.witness_shaped (enc := enc) (C := Tryz.checked) (os := os) (X := fun w _ => laidMetH Tryz.prog vlaid w) false (World.doorLaid Tryz.prog 400 os) #[.agg #[.slice none 0 0, .int .i64 0, .slice none 0 0], .slice none 0 0, .agg #[.int .i64 0, .int .i64 0, .int .i64 0]] 8 rfl (World.shaped_of_RefB (by kernel_rfl) (by kernel_rfl)) (by kernel_rfl) (by kernel_rfl) (by kernel_rfl) (vdoor_met os _)) ?_
  intro W base args ds gs before hval0 hW _ hwt0 hL _
  have hW' := hW
  obtain ⟨p, q, hA0, hV, rfl, hfz, hnd⟩ := hW
  have hA : DataW.TrodAll enc Tryz.prog W 0 (fun _ => true) true Tryz.f6.params.toList args.toList ds p := hA0
  have hval := hval0
  have hwt := hwt0
  rw [Tryz.params6] at hA hval hwt
  obtain ⟨v0, vt, v1, d0, dt, d1, p0, pt0, p1, rfl, rfl, rfl, h0, ht0, h1⟩ := trodAll_three hA
  obtain ⟨rfl, rfl⟩ := trodVars_none hV
  have hlt : ∀ x ∈ p0 ++ (pt0 ++ p1), x.block < W.heap.size := fun x hx => hW'.lt x (by simpa using hx)
  have a0 : ∀ (W' : World), Below W.heap.size W W' → DataW.Trod enc Tryz.prog W' 0 (fun b => decide (b < W.heap.size)) true 25 v0 d0 p0 :=
    fun W' hn => Below.trod vlaidOut (by kernel_rfl) (of_decide_eq_true (by kernel_rfl)) h0 hn (fun x hx => hlt x (List.mem_append_left _ hx))
  have at1 : ∀ (W' : World), Below W.heap.size W W' → DataW.Trod enc Tryz.prog W' 0 (fun b => decide (b < W.heap.size)) true 41 vt dt pt0 :=
    fun W' hn => Below.trod vlaidOut (by kernel_rfl) (of_decide_eq_true (by kernel_rfl)) ht0 hn (fun x hx => hlt x (List.mem_append_right _ (List.mem_append_left _ hx)))
  have a1 : ∀ (W' : World), Below W.heap.size W W' → DataW.Trod enc Tryz.prog W' 0 (fun b => decide (b < W.heap.size)) true 38 v1 d1 p1 :=
    fun W' hn => Below.trod vlaidOut (by kernel_rfl) (of_decide_eq_true (by kernel_rfl)) h1 hn (fun x hx => hlt x (List.mem_append_right _ (List.mem_append_right _ hx)))
  obtain ⟨l1, l2⟩ := of_vlaid hL
  have hN : Nothing W := l1
  have hLd : Laid W := ⟨Go.Ai.lt_of_cell (l2 0 (by omega)), l2 0 (by omega), l2 1 (by omega), l2 2 (by omega), l2 3 (by omega), l2 4 (by omega), l2 5 (by omega), l2 6 (by omega), l2 7 (by omega), l2 8 (by omega), l2 9 (by omega)⟩
  obtain ⟨c0, rfl, hc0⟩ := okWide_struct Tryz.underlying25 (hval 0 25 v0 rfl rfl)
  obtain ⟨fu0, hf0⟩ := h0
  obtain ⟨y0, y1, y2, n, hy, hl0, t0, t1, t2⟩ := trod_struct3 Tryz.underlying25 hf0
  rw [vcK] at hc0
  obtain ⟨lc⟩ := c0
  obtain ⟨s0, s1, s2, rfl⟩ := len3 (by simpa using hc0)
  clear hc0 hl0 hf0
  have u0 : DataW.trod enc Tryz.prog W 0 (fun _ => true) true n 22 (([s0, s1, s2].drop 0).take (Tryz.prog.cellsOf 22)) = some y0 := t0
  have u1 : DataW.trod enc Tryz.prog W 0 (fun _ => true) true n 3 (([s0, s1, s2].drop 1).take (Tryz.prog.cellsOf 3)) = some y1 := t1
  have u2 : DataW.trod enc Tryz.prog W 0 (fun _ => true) true n 23 (([s0, s1, s2].drop 2).take (Tryz.prog.cellsOf 23)) = some y2 := t2
  rw [vcL] at u0
  rw [vcI] at u1
  rw [vcM] at u2
  have hy1 := congrArg Prod.fst hy
  simp only at hy1
  subst hy1
  obtain ⟨hw1, hw2⟩ := book_weights hwt
  obtain ⟨wk, rfl⟩ := one_int u1
  obtain ⟨pb, capb, lb, rfl, nb, hb, _⟩ := rows_of (k := 11) boyCells (by omega) (fun _ => rfl) Tryz.underlying22 vcB (fun n cs x h => boy_ints h) u0
  obtain ⟨pt, capt, lt, rfl, nt, ht, hroom⟩ := rows_of (k := 4) trialCells (by omega) (fun _ => rfl) Tryz.underlying23 vcT (fun n cs x h => trial_ints h) u2
  clear u0 u1 u2 t0 t1 t2
  have hBook : BookAt W pb pt capb capt ⟨lb, wk, lt⟩ := by
    refine ⟨hLd, nb.elim (fun e => by rw [e]; simp) (few_boys hw1), ⟨nt.elim (fun e => by rw [e]; simp) (few_trials hw2), hroom⟩, ?_, ?_⟩
    · rcases hb with e | ⟨b, o, rfl, hz, hc⟩
      · exact .inl e
      · exact .inr ⟨b, o, rfl, hz, fun i y hy => ⟨hc i y hy 0 (by omega), hc i y hy 1 (by omega), hc i y hy 2 (by omega), hc i y hy 3 (by omega), hc i y hy 4 (by omega), hc i y hy 5 (by omega), hc i y hy 6 (by omega), hc i y hy 7 (by omega), hc i y hy 8 (by omega), hc i y hy 9 (by omega), hc i y hy 10 (by omega)⟩⟩
    · rcases ht with e | ⟨b, o, rfl, hz, hc⟩
      · exact .inl e
      · exact .inr ⟨b, o, rfl, hz, fun i y hy => ⟨hc i y hy 0 (by omega), hc i y hy 1 (by omega), hc i y hy 2 (by omega), hc i y hy 3 (by omega)⟩⟩
  obtain ⟨c1, rfl, hc1⟩ := okWide_arr Tryz.underlying38 (hval 2 38 v1 rfl rfl)
  obtain ⟨ia, ilen, icap, rfl⟩ := okWide_slice Tryz.underlying41 (hval 1 41 vt rfl rfl)
  have hwi := ints_weights hwt
  obtain ⟨fut, hft⟩ := ht0
  obtain ⟨pi, capi, bits, hei, ni, hi, hri⟩ := rows_of (k := 1) intCells (by omega) (fun _ => rfl) Tryz.underlying41 vcI (fun n cs x h => int_cells h) (show DataW.trod enc Tryz.prog W 0 (fun _ => true) true fut 41 [.slice ia ilen icap] = some (dt, pt0) from hft)
  obtain ⟨rfl, rfl, rfl⟩ := Value.slice.inj hei
  have hBits : NumsAt W (.slice ia bits.length icap) bits := by
    refine ⟨_, _, rfl, ni.elim (fun e => by rw [e]; simp) (few_ints hwi), ?_⟩
    rcases hi with e | ⟨b, o, rfl, hz, hc⟩
    · exact .inl e
    · exact .inr ⟨b, o, rfl, hz, fun i x hx => by simpa [intCells] using hc i x hx 0 (by omega)⟩
  obtain ⟨fu1, hf1⟩ := h1
  obtain ⟨xs, m1, _, _, hl1, hxl, hel⟩ := DataW.trod_array Tryz.underlying38 hf1
  rw [vcA] at hc1
  obtain ⟨l3⟩ := c1
  obtain ⟨m0, m1', m2, rfl⟩ := len3 (by simpa using hc1)
  obtain ⟨z0, z1, z2, rfl⟩ := len3 hxl
  have w0 : DataW.trod enc Tryz.prog W 0 (fun _ => true) true m1 3 (([m0, m1', m2].drop (0 * Tryz.prog.cellsOf 3)).take (Tryz.prog.cellsOf 3)) = some z0 := hel 0 (by omega)
  have w1 : DataW.trod enc Tryz.prog W 0 (fun _ => true) true m1 3 (([m0, m1', m2].drop (1 * Tryz.prog.cellsOf 3)).take (Tryz.prog.cellsOf 3)) = some z1 := hel 1 (by omega)
  have w2 : DataW.trod enc Tryz.prog W 0 (fun _ => true) true m1 3 (([m0, m1', m2].drop (2 * Tryz.prog.cellsOf 3)).take (Tryz.prog.cellsOf 3)) = some z2 := hel 2 (by omega)
  rw [vcI] at w0 w1 w2
  obtain ⟨n0, rfl⟩ := one_int w0
  obtain ⟨n1, rfl⟩ := one_int w1
  obtain ⟨n2, rfl⟩ := one_int w2
  clear w0 w1 w2 hel hf1 hl1 hc1 hb ht
  have hlaw : Calls Tryz.prog 6 #[(Book.mk lb wk lt).val pb pt capb capt, .slice ia bits.length icap, .agg #[.int .i64 n0, .int .i64 n1, .int .i64 n2]] W fun e C => e = .returned (.bool true) ∧ Kept W C := by
    cases hok : (Book.mk lb wk lt).okB with
    | false => exact true_bad pb pt capb capt _ _ n0 n1 n2 W hBook hN hok
    | true => exact true_ok pb pt capb capt _ _ bits n0 n1 n2 W hBook hN hBits hok
  refine hlaw.mono fun e W' ⟨he, hk⟩ => ?_
  subst he
  exact ⟨_, rfl, _, _, _, [], _, [], hW', trodAll_mk1 (shut_bool Tryz.underlying4 true), ⟨_, _, a0 W' hk, ⟨_, _, at1 W' hk, ⟨_, _, a1 W' hk, rfl, rfl⟩, rfl⟩, rfl⟩, rfl, kept_but hk _, fun h => by cases h⟩

theorem voiceTrue_holds : Rows.VoiceTrueSaid :=
  OpenClaim.holds_of_wide 6 Tryz.f6 rfl rfl rfl rfl rfl rfl rfl ⟨rfl, rfl, rfl, rfl, rfl⟩ rfl rfl rfl rfl rfl (by kernel_rfl) Tryz.func6 (by kernel_rfl)
    (of_decide_eq_true (by kernel_rfl)) (by unfold Func.isWrapper; first | (rw [if_pos (by decide +kernel)]; kernel_rfl) | (rw [if_neg (by decide +kernel)]; exact ⟨rfl, rfl⟩))
    (fun os started H enc _ => vlifted os started H enc)

theorem vsi1 : Tryz.prog.wantsStandIn 41 = false := by kernel_rfl
theorem vsi0 : Tryz.prog.wantsStandIn 25 = false := by kernel_rfl
theorem vsi2 : Tryz.prog.wantsStandIn 38 = false := by kernel_rfl
theorem voiceTrue_card_holds : Rows.VoiceTrueCardSaid :=
  Claim7.holds_tied_plain_at .later [] [.data, .data] true (true, "5c4b87f4a7cbbbc90cfe47ae55d5aaa8e70e54cf31c79c0fc3f89bc86bf81c0e") false
    voiceTrue_holds (fun _ h => by cases h) (by kernel_rfl) (fun _ h => by cases h) voiceTrue_row_tie rfl ⟨rfl, rfl⟩ (by kernel_rfl) rfl
    (fun f fn hf hfn => by
      obtain rfl : f = 6 := Option.some.inj ((show Tryz.prog.funcNamed "decani/decanilaw02.VoiceTrue" = some 6 by kernel_rfl).symm.trans hf) |>.symm
      obtain rfl : fn = Tryz.f6 := (Option.some.inj (Tryz.func6.symm.trans hfn)).symm
      exact ⟨by kernel_rfl, fun j t ht => by
        rw [Tryz.params6] at ht
        match j, ht with
        | 0, ht => simp at ht; subst ht; exact vsi0
        | 1, ht => simp at ht; subst ht; exact vsi1
        | 2, ht => simp at ht; subst ht; exact vsi2
        | n + 3, ht => simp at ht⟩)
    (by kernel_rfl)
#print axioms voiceTrue_card_holds
end Go.Proofs.YthkcgengohoboaaGreatDoor
