/- A part of the proof: contracts of the program's functions for every input. No conditions. -/
import Derived.Test.YthkcgengohoboaaGreatDoorGC
import Derived.Test.YthkcgengohoboaaGreatDoorGF
import Derived.Test.YthkcgengohoboaaGreatDoorGE
set_option linter.all false
namespace Go.Proofs.YthkcgengohoboaaGreatDoor
open Go.RowKit Go.Sort Go.Rg
open Go.ChangeMaps (setBlock)
set_option maxRecDepth 100000
end Go.Proofs.YthkcgengohoboaaGreatDoor
namespace Go.Proofs.YthkcgengohoboaaGreatDoor
open Go.RowKit Go.Sort Go.Rg
set_option maxRecDepth 100000
def StG (I : (Nat → Value) → (Nat → Bool) → World → Prop) (l : List Oper) (a0 : Act) (listed : Array Bool) (a : Act) (w : World) : Prop :=
  ∃ vs, AtSt l.toArray vs a0 listed a ∧ I vs (on listed) w
theorem on_rep (n j : Nat) : on (Array.replicate n false) j = false := by
  unfold on
  simp only [Array.getD_eq_getD_getElem?, Array.getElem?_replicate]
  split <;> simp
theorem StG.start {I : (Nat → Value) → (Nat → Bool) → World → Prop} {l : List Oper} {a0 : Act} {w : World} (h : I (fun _ => undef) (fun _ => false) w) : StG I l a0 (Array.replicate l.length false) a0 w := by
  refine ⟨fun _ => undef, ⟨rfl, rfl, fun j o d hj => ?_, fun t _ => rfl⟩, ?_⟩
  · have := on_rep l.length j
    unfold on at this
    rw [this] at hj; cases hj
  · rw [show on (Array.replicate l.length false) = fun _ => false from funext (on_rep l.length)]; exact h
theorem StG.step {I : (Nat → Value) → (Nat → Bool) → World → Prop} {l : List Oper} {a0 a : Act} {vs : Nat → Value} {listed : Array Bool} {i : Nat} {o : Oper} (hd : distFrom l = true) (ha : AtSt l.toArray vs a0 listed a) (hl : listed.size = l.length) (ho : l[i]? = some o) (h1 : listed.getD i true = false) {v : Value} {w' : World}
    (hI : I (fun j => if j = i then v else vs j) (fun j => if j = i then true else on listed j) w') : StG I l a0 (listed.setIfInBounds i true) (a.put o.dst v) w' := by
  have hz : i < listed.size := by rw [hl]; exact (List.getElem?_eq_some_iff.1 ho).1
  have hn := on_no h1
  have hsw : ∀ j, listed.getD j false = true → vs j = (fun j => if j = i then v else vs j) j := fun j hj => by
    by_cases e : j = i
    · subst e; unfold on at hn; rw [hn] at hj; cases hj
    · simp [e]
  have hp := (ha.swap hsw).put (i := i) (by simpa using ho) h1 (dist_arr hd)
  simp only [if_true] at hp
  refine ⟨_, hp, ?_⟩
  rw [show on (listed.setIfInBounds i true) = fun j => if j = i then true else on listed j from funext fun j => by
    by_cases e : j = i
    · subst e; rw [on_self hz]; simp
    · rw [on_set e]; simp [e]]
  exact hI
theorem row_kept {A B : World} {base size n : Nat} {e : TypeId} {v : Value} {xs : List Value} (h : A.ownsRow base e size v n xs) (hk : Kept A B) : B.ownsRow base e size v n xs := by
  obtain ⟨h1, h2⟩ := h
  refine ⟨h1, h2.imp id ?_⟩
  rintro ⟨g, cap', cur, e1, e2, e3, e4⟩
  refine ⟨g, cap', cur, e1, e2, (hk.block g ?_).trans e3, e4⟩
  rcases Nat.lt_or_ge g A.heap.size with hlt | hge
  · exact hlt
  · rw [Array.getElem?_eq_none hge] at e3; cases e3
structure Apps (V : World) (e : TypeId) (size n : Nat) (xs news : List Value) (X : Addr) (vs : Nat → Value) (on : Nat → Bool) (w : World) : Prop where
  o30 : on 3 = true → on 0 = true
  o63 : on 6 = true → on 3 = true
  o65 : on 6 = true → on 5 = true
  o86 : on 8 = true → on 6 = true
  kept : on 8 = false → Kept V w
  r0 : on 0 = true → on 3 = false → ∃ g, vs 0 = .slice (some ⟨g, 0, none⟩) 0 0 ∧ w.ownsRow V.heap.size e size (vs 0) 0 []
  r3 : on 3 = true → on 6 = false → w.ownsRow V.heap.size e size (vs 3) n xs
  r5 : on 5 = true → on 6 = false → ∃ g, vs 5 = .slice (some ⟨g, 0, none⟩) 1 1 ∧ g < w.heap.size ∧ V.heap.size ≤ g ∧ (∀ (k : Nat) (u : Value), news[k]? = some u → w.cell? ((⟨g, 0, none⟩ : Addr).add k) = some u) ∧ (on 0 = true → on 3 = false → (vs 0).ownBlock ≠ some g) ∧ (on 3 = true → (vs 3).ownBlock ≠ some g)
  r6 : on 6 = true → ∃ wc, Kept V wc ∧ (∃ g cap, vs 6 = .slice (some ⟨g, 0, none⟩) (n + 1) cap) ∧ wc.ownsRow V.heap.size e size (vs 6) (n + 1) (xs ++ news) ∧ w = if on 8 then wc.setCell X (vs 6) else wc
section
variable {V w w' : World} {e : TypeId} {size n : Nat} {xs news : List Value} {X : Addr} {vs : Nat → Value} {on : Nat → Bool} {v : Value}
theorem Apps.start : Apps V e size n xs news X (fun _ => undef) (fun _ => false) V.drew :=
  ⟨nofun, nofun, nofun, nofun, fun _ => kept_drew (kept_refl V), nofun, nofun, nofun, nofun⟩
theorem Apps.pure (h : Apps V e size n xs news X vs on w) (i : Nat) (h0 : 0 ≠ i) (h3 : 3 ≠ i) (h5 : 5 ≠ i) (h6 : 6 ≠ i) (h8 : 8 ≠ i) : Apps V e size n xs news X (fun j => if j = i then v else vs j) (fun j => if j = i then true else on j) w := by
  obtain ⟨a1, a2, a3, a4, a5, a6, a7, a8, a9⟩ := h
  constructor <;> simp only [if_neg h0, if_neg h3, if_neg h5, if_neg h6, if_neg h8] <;> assumption
theorem add_cell {A : World} {g k : Nat} {u : Value} : A.cell? ((⟨g, 0, none⟩ : Addr).add k) = some u ↔ A.cell? ⟨g, k, none⟩ = some u := by
  rw [show ((⟨g, 0, none⟩ : Addr).add k) = ⟨g, k, none⟩ by unfold Addr.add; split <;> simp_all]
theorem tf {p : Prop} {b : Bool} (h1 : b = true) (h2 : b = false) : p := by rw [h1] at h2; cases h2
theorem Apps.stored (h : Apps V e size n xs news X vs on w) (h8 : on 8 = false) (h6 : on 6 = true) :
    Apps V e size n xs news X (fun j => if j = 8 then v else vs j) (fun j => if j = 8 then true else on j) (w.setCell X (vs 6)) := by
  refine ⟨h.o30, h.o63, h.o65, fun _ => h6, fun b => (nomatch b), fun _ b3 => tf (h.o63 h6) b3, fun _ b6 => tf h6 b6, fun _ b6 => tf h6 b6, fun _ => ?_⟩
  obtain ⟨wc, c1, c2, c3, c4⟩ := h.r6 h6
  rw [h8] at c4
  refine ⟨wc, c1, c2, c3, ?_⟩
  rw [c4]; rfl
end
structure Push (V : World) (base : Nat) (e : TypeId) (n : Nat) (row : Value) (xs : List Value) (F : Value → World → Prop) (bl : Nat) (vs : Nat → Value) (on : Nat → Bool) (w : World) : Prop where
  o43 : on 4 = true → on 3 = true
  o54 : on 5 = true → on 4 = true
  o65 : on 6 = true → on 5 = true
  kept : on 5 = false → Kept V w
  r3 : on 3 = true → on 5 = false → F (vs 3) w
  r4 : on 4 = true → on 5 = false → ∃ g, vs 4 = .slice (some ⟨g, 0, none⟩) 1 1 ∧ g < w.heap.size ∧ V.heap.size ≤ g ∧ w.cell? ⟨g, 0, none⟩ = some (vs 3)
  r5 : on 5 = true → ∃ wc, V.grownBy wc row.ownBlock ∧ F (vs 3) wc ∧ wc.ownsRow base e 1 (vs 5) (n + 1) (xs ++ [vs 3]) ∧ (∃ g cap, vs 5 = .slice (some ⟨g, 0, none⟩) (n + 1) cap ∧ (row.ownBlock = some g ∨ V.heap.size ≤ g) ∧ (vs 3).ownBlock ≠ some g ∧ g < wc.heap.size) ∧ w = if on 6 then wc.setCell ⟨bl, 0, none⟩ (vs 5) else wc
section
variable {V w w' : World} {base : Nat} {e : TypeId} {n : Nat} {row : Value} {xs : List Value} {F : Value → World → Prop} {bl : Nat} {vs : Nat → Value} {on : Nat → Bool} {v : Value}
theorem Push.start : Push V base e n row xs F bl (fun _ => undef) (fun _ => false) V.drew :=
  ⟨nofun, nofun, nofun, fun _ => kept_drew (kept_refl V), nofun, nofun, nofun⟩
theorem Push.pure (h : Push V base e n row xs F bl vs on w) (i : Nat) (h3 : 3 ≠ i) (h4 : 4 ≠ i) (h5 : 5 ≠ i) (h6 : 6 ≠ i) : Push V base e n row xs F bl (fun j => if j = i then v else vs j) (fun j => if j = i then true else on j) w := by
  obtain ⟨a1, a2, a3, a4, a5, a6, a7⟩ := h
  constructor <;> simp only [if_neg h3, if_neg h4, if_neg h5, if_neg h6] <;> assumption
theorem Push.stored (h : Push V base e n row xs F bl vs on w) (h6 : on 6 = false) (h5 : on 5 = true) :
    Push V base e n row xs F bl (fun j => if j = 6 then v else vs j) (fun j => if j = 6 then true else on j) (w.setCell ⟨bl, 0, none⟩ (vs 5)) := by
  refine ⟨h.o43, h.o54, fun _ => h5, fun b => tf h5 b, fun _ b => tf h5 b, fun _ b => tf h5 b, fun _ => ?_⟩
  obtain ⟨wc, c1, c2, c3, c4, c5⟩ := h.r5 h5
  rw [h6] at c5
  exact ⟨wc, c1, c2, c3, c4, by rw [c5]; rfl⟩
end
end Go.Proofs.YthkcgengohoboaaGreatDoor
namespace Go.Proofs.YthkcgengohoboaaGreatDoor
open Go.RowKit Go.Sort Go.Rg
set_option maxRecDepth 100000
attribute [local go_sem] Oper.semAt_some
theorem ListAt.turns {A B : World} {U : Nat → Prop} {v : Value} {l : List Nat} (h : ListAt A v l) (k : Turns U A B) (hu : ∀ b, v.ownBlock = some b → ¬ U b) : ListAt B v l :=
  h.imp id fun ⟨b, cap, e, hb, hc⟩ => ⟨b, cap, e, Nat.lt_of_lt_of_le hb k.size, fun i x hx => tcell k (hu b (by rw [e]; rfl)) (hc i x hx)⟩
theorem ListAt.quiet {A B : World} {lo : Nat} {T : Nat → Prop} {v : Value} {l : List Nat} (h : ListAt A v l) (k : Quiet lo T A B) (hu : ∀ b, v.ownBlock = some b → T b) : ListAt B v l :=
  h.imp id fun ⟨b, cap, e, hb, hc⟩ => ⟨b, cap, e, Nat.lt_of_lt_of_le hb k.size, fun i x hx => (k.cell (Go.Ai.lt_of_cell (hc i x hx)) (.inr (hu b (by rw [e]; rfl)))).trans (hc i x hx)⟩
theorem row_quiet {A B : World} {lo : Nat} {T : Nat → Prop} {base size n : Nat} {e : TypeId} {v : Value} {xs : List Value} (h : A.ownsRow base e size v n xs) (k : Quiet lo T A B) (hu : ∀ b, v.ownBlock = some b → T b) : B.ownsRow base e size v n xs := by
  obtain ⟨h1, h2⟩ := h
  refine ⟨h1, h2.imp id ?_⟩
  rintro ⟨g, cap', cur, e1, e2, e3, e4⟩
  exact ⟨g, cap', cur, e1, e2, (k.block g (Array.getElem?_eq_some_iff.1 e3).1 (.inr (hu g (by rw [e1]; rfl)))).trans e3, e4⟩
structure Gath (bl base : Nat) (ls : List (List Nat)) (k : Nat) (T : Nat → Prop) (A : World) : Prop where
  tb : T bl
  lt : bl < base
  at' : ∃ row xs, A.cell? ⟨bl, 0, none⟩ = some row ∧ A.frozen? ⟨bl, 0, none⟩ = false ∧ A.ownsRow base 41 1 row k xs ∧ (∀ b, row.ownBlock = some b → T b) ∧
    ∀ i l, i < k → ls[i]? = some l → ∃ v, xs[i]? = some v ∧ ListAt A v l ∧ ∀ b, v.ownBlock = some b → T b ∧ b ≠ bl ∧ row.ownBlock ≠ some b
theorem Gath.quiet {bl base : Nat} {ls : List (List Nat)} {k lo : Nat} {T : Nat → Prop} {A B : World} (h : Gath bl base ls k T A) (q : Quiet lo T A B) : Gath bl base ls k T B := by
  obtain ⟨h1, h2, row, xs, a1, a2, a3, a4, a5⟩ := h
  have z := Go.Ai.lt_of_cell a1
  refine ⟨h1, h2, row, xs, (q.cell z (.inr h1)).trans a1, (q.frozen z (.inr h1)).trans a2, row_quiet a3 q a4, a4, fun i l hi hl => ?_⟩
  obtain ⟨v, b1, b2, b3⟩ := a5 i l hi hl
  exact ⟨v, b1, b2.quiet q fun b hb => (b3 b hb).1, b3⟩
end Go.Proofs.YthkcgengohoboaaGreatDoor
namespace Go.Proofs.YthkcgengohoboaaGreatDoor
open Go.RowKit Go.Sort Go.Rg
set_option maxRecDepth 100000
attribute [local go_sem] Oper.semAt_some
theorem ListAt.mark {B C : World} {v : Value} {l : List Nat} {Db : Nat} {x : Option (List Deferred)} (h : ListAt B v l) (hK : B.heap[Db]? = some (.deferred x)) (k : Turns (fun b => b = Db) B C) : ListAt C v l :=
  h.imp id fun ⟨b, cap, e, hb, hc⟩ => ⟨b, cap, e, Nat.lt_of_lt_of_le hb k.size, fun i y hx => by
    have h1 := hc i y hx
    refine tcell k (fun e => ?_) h1
    subst e
    simp [World.cell?, hK] at h1⟩
end Go.Proofs.YthkcgengohoboaaGreatDoor
namespace Go.Proofs.YthkcgengohoboaaGreatDoor
open Go.RowKit Go.Sort Go.Rg
set_option maxRecDepth 100000
theorem mem_gen {lo hi : Nat → Int} {boy : Int} {lt : List Trial} {kp : List Int → Bool} : ∀ (d : Nat) (pre x : List Int), x ∈ gen lo hi boy lt kp d pre ↔
    ∃ suf : List Int, suf.length = d ∧ x = pre ++ suf ∧ kp x = true ∧ ∀ i v, suf[i]? = some v → lo (pre.length + i) ≤ v ∧ v ≤ hi (pre.length + i) ∧ fbAt boy lt (pre.length + i) v = false
  | 0, pre, x => by
    unfold gen
    constructor
    · intro h
      by_cases hk : kp pre = true
      · rw [if_pos hk] at h
        have : x = pre := by simpa using h
        subst this
        exact ⟨[], rfl, by simp, hk, fun i v hv => by simp at hv⟩
      · rw [if_neg hk] at h; simp at h
    · rintro ⟨suf, hl, rfl, hk, -⟩
      have : suf = [] := List.length_eq_zero_iff.1 hl
      subst this
      rw [List.append_nil] at hk ⊢
      rw [if_pos hk]; simp
  | d + 1, pre, x => by
    unfold gen
    simp only [List.mem_flatten, List.mem_map, List.mem_range]
    constructor
    · rintro ⟨l, ⟨m, hm, rfl⟩, hx⟩
      by_cases hf : fbAt boy lt pre.length (lo pre.length + (m : Int)) = true
      · rw [if_pos hf] at hx; simp at hx
      · rw [if_neg hf] at hx
        obtain ⟨suf, hl, rfl, hk, hs⟩ := (mem_gen d _ x).1 hx
        refine ⟨(lo pre.length + (m : Int)) :: suf, by simp [hl], by simp, hk, fun i v hv => ?_⟩
        cases i with
        | zero =>
          simp only [List.getElem?_cons_zero, Option.some.injEq] at hv
          subst hv
          refine ⟨by simp only [Nat.add_zero]; omega, by simp only [Nat.add_zero]; omega, by simpa using hf⟩
        | succ i =>
          have := hs i v (by simpa using hv)
          simp only [List.length_append, List.length_cons, List.length_nil] at this
          rw [show pre.length + (i + 1) = pre.length + (0 + 1) + i by omega]
          exact this
    · rintro ⟨suf, hl, rfl, hk, hs⟩
      match suf, hl with
      | v :: suf, hl =>
        have h0 := hs 0 v rfl
        simp only [Nat.add_zero] at h0
        refine ⟨_, ⟨(v - lo pre.length).toNat, by omega, rfl⟩, ?_⟩
        have e : lo pre.length + (((v - lo pre.length).toNat : Nat) : Int) = v := by omega
        rw [e, if_neg (by rw [h0.2.2]; simp)]
        refine (mem_gen d _ _).2 ⟨suf, by simpa using hl, by simp, hk, fun i u hu => ?_⟩
        have := hs (i + 1) u (by simpa using hu)
        simp only [List.length_append, List.length_cons, List.length_nil]
        rw [show pre.length + (0 + 1) + i = pre.length + (i + 1) by omega]
        exact this
theorem mem_truths {B : Book} {boy : Nat} {x : Boy} {n : List Int} : n ∈ B.truths boy x ↔
    n.length = 5 ∧ kpOf B boy x n = true ∧ ∀ i v, n[i]? = some v → x.lo i ≤ v ∧ v ≤ x.hi i ∧ fbAt boy B.trials i v = false := by
  unfold Book.truths
  rw [mem_gen]
  constructor
  · rintro ⟨suf, hl, rfl, hk, hs⟩
    simp only [List.nil_append, List.length_nil, Nat.zero_add] at hk hs ⊢
    exact ⟨hl, hk, hs⟩
  · rintro ⟨hl, hk, hs⟩
    exact ⟨n, hl, by simp, hk, fun i v hv => by simpa using hs i v hv⟩
structure Better (x y : Boy) : Prop where
  l0 : x.l0 = y.l0
  l1 : x.l1 = y.l1
  t0 : x.t0 = y.t0
  t1 : x.t1 = y.t1
  b0 : x.b0 = y.b0
  b1 : x.b1 = y.b1
  h0 : x.h0 ≤ y.h0
  h1 : x.h1 ≤ y.h1
  g0 : x.g0 ≤ y.g0
  g1 : x.g1 ≤ y.g1
  ls : y.ls ≤ x.ls
structure GainsAt (s0 s1 t0 t1 : Int) (fd gd : Bool) (k m : Int) : Prop where
  e : fd = gd
  a : s0 ≤ t0
  b : s1 ≤ t1
  c : k = 2 → m = 2
  d : k ≠ 0 → m ≠ 0
  k0 : 0 ≤ k
  k2 : k ≤ 2
  m0 : 0 ≤ m
  m2 : m ≤ 2
theorem truths_mono {A B : Book} (hw : A.weeks = B.weeks) (ht : ∀ t, t ∈ A.trials → t ∈ B.trials) {boy : Nat} {x : Boy} {n : List Int} (h : n ∈ B.truths boy x) : n ∈ A.truths boy x := by
  rw [mem_truths] at h ⊢
  obtain ⟨h1, h2, h3⟩ := h
  refine ⟨h1, ?_, fun i v hv => ⟨(h3 i v hv).1, (h3 i v hv).2.1, ?_⟩⟩
  · unfold kpOf at h2 ⊢
    rw [hw]
    rw [List.all_eq_true] at h2 ⊢
    intro wk hwk
    have := h2 wk hwk
    simp only [Bool.not_eq_true', List.any_eq_false] at this ⊢
    intro t ht'
    refine this t ?_
    simp only [Book.told, List.mem_filter] at ht' ⊢
    exact ⟨ht t ht'.1, ht'.2⟩
  · have := (h3 i v hv).2.2
    unfold fbAt at this ⊢
    rw [List.any_eq_false] at this ⊢
    exact fun t ht' => this t (ht t ht')
def ownT (B : Book) (boy : Nat) : List Trial := B.trials.filter fun t => decide (t.boy = (boy : Int))
def apart (B : Book) (boy : Nat) : Book := ⟨B.boys, B.weeks, ownT B boy⟩
structure MoreAt (lo0 lo1 lo0' lo1' : Int) : Prop where
  a : lo0 ≤ lo0'
  b : lo1' ≤ lo1
theorem only_is (n : Int) (w : World) : Calls Tryz.prog 80 #[.int .i64 n] w fun e w' => e = .returned (.agg #[.int .i64 n, .int .i64 n]) ∧ Kept w w' := by
  go_enter Tryz.func80, Tryz.ntmps80
  go_wp2_with fail
  refine bodyPost_ret (v := .agg #[.int .i64 n, .int .i64 n]) (by simp [results, Tryz.results80, go_sem]) rfl ⟨rfl, ?_⟩
  exact kept_alloc (kept_refl _) _
theorem bounds_is (a b : Int) (w : World) : Calls Tryz.prog 42 #[.int .i64 a, .int .i64 b] w fun e w' => e = .returned (.agg #[.int .i64 a, .int .i64 b]) ∧ Kept w w' := by
  go_enter Tryz.func42, Tryz.ntmps42
  go_wp2_with fail
  refine bodyPost_ret (v := .agg #[.int .i64 a, .int .i64 b]) (by simp [results, Tryz.results42, go_sem]) rfl ⟨rfl, ?_⟩
  exact kept_alloc (kept_refl _) _
end Go.Proofs.YthkcgengohoboaaGreatDoor
