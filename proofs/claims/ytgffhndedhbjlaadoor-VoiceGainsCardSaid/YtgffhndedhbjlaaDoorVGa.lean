/- A part of the proof: contracts of the program's functions for every input. No conditions. -/
import Derived.Test.YtgffhndedhbjlaaDoorVF
import Derived.Test.YtgffhndedhbjlaaDoorVI
set_option linter.all false
set_option linter.all false
namespace Go.Proofs.YtgffhndedhbjlaaDoor
open Go.RowKit Go.Sort Go.Rg
set_option maxRecDepth 100000

/-- what is known while a region is carried out, in whatever order, of which the last operation alone, number c, writes -/
def StL (c : Nat) (vs : Nat → Value) (V W' : World) (l : List Oper) (a0 : Act) (listed : Array Bool) (a : Act) (w : World) : Prop :=
  AtSt l.toArray vs a0 listed a ∧ (on listed c = true → ∀ j, j < c → on listed j = true) ∧ w = if on listed c then W' else V.drew
section
variable {l : List Oper} {a0 a : Act} {c : Nat} {vs : Nat → Value} {V W' w : World} {listed : Array Bool} {i : Nat} {o : Oper}
theorem StL.start : StL c vs V W' l a0 (Array.replicate l.length false) a0 V.drew := by
  have no : ∀ j, on (Array.replicate l.length false) j = false := fun j => by
    unfold on
    simp only [Array.getD_eq_getD_getElem?, Array.getElem?_replicate]
    split <;> simp
  refine ⟨⟨rfl, rfl, fun j o d hj => ?_, fun t _ => rfl⟩, (fun h => by rw [no] at h; cases h), by rw [no]; rfl⟩
  have := no j
  unfold on at this
  rw [this] at hj; cases hj
theorem StL.world (h : StL c vs V W' l a0 listed a w) (h1 : listed.getD i true = false) (ic : i < c) : on listed c = false ∧ w = V.drew := by
  obtain ⟨_, h2, h3⟩ := h
  cases hc : on listed c with
  | false => rw [hc] at h3; exact ⟨rfl, h3⟩
  | true => have := h2 hc i ic; rw [on_no h1] at this; cases this
theorem StL.pure (hd : distFrom l = true) (h : StL c vs V W' l a0 listed a w) (ho : l[i]? = some o) (h1 : listed.getD i true = false) (ic : i < c) :
    StL c vs V W' l a0 (listed.setIfInBounds i true) (a.put o.dst (vs i)) w := by
  obtain ⟨e1, e2⟩ := h.world h1 ic
  rw [e2]
  have hs : on (listed.setIfInBounds i true) c = on listed c := on_set (by omega)
  exact ⟨h.1.put (by simpa using ho) h1 (dist_arr hd), (fun e => by rw [hs, e1] at e; cases e), by rw [hs, e1]; rfl⟩
theorem StL.stored (hd : distFrom l = true) (h : StL c vs V W' l a0 listed a w) (hl : listed.size = l.length) (ho : l[c]? = some o) (h1 : listed.getD c true = false) (hn : o.dst = none) (hb : ∀ j, j < c → on listed j = true) :
    w = V.drew ∧ StL c vs V W' l a0 (listed.setIfInBounds c true) a W' := by
  have hz : c < listed.size := by rw [hl]; exact (List.getElem?_eq_some_iff.1 ho).1
  have e1 := on_no h1
  refine ⟨by have := h.2.2; rw [e1] at this; exact this, ?_, fun _ j hj => on_set_mono (hb j hj), by rw [on_self hz]; rfl⟩
  have := h.1.put (i := c) (by simpa using ho) h1 (dist_arr hd)
  rw [hn] at this
  exact this
end
end Go.Proofs.YtgffhndedhbjlaaDoor
set_option linter.all false
namespace Go.Proofs.YtgffhndedhbjlaaDoor
open Go.RowKit Go.Sort Go.Rg
set_option maxRecDepth 100000

/-- which lists of numbers are among those that are gone through -/
theorem mem_gen {lo hi : Nat → Int} {boy : Int} {lt : List Trial} {kp : List Int → Bool} : ∀ (d : Nat) (pre x : List Int), x ∈ gen lo hi boy lt kp d pre ↔
    ∃ suf : List Int, suf.length = d ∧ x = pre ++ suf ∧ kp x = true ∧ ∀ i v, suf[i]? = some v → lo (pre.length + i) ≤ v ∧ v ≤ hi (pre.length + i) ∧ fbAt boy lt (pre.length + i) v = false
  | 0, pre, x => by
    unfold gen
    constructor
    · intro h
      by_cases hk : kp pre = true
      · rw [if_pos hk] at h
        have : x = pre := by simpa using h
        subst this
        exact ⟨[], rfl, by simp, hk, fun i v hv => by simp at hv⟩
      · rw [if_neg hk] at h; simp at h
    · rintro ⟨suf, hl, rfl, hk, -⟩
      have : suf = [] := List.length_eq_zero_iff.1 hl
      subst this
      rw [List.append_nil] at hk ⊢
      rw [if_pos hk]; simp
  | d + 1, pre, x => by
    unfold gen
    simp only [List.mem_flatten, List.mem_map, List.mem_range]
    constructor
    · rintro ⟨l, ⟨m, hm, rfl⟩, hx⟩
      by_cases hf : fbAt boy lt pre.length (lo pre.length + (m : Int)) = true
      · rw [if_pos hf] at hx; simp at hx
      · rw [if_neg hf] at hx
        obtain ⟨suf, hl, rfl, hk, hs⟩ := (mem_gen d _ x).1 hx
        refine ⟨(lo pre.length + (m : Int)) :: suf, by simp [hl], by simp, hk, fun i v hv => ?_⟩
        cases i with
        | zero =>
          simp only [List.getElem?_cons_zero, Option.some.injEq] at hv
          subst hv
          refine ⟨by simp only [Nat.add_zero]; omega, by simp only [Nat.add_zero]; omega, by simpa using hf⟩
        | succ i =>
          have := hs i v (by simpa using hv)
          simp only [List.length_append, List.length_cons, List.length_nil] at this
          rw [show pre.length + (i + 1) = pre.length + (0 + 1) + i by omega]
          exact this
    · rintro ⟨suf, hl, rfl, hk, hs⟩
      match suf, hl with
      | v :: suf, hl =>
        have h0 := hs 0 v rfl
        simp only [Nat.add_zero] at h0
        refine ⟨_, ⟨(v - lo pre.length).toNat, by omega, rfl⟩, ?_⟩
        have e : lo pre.length + (((v - lo pre.length).toNat : Nat) : Int) = v := by omega
        rw [e, if_neg (by rw [h0.2.2]; simp)]
        refine (mem_gen d _ _).2 ⟨suf, by simpa using hl, by simp, hk, fun i u hu => ?_⟩
        have := hs (i + 1) u (by simpa using hu)
        simp only [List.length_append, List.length_cons, List.length_nil]
        rw [show pre.length + (0 + 1) + i = pre.length + (i + 1) by omega]
        exact this
theorem mem_truths {B : Book} {boy : Nat} {x : Boy} {n : List Int} : n ∈ B.truths boy x ↔
    n.length = 5 ∧ kpOf B boy x n = true ∧ ∀ i v, n[i]? = some v → x.lo i ≤ v ∧ v ≤ x.hi i ∧ fbAt boy B.trials i v = false := by
  unfold Book.truths
  rw [mem_gen]
  constructor
  · rintro ⟨suf, hl, rfl, hk, hs⟩
    simp only [List.nil_append, List.length_nil, Nat.zero_add] at hk hs ⊢
    exact ⟨hl, hk, hs⟩
  · rintro ⟨hl, hk, hs⟩
    exact ⟨n, hl, by simp, hk, fun i v hv => by simpa using hs i v hv⟩
/-- a book without trials -/
theorem mem_untried {B : Book} (hB : B.trials = []) {boy : Nat} {x : Boy} {n0 n1 n2 n3 n4 : Int} : [n0, n1, n2, n3, n4] ∈ B.truths boy x ↔
    (x.l0 ≤ n0 ∧ n0 ≤ x.l1) ∧ (x.h0 ≤ n1 ∧ n1 ≤ x.h1) ∧ (x.g0 ≤ n2 ∧ n2 ≤ x.g1) ∧ (x.t0 ≤ n3 ∧ n3 ≤ x.t1) ∧ (x.b0 ≤ n4 ∧ n4 ≤ x.b1) := by
  rw [mem_truths]
  have hk : kpOf B boy x [n0, n1, n2, n3, n4] = true := by
    unfold kpOf Book.told
    rw [hB]
    simp
  constructor
  · rintro ⟨-, -, h⟩
    have h0 := h 0 n0 rfl
    have h1 := h 1 n1 rfl
    have h2 := h 2 n2 rfl
    have h3 := h 3 n3 rfl
    have h4 := h 4 n4 rfl
    simp only [Boy.lo, Boy.hi] at h0 h1 h2 h3 h4
    exact ⟨⟨h0.1, h0.2.1⟩, ⟨h1.1, h1.2.1⟩, ⟨h2.1, h2.2.1⟩, ⟨h3.1, h3.2.1⟩, ⟨h4.1, h4.2.1⟩⟩
  · rintro ⟨⟨a0, a1⟩, ⟨b0, b1⟩, ⟨c0, c1⟩, ⟨d0, d1⟩, ⟨e0, e1⟩⟩
    refine ⟨rfl, hk, fun i v hv => ?_⟩
    rw [hB]
    match i, hv with
    | 0, hv => cases hv; exact ⟨a0, a1, rfl⟩
    | 1, hv => cases hv; exact ⟨b0, b1, rfl⟩
    | 2, hv => cases hv; exact ⟨c0, c1, rfl⟩
    | 3, hv => cases hv; exact ⟨d0, d1, rfl⟩
    | 4, hv => cases hv; exact ⟨e0, e1, rfl⟩
theorem can_untried {B : Book} (hok : B.okB = true) (hB : B.trials = []) : Can B := fun boy x hx => by
  obtain ⟨-, hb, -⟩ := okB_boys hok
  obtain ⟨n0, n1, n2, n3, n4⟩ := boy_nums (hb x (List.mem_of_getElem? hx))
  refine List.ne_nil_of_mem ((mem_untried hB (n0 := x.l0) (n1 := x.h0) (n2 := x.g0) (n3 := x.t0) (n4 := x.b0)).2 ?_)
  omega

theorem untried_ok {B : Book} (h : B.okB = true) : (Book.mk B.boys B.weeks []).okB = true := by
  simp only [Book.okB, Bool.and_eq_true] at h ⊢
  exact ⟨⟨⟨⟨h.1.1.1.1, h.1.1.1.2⟩, by simp⟩, h.1.2⟩, rfl⟩
theorem set_ok {B : Book} (h : B.okB = true) {boy : Nat} {y : Boy} (hy : y.okB = true) : (Book.mk (B.boys.set boy y) B.weeks []).okB = true := by
  simp only [Book.okB, Bool.and_eq_true, List.length_set] at h ⊢
  refine ⟨⟨⟨⟨h.1.1.1.1, h.1.1.1.2⟩, by simp⟩, ?_⟩, rfl⟩
  rw [List.all_eq_true]
  intro z hz
  rcases List.mem_or_eq_of_mem_set hz with hz | rfl
  · exact List.all_eq_true.1 h.1.2 z hz
  · exact hy
/-- a boy who is better: who gains more, or loses less, or whose highest note is higher at first -/
structure Better (x y : Boy) : Prop where
  l0 : x.l0 = y.l0
  l1 : x.l1 = y.l1
  t0 : x.t0 = y.t0
  t1 : x.t1 = y.t1
  b0 : x.b0 = y.b0
  b1 : x.b1 = y.b1
  h0 : x.h0 ≤ y.h0
  h1 : x.h1 ≤ y.h1
  g0 : x.g0 ≤ y.g0
  g1 : x.g1 ≤ y.g1
  ls : y.ls ≤ x.ls
theorem ls_ok {x : Boy} (h : x.okB = true) {v : Int} (h1 : 0 ≤ v) (h2 : v ≤ x.ls) : ({ x with ls := v } : Boy).okB = true := by
  have hh := spanAt_ok x h
  simp only [Boy.okB, spanAt, spanB, inB, Bool.and_eq_true, decide_eq_true_eq, Bool.not_eq_true', decide_eq_false_iff_not] at h ⊢
  omega
theorem g_ok {x : Boy} (h : x.okB = true) {u v : Int} (h1 : 0 ≤ u) (h2 : u ≤ v) (h3 : v ≤ 2) (h4 : v - u ≤ 1) : ({ x with g0 := u, g1 := v } : Boy).okB = true := by
  simp only [Boy.okB, spanAt, spanB, inB, Bool.and_eq_true, decide_eq_true_eq, Bool.not_eq_true', decide_eq_false_iff_not] at h ⊢
  omega
theorem h_ok {x : Boy} (h : x.okB = true) {u v : Int} (h1 : 0 ≤ u) (h2 : u ≤ v) (h3 : v ≤ 40) (h4 : v - u ≤ 2) : ({ x with h0 := u, h1 := v } : Boy).okB = true := by
  simp only [Boy.okB, spanAt, spanB, inB, Bool.and_eq_true, decide_eq_true_eq, Bool.not_eq_true', decide_eq_false_iff_not] at h ⊢
  omega
theorem top_mono {h h' g g' t lo lo' wk : Int} (hw : 0 ≤ wk) (ht : 0 ≤ t) (h1 : h ≤ h') (h2 : g ≤ g') (h3 : lo' ≤ lo) : top h g t lo wk ≤ top h' g' t lo' wk := by
  unfold top
  have a := Int.mul_le_mul_of_nonneg_left h2 (show 0 ≤ min wk t by omega)
  have b := Int.mul_le_mul_of_nonneg_left h3 (show 0 ≤ wk - min wk t by omega)
  omega
theorem better_up {x y : Boy} (h : Better x y) (hy : y.okB = true) {n0 n1 n2 n3 n4 : Int} {A B : Book} (hA : A.trials = []) (hB : B.trials = []) {boy : Nat} (hn : [n0, n1, n2, n3, n4] ∈ A.truths boy x) :
    ∃ m1 m2, n1 ≤ m1 ∧ n2 ≤ m2 ∧ [n0, m1, m2, n3, n4] ∈ B.truths boy y := by
  rw [mem_untried hA] at hn
  obtain ⟨a, b, c, d, e⟩ := boy_nums hy
  have := h.l0; have := h.l1; have := h.t0; have := h.t1; have := h.b0; have := h.b1; have := h.h0; have := h.h1; have := h.g0; have := h.g1
  refine ⟨max n1 y.h0, max n2 y.g0, by omega, by omega, (mem_untried hB).2 ?_⟩
  omega
theorem better_down {x y : Boy} (h : Better x y) (hx : x.okB = true) {n0 n1 n2 n3 n4 : Int} {A B : Book} (hA : A.trials = []) (hB : B.trials = []) {boy : Nat} (hn : [n0, n1, n2, n3, n4] ∈ B.truths boy y) :
    ∃ m1 m2, m1 ≤ n1 ∧ m2 ≤ n2 ∧ [n0, m1, m2, n3, n4] ∈ A.truths boy x := by
  rw [mem_untried hB] at hn
  obtain ⟨a, b, c, d, e⟩ := boy_nums hx
  have := h.l0; have := h.l1; have := h.t0; have := h.t1; have := h.b0; have := h.b1; have := h.h0; have := h.h1; have := h.g0; have := h.g1
  refine ⟨min n1 x.h1, min n2 x.g1, by omega, by omega, (mem_untried hA).2 ?_⟩
  omega

/-- what the law says of the better boy -/
structure GainsAt (s0 s1 t0 t1 : Int) (fd gd : Bool) (k m : Int) : Prop where
  e : fd = gd
  a : s0 ≤ t0
  b : s1 ≤ t1
  c : k = 2 → m = 2
  d : k ≠ 0 → m ≠ 0
  k0 : 0 ≤ k
  k2 : k ≤ 2
  m0 : 0 ≤ m
  m2 : m ≤ 2
theorem gains_at {A B : Book} (hA : A.trials = []) (hB : B.trials = []) {boy : Nat} {x y : Boy} (hx : A.boys[boy]? = some x) (hy : B.boys[boy]? = some y) (hxo : x.okB = true) (hyo : y.okB = true) (hb : Better x y) {week note : Int} (hw : 0 ≤ week)
    {s0 s1 t0 t1 k m : Int} {fd gd : Bool} (e1 : spanOf (hiF A boy week) (A.truths boy x) = (s0, s1, fd)) (e2 : spanOf (hiF B boy week) (B.truths boy y) = (t0, t1, gd))
    (e3 : oftenOf (A.truths boy x) (singsN A week note note boy) = k) (e4 : oftenOf (B.truths boy y) (singsN B week note note boy) = m) (hne : A.truths boy x ≠ []) : GainsAt s0 s1 t0 t1 fd gd k m := by
  have hlA : lossOf A boy = x.ls := by simp [lossOf, hx]
  have hlB : lossOf B boy = y.ls := by simp [lossOf, hy]
  obtain ⟨-, -, -, hto, -⟩ := boy_nums hxo
  have up : ∀ n ∈ A.truths boy x, ∃ m ∈ B.truths boy y, (hiF A boy week n).2 = (hiF B boy week m).2 ∧ (hiF A boy week n).1 ≤ (hiF B boy week m).1 ∧ n.getD 0 0 = m.getD 0 0 := by
    intro n hn
    obtain ⟨n0, n1, n2, n3, n4, rfl⟩ := truths_len hn
    obtain ⟨m1, m2, h1, h2, hm⟩ := better_up hb hyo hA hB hn
    have hr := (mem_untried hA).1 hn
    refine ⟨_, hm, rfl, ?_, rfl⟩
    simp only [hiF, hlA, hlB]
    exact top_mono hw (by simp; omega) h1 h2 hb.ls
  have down : ∀ m ∈ B.truths boy y, ∃ n ∈ A.truths boy x, (hiF A boy week n).2 = (hiF B boy week m).2 ∧ (hiF A boy week n).1 ≤ (hiF B boy week m).1 ∧ n.getD 0 0 = m.getD 0 0 := by
    intro m hm
    obtain ⟨n0, n1, n2, n3, n4, rfl⟩ := truths_len hm
    obtain ⟨m1, m2, h1, h2, hn⟩ := better_down hb hxo hA hB hm
    have hr := (mem_untried hA).1 hn
    refine ⟨_, hn, rfl, ?_, rfl⟩
    simp only [hiF, hlA, hlB]
    exact top_mono hw (by simp; omega) h1 h2 hb.ls
  have sing : ∀ {n m : List Int}, (hiF A boy week n).2 = (hiF B boy week m).2 → (hiF A boy week n).1 ≤ (hiF B boy week m).1 → n.getD 0 0 = m.getD 0 0 → singsN A week note note boy n = true → singsN B week note note boy m = true := by
    intro n m h1 h2 h3 h
    rw [singsN_iff] at h ⊢
    rw [← h1, ← h3]
    exact ⟨h.1, h.2.1, by omega⟩
  obtain ⟨k0, k2⟩ := often_rng (A.truths boy x) (singsN A week note note boy)
  obtain ⟨m0, m2⟩ := often_rng (B.truths boy y) (singsN B week note note boy)
  rw [e3] at k0 k2
  rw [e4] at m0 m2
  have hfg : fd = gd ∧ s0 ≤ t0 ∧ s1 ≤ t1 := by
    by_cases hc : ∃ n ∈ A.truths boy x, (hiF A boy week n).2 = true
    · obtain ⟨p0, p1, f1, _, p3, ⟨pm, pm1, pm2, pm3⟩, ⟨pM, pM1, pM2, pM3⟩⟩ := spanOf_some _ _ hc
      have hc' : ∃ m ∈ B.truths boy y, (hiF B boy week m).2 = true := by
        obtain ⟨n, hn, ht⟩ := hc
        obtain ⟨m, hm, g1, _⟩ := up n hn
        exact ⟨m, hm, g1 ▸ ht⟩
      obtain ⟨q0, q1, f2, _, q3, ⟨qm, qm1, qm2, qm3⟩, ⟨qM, qM1, qM2, qM3⟩⟩ := spanOf_some _ _ hc'
      rw [e1] at f1; cases f1
      rw [e2] at f2; cases f2
      refine ⟨rfl, ?_, ?_⟩
      · obtain ⟨n, hn, g1, g2, _⟩ := down qm qm1
        have := (p3 n hn (g1.trans qm2)).1
        omega
      · obtain ⟨m, hm, g1, g2, _⟩ := up pM pM1
        have := (q3 m hm (g1.symm.trans pM2)).2
        omega
    · have hc' : ¬ ∃ m ∈ B.truths boy y, (hiF B boy week m).2 = true := by
        rintro ⟨m, hm, ht⟩
        obtain ⟨n, hn, g1, _⟩ := down m hm
        exact hc ⟨n, hn, g1.trans ht⟩
      have f1 := spanOf_none (hiF A boy week) (A.truths boy x) (fun n hn => by
        cases h : (hiF A boy week n).2 with
        | false => rfl
        | true => exact absurd ⟨n, hn, h⟩ hc)
      have f2 := spanOf_none (hiF B boy week) (B.truths boy y) (fun n hn => by
        cases h : (hiF B boy week n).2 with
        | false => rfl
        | true => exact absurd ⟨n, hn, h⟩ hc')
      rw [e1] at f1; cases f1
      rw [e2] at f2; cases f2
      exact ⟨rfl, by omega, by omega⟩
  refine ⟨hfg.1, hfg.2.1, hfg.2.2, fun hk => ?_, fun hk => ?_, k0, k2, m0, m2⟩
  · have hall : ∀ n ∈ A.truths boy x, singsN A week note note boy n = true := by
      rw [← e3] at hk
      unfold oftenOf at hk
      by_cases h : (A.truths boy x).all (singsN A week note note boy) = true
      · exact List.all_eq_true.1 h
      · rw [if_neg h] at hk
        split at hk <;> simp at hk
    rw [← e4]
    refine often_two fun m hm => ?_
    obtain ⟨n, hn, g1, g2, g3⟩ := down m hm
    exact sing g1 g2 g3 (hall n hn)
  · have hany : ∃ n ∈ A.truths boy x, singsN A week note note boy n = true := by
      refine Classical.byContradiction fun hc => hk ?_
      rw [← e3]
      exact often_zero hne fun n hn => by
        cases h : singsN A week note note boy n with
        | false => rfl
        | true => exact absurd ⟨n, hn, h⟩ hc
    obtain ⟨n, hn, hs⟩ := hany
    obtain ⟨m, hm, g1, g2, g3⟩ := up n hn
    rw [← e4]
    exact often_pos hm (sing g1 g2 g3 hs)
end Go.Proofs.YtgffhndedhbjlaaDoor
set_option linter.all false
namespace Go.Proofs.YtgffhndedhbjlaaDoor
open Go.RowKit Go.Sort Go.Rg
set_option maxRecDepth 100000

def boyC (x : Boy) : List Value := [.int .i64 x.l0, .int .i64 x.l1, .int .i64 x.h0, .int .i64 x.h1, .int .i64 x.g0, .int .i64 x.g1, .int .i64 x.t0, .int .i64 x.t1, .int .i64 x.ls, .int .i64 x.b0, .int .i64 x.b1]
theorem infoB : (Tryd.prog.info? 40).map (fun i => (i.zero, i.size, i.bytes)) = some (some (.agg #[.int .i64 0, .int .i64 0, .int .i64 0, .int .i64 0, .int .i64 0, .int .i64 0, .int .i64 0, .int .i64 0, .int .i64 0, .int .i64 0, .int .i64 0]), 11, 88) := by kernel_rfl
theorem boys_len : ∀ l : List Boy, (l.flatMap boyC).length = l.length * 11
  | [] => rfl
  | x :: l => by
    rw [List.flatMap_cons, List.length_append, boys_len l, List.length_cons]
    have : (boyC x).length = 11 := rfl
    omega
theorem boys_get : ∀ (l : List Boy) (i k : Nat) (x : Boy), l[i]? = some x → k < 11 → (l.flatMap boyC)[i * 11 + k]? = (boyC x)[k]?
  | y :: l, 0, k, x, h, hk => by
    simp only [List.getElem?_cons_zero, Option.some.injEq] at h
    subst h
    rw [List.flatMap_cons, List.getElem?_append_left (by show 0 * 11 + k < 11; omega)]
    simp
  | y :: l, i + 1, k, x, h, hk => by
    simp only [List.getElem?_cons_succ] at h
    rw [List.flatMap_cons, List.getElem?_append_right (by show 11 ≤ (i + 1) * 11 + k; omega)]
    have : (i + 1) * 11 + k - (boyC y).length = i * 11 + k := by show (i + 1) * 11 + k - 11 = _; omega
    rw [this]
    exact boys_get l i k x h hk
  | [], _, _, _, h, _ => by simp at h
theorem boys_one (l : List Boy) : ∀ u ∈ l.flatMap boyC, u.oneCell' = true := by
  intro u hu
  obtain ⟨x, _, hx⟩ := List.mem_flatMap.1 hu
  simp only [boyC, List.mem_cons, List.not_mem_nil, or_false] at hx
  rcases hx with rfl | rfl | rfl | rfl | rfl | rfl | rfl | rfl | rfl | rfl | rfl <;> rfl
theorem boys_cells {w : World} {b o : Nat} {l : List Boy} (h : BoysAt w b o l) (j : Nat) (u : Value) (hu : (l.flatMap boyC)[j]? = some u) : w.cell? ((⟨b, o, none⟩ : Addr).add j) = some u := by
  have hj : j < (l.flatMap boyC).length := (List.getElem?_eq_some_iff.1 hu).1
  rw [boys_len] at hj
  have hi : j / 11 < l.length := by omega
  have hk : j % 11 < 11 := Nat.mod_lt _ (by omega)
  have e : j = j / 11 * 11 + j % 11 := by omega
  have hx : l[j / 11]? = some l[j / 11] := List.getElem?_eq_getElem hi
  rw [e, boys_get l _ _ _ hx hk] at hu
  obtain ⟨c0, c1, c2, c3, c4, c5, c6, c7, c8, c9, c10⟩ := h.2 _ _ hx
  rw [e]
  generalize j % 11 = k at *
  generalize j / 11 = i at *
  generalize l[i]'hi = x at *
  have he : ∀ k, ((⟨b, o, none⟩ : Addr).add (i * 11 + k)) = ⟨b, o + i * 11 + k, none⟩ := fun k => by simp [Addr.add, Nat.add_assoc]
  rw [he]
  match k, hk, hu with
  | 0, _, hu => cases hu; exact c0
  | 1, _, hu => cases hu; exact c1
  | 2, _, hu => cases hu; exact c2
  | 3, _, hu => cases hu; exact c3
  | 4, _, hu => cases hu; exact c4
  | 5, _, hu => cases hu; exact c5
  | 6, _, hu => cases hu; exact c6
  | 7, _, hu => cases hu; exact c7
  | 8, _, hu => cases hu; exact c8
  | 9, _, hu => cases hu; exact c9
  | 10, _, hu => cases hu; exact c10

theorem boysAt_iff {w : World} {b o : Nat} {l : List Boy} : BoysAt w b o l ↔ b < w.heap.size ∧ ∀ i x, l[i]? = some x → ∀ j v, (boyC x)[j]? = some v → w.cell? ⟨b, o + i * 11 + j, none⟩ = some v := by
  unfold BoysAt
  constructor
  · rintro ⟨hz, h⟩
    refine ⟨hz, fun i x hx j v hv => ?_⟩
    obtain ⟨c0, c1, c2, c3, c4, c5, c6, c7, c8, c9, c10⟩ := h i x hx
    have hj : j < 11 := (List.getElem?_eq_some_iff.1 hv).1
    match j, hj, hv with
    | 0, _, hv => cases hv; exact c0
    | 1, _, hv => cases hv; exact c1
    | 2, _, hv => cases hv; exact c2
    | 3, _, hv => cases hv; exact c3
    | 4, _, hv => cases hv; exact c4
    | 5, _, hv => cases hv; exact c5
    | 6, _, hv => cases hv; exact c6
    | 7, _, hv => cases hv; exact c7
    | 8, _, hv => cases hv; exact c8
    | 9, _, hv => cases hv; exact c9
    | 10, _, hv => cases hv; exact c10
  · rintro ⟨hz, h⟩
    exact ⟨hz, fun i x hx => ⟨h i x hx 0 _ rfl, h i x hx 1 _ rfl, h i x hx 2 _ rfl, h i x hx 3 _ rfl, h i x hx 4 _ rfl, h i x hx 5 _ rfl, h i x hx 6 _ rfl, h i x hx 7 _ rfl, h i x hx 8 _ rfl, h i x hx 9 _ rfl, h i x hx 10 _ rfl⟩⟩
theorem boysAt_set {V : World} {g : Nat} {l : List Boy} {boy : Nat} {x y : Boy} {k : Nat} {v : Int} (h : BoysAt V g 0 l) (hx : l[boy]? = some x) (hk : k < 11) (hy : boyC y = (boyC x).set k (.int .i64 v)) : BoysAt (V.setCell ⟨g, boy * 11 + k, none⟩ (.int .i64 v)) g 0 (l.set boy y) := by
  rw [boysAt_iff] at h ⊢
  obtain ⟨hz, h⟩ := h
  refine ⟨by rw [World.size_setCell]; exact hz, fun i z hiz j u hu => ?_⟩
  have hj : j < 11 := (List.getElem?_eq_some_iff.1 hu).1
  have hbl : boy < l.length := (List.getElem?_eq_some_iff.1 hx).1
  by_cases e : i = boy
  · subst e
    rw [List.getElem?_set_self hbl] at hiz
    cases hiz
    rw [hy] at hu
    by_cases ej : j = k
    · subst ej
      rw [List.getElem?_set_self (by show j < 11; exact hj)] at hu
      cases hu
      rw [Nat.zero_add]
      have hold := h i x hx j (boyC x)[j] (List.getElem?_eq_getElem _)
      rw [Nat.zero_add] at hold
      exact cell_set_eq hold
    · rw [List.getElem?_set_ne (Ne.symm ej)] at hu
      rw [cell_set_ne (by omega)]
      exact h i x hx j u hu
  · rw [List.getElem?_set_ne (Ne.symm e)] at hiz
    rw [cell_set_ne (by omega)]
    exact h i z hiz j u hu
theorem boysAt_below {V W : World} {n g : Nat} {l : List Boy} (h : BoysAt V g 0 l) (hB : Below n V W) (hg : g < n) : BoysAt W g 0 l := by
  rw [boysAt_iff] at h ⊢
  exact ⟨Nat.lt_of_lt_of_le h.1 hB.size, fun i x hx j v hv => (hB.cell (p := ⟨g, 0 + i * 11 + j, none⟩) hg).trans (h.2 i x hx j v hv)⟩

set_option maxHeartbeats 4000000 in
theorem gains_false (p q : Option Addr) (cap capt : Nat) (B : Book) (n0 n1 n2 n3 : Int) (W : World) (h : BookAt W p q cap capt B) (hg : Nothing W) (hok : B.okB = false) :
    Calls Tryd.prog 5 #[B.val p q cap capt, .agg #[.int .i64 n0, .int .i64 n1, .int .i64 n2, .int .i64 n3]] W fun e C => e = .returned (.bool true) ∧ Kept W C := by
  have hk0 : Kept W ((W.alloc (Obj.cells #[.slice p B.boys.length cap, .int .i64 B.weeks, .slice q B.trials.length capt] 25)).alloc (Obj.cells #[.int .i64 n0, .int .i64 n1, .int .i64 n2, .int .i64 n3] 44)) := kept_alloc (kept_alloc (kept_refl _) _) _
  have hcall := small_any p q cap capt B _ (h.kept hk0)
  rw [hok] at hcall
  unfold Book.val at hcall ⊢
  have HC := Lib.hid hcall; clear hcall
  go_enter Tryd.func5, Tryd.ntmps5
  go_wp2_with fail
  generalize (W.alloc (Obj.cells #[.slice p B.boys.length cap, .int .i64 B.weeks, .slice q B.trials.length capt] 25)).alloc (Obj.cells #[.int .i64 n0, .int .i64 n1, .int .i64 n2, .int .i64 n3] 44) = W0 at *
  refine HC.out.mono ?_
  rintro e w2 ⟨rfl, hk2⟩
  have hk02 := kept_trans hk0 hk2
  have HS := Lib.hid (sung_is w2 (h.laid.kept hk02) (hg.kept hk02))
  go_wp2_with fail
  refine HS.out.mono ?_
  rintro e w3 ⟨rfl, hk3⟩
  go_wp2_with fail
  go_ret
  exact ⟨rfl, kept_trans hk02 hk3⟩

set_option maxHeartbeats 100000000 in
theorem gains_true (p q : Option Addr) (cap capt : Nat) (B : Book) (n0 n1 n2 n3 : Int) (W : World) (h : BookAt W p q cap capt B) (hg : Nothing W) (hok : B.okB = true) :
    Calls Tryd.prog 5 #[B.val p q cap capt, .agg #[.int .i64 n0, .int .i64 n1, .int .i64 n2, .int .i64 n3]] W fun e C => e = .returned (.bool true) ∧ Kept W C := by
  obtain ⟨⟨q1, q2, q3, q4, q5⟩, -, -⟩ := okB_boys hok
  have hk0 : Kept W ((W.alloc (Obj.cells #[.slice p B.boys.length cap, .int .i64 B.weeks, .slice q B.trials.length capt] 25)).alloc (Obj.cells #[.int .i64 n0, .int .i64 n1, .int .i64 n2, .int .i64 n3] 44)) := kept_alloc (kept_alloc (kept_refl _) _) _
  have hcall := small_any p q cap capt B _ (h.kept hk0)
  rw [hok] at hcall
  unfold Book.val at hcall ⊢
  have HC := Lib.hid hcall; clear hcall
  have a0c : ((W.alloc (Obj.cells #[.slice p B.boys.length cap, .int .i64 B.weeks, .slice q B.trials.length capt] 25)).alloc (Obj.cells #[.int .i64 n0, .int .i64 n1, .int .i64 n2, .int .i64 n3] 44)).cell? ⟨W.heap.size, 0, none⟩ = some (.slice p B.boys.length cap) := by go_simp
  have a1c : ((W.alloc (Obj.cells #[.slice p B.boys.length cap, .int .i64 B.weeks, .slice q B.trials.length capt] 25)).alloc (Obj.cells #[.int .i64 n0, .int .i64 n1, .int .i64 n2, .int .i64 n3] 44)).cell? ⟨W.heap.size, 1, none⟩ = some (.int .i64 B.weeks) := by go_simp
  have a2c : ((W.alloc (Obj.cells #[.slice p B.boys.length cap, .int .i64 B.weeks, .slice q B.trials.length capt] 25)).alloc (Obj.cells #[.int .i64 n0, .int .i64 n1, .int .i64 n2, .int .i64 n3] 44)).cell? ⟨W.heap.size, 2, none⟩ = some (.slice q B.trials.length capt) := by go_simp
  have b0c : ((W.alloc (Obj.cells #[.slice p B.boys.length cap, .int .i64 B.weeks, .slice q B.trials.length capt] 25)).alloc (Obj.cells #[.int .i64 n0, .int .i64 n1, .int .i64 n2, .int .i64 n3] 44)).cell? ⟨W.heap.size + 1, 0, none⟩ = some (.int .i64 n0) := by go_simp
  have b1c : ((W.alloc (Obj.cells #[.slice p B.boys.length cap, .int .i64 B.weeks, .slice q B.trials.length capt] 25)).alloc (Obj.cells #[.int .i64 n0, .int .i64 n1, .int .i64 n2, .int .i64 n3] 44)).cell? ⟨W.heap.size + 1, 1, none⟩ = some (.int .i64 n1) := by go_simp
  have b2c : ((W.alloc (Obj.cells #[.slice p B.boys.length cap, .int .i64 B.weeks, .slice q B.trials.length capt] 25)).alloc (Obj.cells #[.int .i64 n0, .int .i64 n1, .int .i64 n2, .int .i64 n3] 44)).cell? ⟨W.heap.size + 1, 2, none⟩ = some (.int .i64 n2) := by go_simp
  have b3c : ((W.alloc (Obj.cells #[.slice p B.boys.length cap, .int .i64 B.weeks, .slice q B.trials.length capt] 25)).alloc (Obj.cells #[.int .i64 n0, .int .i64 n1, .int .i64 n2, .int .i64 n3] 44)).cell? ⟨W.heap.size + 1, 3, none⟩ = some (.int .i64 n3) := by go_simp
  go_enter Tryd.func5, Tryd.ntmps5
  go_wp2_with fail
  generalize (W.alloc (Obj.cells #[.slice p B.boys.length cap, .int .i64 B.weeks, .slice q B.trials.length capt] 25)).alloc (Obj.cells #[.int .i64 n0, .int .i64 n1, .int .i64 n2, .int .i64 n3] 44) = W0 at *
  refine HC.out.mono ?_
  rintro e w2 ⟨rfl, hk2⟩
  have hk02 := kept_trans hk0 hk2
  have a0d := kcell hk2 a0c
  have a1d := kcell hk2 a1c
  have a2d := kcell hk2 a2c
  have b0d := kcell hk2 b0c
  have b1d := kcell hk2 b1c
  have b2d := kcell hk2 b2c
  have b3d := kcell hk2 b3c
  have a0r : ∀ d os, (grow (redrawn w2 d) os).cell? ⟨W.heap.size, 0, none⟩ = some (.slice p B.boys.length cap) := cell_regrown a0d
  have a1r : ∀ d os, (grow (redrawn w2 d) os).cell? ⟨W.heap.size, 1, none⟩ = some (.int .i64 B.weeks) := cell_regrown a1d
  have a2r : ∀ d os, (grow (redrawn w2 d) os).cell? ⟨W.heap.size, 2, none⟩ = some (.slice q B.trials.length capt) := cell_regrown a2d
  have b0r : ∀ d os, (grow (redrawn w2 d) os).cell? ⟨W.heap.size + 1, 0, none⟩ = some (.int .i64 n0) := cell_regrown b0d
  have b1r : ∀ d os, (grow (redrawn w2 d) os).cell? ⟨W.heap.size + 1, 1, none⟩ = some (.int .i64 n1) := cell_regrown b1d
  have b2r : ∀ d os, (grow (redrawn w2 d) os).cell? ⟨W.heap.size + 1, 2, none⟩ = some (.int .i64 n2) := cell_regrown b2d
  have b3r : ∀ d os, (grow (redrawn w2 d) os).cell? ⟨W.heap.size + 1, 3, none⟩ = some (.int .i64 n3) := cell_regrown b3d
  have ht0 : ∀ d os, Calls Tryd.prog 8 #[.int .i64 n1, .int .i64 (B.boys.length : Int)] (grow (redrawn w2 d) os) fun e w'' => e = .returned (.int .i64 (turnI n1 (B.boys.length : Int))) ∧ ∃ p : Regrown, w'' = grow (redrawn w2 p.d) p.os := fun d os => Calls.regrown_of ((turn_is n1 (B.boys.length : Int) (by omega) (by omega) _).mono (by rintro e w' ⟨rfl, rfl⟩; exact ⟨rfl, kept_refl _⟩))
  have ht1 : ∀ d os, Calls Tryd.prog 8 #[.int .i64 n2, .int .i64 B.weeks] (grow (redrawn w2 d) os) fun e w'' => e = .returned (.int .i64 (turnI n2 B.weeks)) ∧ ∃ p : Regrown, w'' = grow (redrawn w2 p.d) p.os := fun d os => Calls.regrown_of ((turn_is n2 B.weeks (by omega) (by omega) _).mono (by rintro e w' ⟨rfl, rfl⟩; exact ⟨rfl, kept_refl _⟩))
  have ht2 : ∀ d os, Calls Tryd.prog 8 #[.int .i64 n3, .int .i64 41] (grow (redrawn w2 d) os) fun e w'' => e = .returned (.int .i64 (turnI n3 41)) ∧ ∃ p : Regrown, w'' = grow (redrawn w2 p.d) p.os := fun d os => Calls.regrown_of ((turn_is n3 41 (by omega) (by omega) _).mono (by rintro e w' ⟨rfl, rfl⟩; exact ⟨rfl, kept_refl _⟩))
  obtain ⟨k3, k4⟩ := turnI_lt n1 (B.boys.length : Int) (by omega)
  obtain ⟨k1, k2⟩ := turnI_lt n2 B.weeks (by omega)
  obtain ⟨k5, k6⟩ := turnI_lt n3 41 (by omega)
  generalize turnI n2 B.weeks = week at *
  generalize turnI n3 41 = note at *
  obtain ⟨boy, hboy⟩ := Int.eq_ofNat_of_zero_le k3
  rw [hboy] at ht0 k4
  have hbl : boy < B.boys.length := by omega
  have HT0 := Lib.hid ht0
  have HT1 := Lib.hid ht1
  have HT2 := Lib.hid ht2
  clear ht0 ht1 ht2 hboy k3 k4
  have HB := Lib.hid h
  have HG := Lib.hid hg
  clear h hg HC
  go_wp2_with fail
  refine wp_region_quiet_below (by kernel_rfl) (by kernel_rfl) ?_
  repeat (any_goals (first | go_big_quiet_skip | quiet_step (first | with_reducible exact HT0.out _ _ | with_reducible exact HT1.out _ _ | with_reducible exact HT2.out _ _)))
  refine wpQuiet_nil ?_
  intro _ hw'
  obtain ⟨⟨dq, osq⟩, hw''⟩ := hw'
  subst hw''
  have hk03 := kept_trans hk02 (below_regrown w2 dq osq)
  have s0 := kcell (below_regrown w2 dq osq) a0d
  have s1 := kcell (below_regrown w2 dq osq) a1d
  have s2 := kcell (below_regrown w2 dq osq) a2d
  have s3 := kcell (below_regrown w2 dq osq) b0d
  generalize grow (redrawn w2 dq) osq = V3 at *
  clear a0d a1d a2d b0d b1d b2d b3d a0r a1r a2r b0r b1r b2r b3r a0c a1c a2c b0c b1c b2c b3c HT0 HT1 HT2
  have hzs := Go.Ai.lt_of_cell s0
  have hz3 := Go.Ai.lt_of_cell s3
  have hzs1 : W.heap.size < V3.heap.size + 1 := by omega
  have hzs2 : W.heap.size < V3.heap.size + 1 + 1 := by omega
  have hz31 : W.heap.size + 1 < V3.heap.size + 1 := by omega
  have hz32 : W.heap.size + 1 < V3.heap.size + 1 + 1 := by omega
  obtain ⟨bb, ob, rfl, hbs⟩ : ∃ b o, p = some ⟨b, o, none⟩ ∧ BoysAt V3 b o B.boys := by
    rcases (HB.out.kept hk03).boys with e | h
    · rw [e] at hbl; cases hbl
    · exact h
  obtain ⟨i0, hi, hiz, his, hib⟩ := info_parts infoB
  have W4K : Kept V3 (((V3.alloc (Obj.cells #[.slice (some ⟨bb, ob, none⟩) B.boys.length cap, .int .i64 B.weeks, .slice none 0 0] 25)).alloc (Obj.cells #[.slice (some ⟨bb, ob, none⟩) B.boys.length cap, .int .i64 B.weeks, .slice none 0 0] 25)).alloc (Obj.cells #[] 40)) := kept_alloc (kept_alloc (kept_alloc (kept_refl _) _) _) _
  have hrow0 : (((V3.alloc (Obj.cells #[.slice (some ⟨bb, ob, none⟩) B.boys.length cap, .int .i64 B.weeks, .slice none 0 0] 25)).alloc (Obj.cells #[.slice (some ⟨bb, ob, none⟩) B.boys.length cap, .int .i64 B.weeks, .slice none 0 0] 25)).alloc (Obj.cells #[] 40)).ownsRow (V3.heap.size + 1 + 1) 40 11 (.slice (some ⟨V3.heap.size + 1 + 1, 0, none⟩) 0 0) 0 [] :=
    ⟨rfl, .inr ⟨V3.heap.size + 1 + 1, 0, #[], rfl, Nat.le_refl _, by have := heap_alloc_new (((V3.alloc (Obj.cells #[.slice (some ⟨bb, ob, none⟩) B.boys.length cap, .int .i64 B.weeks, .slice none 0 0] 25)).alloc (Obj.cells #[.slice (some ⟨bb, ob, none⟩) B.boys.length cap, .int .i64 B.weeks, .slice none 0 0] 25))) (Obj.cells #[] 40); simpa using this, Nat.le_refl _, by decide, rfl, rfl⟩⟩
  have hnews : ∀ (j : Nat) (u : Value), (B.boys.flatMap boyC)[j]? = some u → (((V3.alloc (Obj.cells #[.slice (some ⟨bb, ob, none⟩) B.boys.length cap, .int .i64 B.weeks, .slice none 0 0] 25)).alloc (Obj.cells #[.slice (some ⟨bb, ob, none⟩) B.boys.length cap, .int .i64 B.weeks, .slice none 0 0] 25)).alloc (Obj.cells #[] 40)).cell? ((⟨bb, ob, none⟩ : Addr).add j) = some u := fun j u hu => by
    have := boys_cells hbs j u hu
    rw [show ((⟨bb, ob, none⟩ : Addr).add j) = ⟨bb, ob + j, none⟩ by unfold Addr.add; split <;> simp_all] at this ⊢
    exact kcell W4K this
  have hlen : (B.boys.flatMap boyC).length = B.boys.length * 11 := boys_len _
  have hone : ∀ u ∈ B.boys.flatMap boyC, u.oneCell' = true := boys_one _
  have HNEW := Lib.hid hnews; clear hnews
  have HONE := Lib.hid hone; clear hone
  have HLEN := Lib.hid hlen; clear hlen
  have hsz4 : (((V3.alloc (Obj.cells #[.slice (some ⟨bb, ob, none⟩) B.boys.length cap, .int .i64 B.weeks, .slice none 0 0] 25)).alloc (Obj.cells #[.slice (some ⟨bb, ob, none⟩) B.boys.length cap, .int .i64 B.weeks, .slice none 0 0] 25)).alloc (Obj.cells #[] 40)).heap.size = V3.heap.size + 1 + 1 + 1 := by simp
  have x0c : (((V3.alloc (Obj.cells #[.slice (some ⟨bb, ob, none⟩) B.boys.length cap, .int .i64 B.weeks, .slice none 0 0] 25)).alloc (Obj.cells #[.slice (some ⟨bb, ob, none⟩) B.boys.length cap, .int .i64 B.weeks, .slice none 0 0] 25)).alloc (Obj.cells #[] 40)).cell? ⟨V3.heap.size, 0, none⟩ = some (.slice (some ⟨bb, ob, none⟩) B.boys.length cap) := by go_simp
  have x1c : (((V3.alloc (Obj.cells #[.slice (some ⟨bb, ob, none⟩) B.boys.length cap, .int .i64 B.weeks, .slice none 0 0] 25)).alloc (Obj.cells #[.slice (some ⟨bb, ob, none⟩) B.boys.length cap, .int .i64 B.weeks, .slice none 0 0] 25)).alloc (Obj.cells #[] 40)).cell? ⟨V3.heap.size, 1, none⟩ = some (.int .i64 B.weeks) := by go_simp
  have x2c : (((V3.alloc (Obj.cells #[.slice (some ⟨bb, ob, none⟩) B.boys.length cap, .int .i64 B.weeks, .slice none 0 0] 25)).alloc (Obj.cells #[.slice (some ⟨bb, ob, none⟩) B.boys.length cap, .int .i64 B.weeks, .slice none 0 0] 25)).alloc (Obj.cells #[] 40)).cell? ⟨V3.heap.size, 2, none⟩ = some (.slice none 0 0) := by go_simp
  have y0c : (((V3.alloc (Obj.cells #[.slice (some ⟨bb, ob, none⟩) B.boys.length cap, .int .i64 B.weeks, .slice none 0 0] 25)).alloc (Obj.cells #[.slice (some ⟨bb, ob, none⟩) B.boys.length cap, .int .i64 B.weeks, .slice none 0 0] 25)).alloc (Obj.cells #[] 40)).cell? ⟨V3.heap.size + 1, 0, none⟩ = some (.slice (some ⟨bb, ob, none⟩) B.boys.length cap) := by go_simp
  have y1c : (((V3.alloc (Obj.cells #[.slice (some ⟨bb, ob, none⟩) B.boys.length cap, .int .i64 B.weeks, .slice none 0 0] 25)).alloc (Obj.cells #[.slice (some ⟨bb, ob, none⟩) B.boys.length cap, .int .i64 B.weeks, .slice none 0 0] 25)).alloc (Obj.cells #[] 40)).cell? ⟨V3.heap.size + 1, 1, none⟩ = some (.int .i64 B.weeks) := by go_simp
  have y2c : (((V3.alloc (Obj.cells #[.slice (some ⟨bb, ob, none⟩) B.boys.length cap, .int .i64 B.weeks, .slice none 0 0] 25)).alloc (Obj.cells #[.slice (some ⟨bb, ob, none⟩) B.boys.length cap, .int .i64 B.weeks, .slice none 0 0] 25)).alloc (Obj.cells #[] 40)).cell? ⟨V3.heap.size + 1, 2, none⟩ = some (.slice none 0 0) := by go_simp
  have yfc : ∀ i, (((V3.alloc (Obj.cells #[.slice (some ⟨bb, ob, none⟩) B.boys.length cap, .int .i64 B.weeks, .slice none 0 0] 25)).alloc (Obj.cells #[.slice (some ⟨bb, ob, none⟩) B.boys.length cap, .int .i64 B.weeks, .slice none 0 0] 25)).alloc (Obj.cells #[] 40)).frozen? ⟨V3.heap.size + 1, i, none⟩ = false := by intro i; go_simp
  have s3c := kcell W4K s3
  have HCE := Lib.hid (And.intro x0c (And.intro x1c (And.intro x2c (And.intro y0c (And.intro y1c (And.intro y2c (And.intro s3c yfc)))))))
  clear x0c x1c x2c y0c y1c y2c yfc s3c
  go_wp2_with (at_builtin; refine wpList_append_lies _ rfl _ _ 22 rfl (V3.heap.size + 1 + 1) 40 i0 _ 11 88 Tryd.underlying22 hi hiz his hib rfl (by decide) (.slice (some ⟨V3.heap.size + 1 + 1, 0, none⟩) 0 0) 0 [] rfl hrow0 ⟨bb, ob, none⟩ B.boys.length _ (B.boys.flatMap boyC) rfl HLEN.out HNEW.out HONE.out (by omega) (by unfold maxLen; omega) (by omega) (by rw [hsz4]; omega) _ rfl ?_; intro g2 cap2 V4 hown hgrow hat hlt3; have hB4 : Below (V3.heap.size + 1 + 1) (((V3.alloc (Obj.cells #[.slice (some ⟨bb, ob, none⟩) B.boys.length cap, .int .i64 B.weeks, .slice none 0 0] 25)).alloc (Obj.cells #[.slice (some ⟨bb, ob, none⟩) B.boys.length cap, .int .i64 B.weeks, .slice none 0 0] 25)).alloc (Obj.cells #[] 40)) V4 := ⟨hgrow.os, hgrow.tape, hgrow.output, hgrow.size, fun k hk => hgrow.block k (by rw [hsz4]; omega) (fun e => by simp only [Value.ownBlock, Option.some.injEq] at e; omega)⟩; have bc := fun b o v (hb : b < V3.heap.size + 1 + 1) (h : (((V3.alloc (Obj.cells #[.slice (some ⟨bb, ob, none⟩) B.boys.length cap, .int .i64 B.weeks, .slice none 0 0] 25)).alloc (Obj.cells #[.slice (some ⟨bb, ob, none⟩) B.boys.length cap, .int .i64 B.weeks, .slice none 0 0] 25)).alloc (Obj.cells #[] 40)).cell? ⟨b, o, none⟩ = some v) => (hB4.cell (p := ⟨b, o, none⟩) hb).trans h; have fc := fun b o (hb : b < V3.heap.size + 1 + 1) => hB4.frozen (p := ⟨b, o, none⟩) hb; have y0 := bc _ _ _ (by omega) HCE.out.2.2.2.1; have y1 := bc _ _ _ (by omega) HCE.out.2.2.2.2.1; have y2 := bc _ _ _ (by omega) HCE.out.2.2.2.2.2.1; have yf := (fc _ 0 (by omega)).trans (HCE.out.2.2.2.2.2.2.2 0); have x0 := bc _ _ _ (by omega) HCE.out.1; have x1 := bc _ _ _ (by omega) HCE.out.2.1; have x2 := bc _ _ _ (by omega) HCE.out.2.2.1; have s30 := bc _ _ _ (by omega) HCE.out.2.2.2.2.2.2.1; clear bc fc)
  have hg2 : V3.heap.size + 1 + 1 ≤ g2 := by
    rcases hat with e | e
    · simp only [Value.ownBlock, Option.some.injEq] at e; omega
    · rw [e, hsz4]; omega
  have hboysV : BoysAt V4 g2 0 B.boys := ⟨hlt3, fun i x hx => by
    have hi : i < B.boys.length := (List.getElem?_eq_some_iff.1 hx).1
    have hc : ∀ k v, k < 11 → (boyC x)[k]? = some v → V4.cell? ⟨g2, 0 + i * 11 + k, none⟩ = some v := fun k v hk hv => by
      have h1 := hown.cellAt (i * 11 + k) (by omega)
      rw [List.nil_append, boys_get _ _ _ _ hx hk, hv] at h1
      simpa using h1
    exact ⟨hc 0 _ (by omega) rfl, hc 1 _ (by omega) rfl, hc 2 _ (by omega) rfl, hc 3 _ (by omega) rfl, hc 4 _ (by omega) rfl, hc 5 _ (by omega) rfl, hc 6 _ (by omega) rfl, hc 7 _ (by omega) rfl, hc 8 _ (by omega) rfl, hc 9 _ (by omega) rfl, hc 10 _ (by omega) rfl⟩⟩
  have hfroz : ∀ i, V4.frozen? ⟨g2, i, none⟩ = false := by
    obtain ⟨_, h⟩ := hown
    rcases h with ⟨e, _⟩ | ⟨g', cap', cur, e, _, hh, _⟩
    · cases e
    · cases e
      intro i
      simp [World.frozen?, hh]
  have hT5 : Turns (fun b => b = V3.heap.size + 1) V4 (V4.setCell ⟨V3.heap.size + 1, 0, none⟩ (.slice (some ⟨g2, 0, none⟩) B.boys.length cap2)) := Turns.setCell (T := fun b => b = V3.heap.size + 1) (Turns.refl _ V4) rfl 0 _
  have hyv := cell_set_eq (v := .slice (some ⟨g2, 0, none⟩) B.boys.length cap2) y0
  have ne5 : ∀ b o v, b ≠ V3.heap.size + 1 → V4.cell? ⟨b, o, none⟩ = some v → (V4.setCell ⟨V3.heap.size + 1, 0, none⟩ (.slice (some ⟨g2, 0, none⟩) B.boys.length cap2)).cell? ⟨b, o, none⟩ = some v := fun b o v hb h => (hT5.cell (Go.Ai.lt_of_cell h) hb).trans h
  have hy1 : (V4.setCell ⟨V3.heap.size + 1, 0, none⟩ (.slice (some ⟨g2, 0, none⟩) B.boys.length cap2)).cell? ⟨V3.heap.size + 1, 1, none⟩ = some (.int .i64 B.weeks) := (cell_set_ne (by omega)).trans y1
  have hy2 : (V4.setCell ⟨V3.heap.size + 1, 0, none⟩ (.slice (some ⟨g2, 0, none⟩) B.boys.length cap2)).cell? ⟨V3.heap.size + 1, 2, none⟩ = some (.slice none 0 0) := (cell_set_ne (by omega)).trans y2
  replace x0 := ne5 _ _ _ (by omega) x0
  replace x1 := ne5 _ _ _ (by omega) x1
  replace x2 := ne5 _ _ _ (by omega) x2
  replace s30 := ne5 _ _ _ (by omega) s30
  have hbo5 : BoysAt (V4.setCell ⟨V3.heap.size + 1, 0, none⟩ (.slice (some ⟨g2, 0, none⟩) B.boys.length cap2)) g2 0 B.boys := ⟨by rw [World.size_setCell]; exact hlt3, fun i x hx => by
    obtain ⟨c0, c1, c2, c3, c4, c5, c6, c7, c8, c9, c10⟩ := hboysV.2 i x hx
    exact ⟨ne5 _ _ _ (by omega) c0, ne5 _ _ _ (by omega) c1, ne5 _ _ _ (by omega) c2, ne5 _ _ _ (by omega) c3, ne5 _ _ _ (by omega) c4, ne5 _ _ _ (by omega) c5, ne5 _ _ _ (by omega) c6, ne5 _ _ _ (by omega) c7, ne5 _ _ _ (by omega) c8, ne5 _ _ _ (by omega) c9, ne5 _ _ _ (by omega) c10⟩⟩
  have hfr5 : ∀ i, (V4.setCell ⟨V3.heap.size + 1, 0, none⟩ (.slice (some ⟨g2, 0, none⟩) B.boys.length cap2)).frozen? ⟨g2, i, none⟩ = false := fun i => (hT5.frozen hlt3 (by omega)).trans (hfroz i)
  have hk05 : Kept W (V4.setCell ⟨V3.heap.size + 1, 0, none⟩ (.slice (some ⟨g2, 0, none⟩) B.boys.length cap2)) := Below.trans (Below.trans (kept_trans hk03 W4K) ⟨hB4.os, hB4.tape, hB4.output, hB4.size, fun k hk => hB4.block k (by omega)⟩) (hT5.toBelow (n := W.heap.size) (by rintro b rfl; omega) (by have := hB4.size; rw [hsz4] at this; omega))
  have hzg : g2 < (V4.setCell ⟨V3.heap.size + 1, 0, none⟩ (.slice (some ⟨g2, 0, none⟩) B.boys.length cap2)).heap.size := hbo5.1
  clear ne5 hT5 hboysV hfroz hown hgrow hat y0 y1 y2 yf hrow0 hB4 hsz4 W4K HCE HNEW HLEN HONE hi hiz his hib
  have hz5 : W.heap.size + 1 < (V4.setCell ⟨V3.heap.size + 1, 0, none⟩ (.slice (some ⟨g2, 0, none⟩) B.boys.length cap2)).heap.size := Go.Ai.lt_of_cell s30
  generalize (V4.setCell ⟨V3.heap.size + 1, 0, none⟩ (.slice (some ⟨g2, 0, none⟩) B.boys.length cap2)) = V5 at *
  rename_i K2 hK2 K1 hK1 K0 hK0
  have HK2 := Lib.hid hK2; clear hK2
  obtain ⟨x, hx⟩ : ∃ x, B.boys[boy]? = some x := ⟨_, List.getElem?_eq_getElem hbl⟩
  have FIN : ∀ (a : Act) (V : World) (y : Boy), a.tmps.size = 199 → a.defers = [] → a.tmps.getD 4 undef = .bool false → a.tmps.getD 5 undef = .int .i64 (boy : Int) → a.tmps.getD 6 undef = .int .i64 week → a.tmps.getD 7 undef = .int .i64 note →
      a.tmps.getD 8 undef = .pointer (some ⟨V3.heap.size, 0, none⟩) → a.tmps.getD 9 undef = .pointer (some ⟨V3.heap.size + 1, 0, none⟩) → Better x y → y.okB = true → BoysAt V g2 0 (B.boys.set boy y) → Kept W V →
      V.cell? ⟨V3.heap.size, 0, none⟩ = some (.slice (some ⟨bb, ob, none⟩) B.boys.length cap) → V.cell? ⟨V3.heap.size, 1, none⟩ = some (.int .i64 B.weeks) → V.cell? ⟨V3.heap.size, 2, none⟩ = some (.slice none 0 0) →
      V.cell? ⟨V3.heap.size + 1, 0, none⟩ = some (.slice (some ⟨g2, 0, none⟩) B.boys.length cap2) → V.cell? ⟨V3.heap.size + 1, 1, none⟩ = some (.int .i64 B.weeks) → V.cell? ⟨V3.heap.size + 1, 2, none⟩ = some (.slice none 0 0) → K2 a V := by
    clear x0 x1 x2 s30 hyv hy1 hy2 hbo5 hfr5 hk05 hzg hz5
    intro a V y hsz hdf h4 h5 h6 h7 h8 h9 hbt hyo hbo hk x0 x1 x2 y0 y1 y2
    have hBX : BookAt V (some ⟨bb, ob, none⟩) none cap 0 ⟨B.boys, B.weeks, []⟩ := ⟨HB.out.laid.kept hk, HB.out.nb, by simp, (HB.out.kept hk).boys, .inl rfl⟩
    have hBY : BookAt V (some ⟨g2, 0, none⟩) none cap2 0 ⟨B.boys.set boy y, B.weeks, []⟩ := ⟨HB.out.laid.kept hk, by simpa using HB.out.nb, by simp, .inr ⟨g2, 0, rfl, hbo⟩, .inl rfl⟩
    have hokX := untried_ok hok
    have hokY := set_ok hok (boy := boy) hyo
    have hG := HG.out.kept hk
    obtain ⟨ts, df⟩ := a
    simp only at hsz hdf h4 h5 h6 h7 h8 h9
    subst hdf
    have hlit := arr_range ts
    rw [hsz] at hlit
    generalize hyy : (fun i => ts.getD i undef) = yy at hlit
    have hyk : ∀ k, ts.getD k undef = yy k := fun k => by rw [← hyy]
    rw [hyk] at h4 h5 h6 h7 h8 h9
    simp only [List.range, List.range.loop, List.map] at hlit
    rw [h4, h5, h6, h7, h8, h9] at hlit
    rw [hlit]
    clear hlit hyk hyy hsz h4 h5 h6 h7 h8 h9
    have hzx := Go.Ai.lt_of_cell x0
    have hzy := Go.Ai.lt_of_cell y0
    refine HK2.out _ _ ?_
    have h1 := highest_all (some ⟨bb, ob, none⟩) none cap 0 ⟨B.boys, B.weeks, []⟩ boy week V hBX hG hokX hbl ⟨k1, k2⟩
    unfold Book.val at h1
    simp only [List.length_nil] at h1
    have H1 := Lib.hid h1; clear h1
    go_wp2_with fail
    refine H1.out.mono ?_
    rintro e V6 ⟨p0, p1, er1, rfl, hk6, hr⟩
    clear H1
    have hk06 := kept_trans hk hk6
    have HR1 := Lib.hid hr; clear hr
    have kb6 : Kept V6 (V6.alloc (Obj.cells #[.int .i64 p0, .int .i64 p1] 31)) := kept_alloc (kept_refl _) _
    have sp0 : (V6.alloc (Obj.cells #[.int .i64 p0, .int .i64 p1] 31)).cell? ⟨V6.heap.size, 0, none⟩ = some (.int .i64 p0) := by go_simp
    have sp1 : (V6.alloc (Obj.cells #[.int .i64 p0, .int .i64 p1] 31)).cell? ⟨V6.heap.size, 1, none⟩ = some (.int .i64 p1) := by go_simp
    replace x0 := kcell (kept_trans hk6 kb6) x0
    replace x1 := kcell (kept_trans hk6 kb6) x1
    replace x2 := kcell (kept_trans hk6 kb6) x2
    replace y0 := kcell (kept_trans hk6 kb6) y0
    replace y1 := kcell (kept_trans hk6 kb6) y1
    replace y2 := kcell (kept_trans hk6 kb6) y2
    have hk07 := kept_trans hk06 kb6
    have h2 := highest_all (some ⟨g2, 0, none⟩) none cap2 0 ⟨B.boys.set boy y, B.weeks, []⟩ boy week (V6.alloc (Obj.cells #[.int .i64 p0, .int .i64 p1] 31)) (hBY.kept (kept_trans hk6 kb6)) (hG.kept (kept_trans hk6 kb6)) hokY (by simpa using hbl) ⟨k1, k2⟩
    unfold Book.val at h2
    simp only [List.length_nil, List.length_set] at h2
    have H2 := Lib.hid h2; clear h2
    go_wp2_with fail
    generalize hV7 : V6.alloc (Obj.cells #[.int .i64 p0, .int .i64 p1] 31) = V7 at *
    clear hV7
    refine H2.out.mono ?_
    rintro e V8 ⟨t0, t1, er2, rfl, hk8, hr⟩
    clear H2
    have hk08 := kept_trans hk07 hk8
    have HR2 := Lib.hid hr; clear hr
    have kb8 : Kept V8 (V8.alloc (Obj.cells #[.int .i64 t0, .int .i64 t1] 31)) := kept_alloc (kept_refl _) _
    have tp0 : (V8.alloc (Obj.cells #[.int .i64 t0, .int .i64 t1] 31)).cell? ⟨V8.heap.size, 0, none⟩ = some (.int .i64 t0) := by go_simp
    have tp1 : (V8.alloc (Obj.cells #[.int .i64 t0, .int .i64 t1] 31)).cell? ⟨V8.heap.size, 1, none⟩ = some (.int .i64 t1) := by go_simp
    replace x0 := kcell (kept_trans hk8 kb8) x0
    replace x1 := kcell (kept_trans hk8 kb8) x1
    replace x2 := kcell (kept_trans hk8 kb8) x2
    replace y0 := kcell (kept_trans hk8 kb8) y0
    replace y1 := kcell (kept_trans hk8 kb8) y1
    replace y2 := kcell (kept_trans hk8 kb8) y2
    replace sp0 := kcell (kept_trans hk8 kb8) sp0
    replace sp1 := kcell (kept_trans hk8 kb8) sp1
    have hk09 := kept_trans hk08 kb8
    have hkV9 := kept_trans (kept_trans (kept_trans hk6 kb6) hk8) kb8
    have h3 := sings_all (some ⟨bb, ob, none⟩) none cap 0 ⟨B.boys, B.weeks, []⟩ boy week note (V8.alloc (Obj.cells #[.int .i64 t0, .int .i64 t1] 31)) (hBX.kept hkV9) (hG.kept hkV9) hokX hbl ⟨k1, k2⟩ ⟨k5, by omega⟩
    unfold Book.val at h3
    simp only [List.length_nil] at h3
    have H3 := Lib.hid h3; clear h3
    go_wp2_with fail
    generalize hV9 : V8.alloc (Obj.cells #[.int .i64 t0, .int .i64 t1] 31) = V9 at *
    clear hV9
    refine H3.out.mono ?_
    rintro e V10 ⟨k, er3, rfl, hk10, hr⟩
    clear H3
    have HR3 := Lib.hid hr; clear hr
    replace x0 := kcell hk10 x0
    replace x1 := kcell hk10 x1
    replace x2 := kcell hk10 x2
    replace y0 := kcell hk10 y0
    replace y1 := kcell hk10 y1
    replace y2 := kcell hk10 y2
    replace sp0 := kcell hk10 sp0
    replace sp1 := kcell hk10 sp1
    replace tp0 := kcell hk10 tp0
    replace tp1 := kcell hk10 tp1
    have hkV10 := kept_trans hkV9 hk10
    have h4 := sings_all (some ⟨g2, 0, none⟩) none cap2 0 ⟨B.boys.set boy y, B.weeks, []⟩ boy week note V10 (hBY.kept hkV10) (hG.kept hkV10) hokY (by simpa using hbl) ⟨k1, k2⟩ ⟨k5, by omega⟩
    unfold Book.val at h4
    simp only [List.length_nil, List.length_set] at h4
    have H4 := Lib.hid h4; clear h4
    go_wp2_with fail
    refine H4.out.mono ?_
    rintro e V11 ⟨m, er4, rfl, hk11, hr⟩
    clear H4
    have HR4 := Lib.hid hr; clear hr
    replace x0 := kcell hk11 x0
    replace x1 := kcell hk11 x1
    replace x2 := kcell hk11 x2
    replace y0 := kcell hk11 y0
    replace y1 := kcell hk11 y1
    replace y2 := kcell hk11 y2
    replace sp0 := kcell hk11 sp0
    replace sp1 := kcell hk11 sp1
    replace tp0 := kcell hk11 tp0
    replace tp1 := kcell hk11 tp1
    have hkV11 := kept_trans hkV10 hk11
    have hkW := kept_trans hk hkV11
    have hcX := can_untried hokX rfl
    have hcY := can_untried hokY rfl
    have hyB : (B.boys.set boy y)[boy]? = some y := by rw [List.getElem?_set_self hbl]
    obtain ⟨fd, q1', rfl⟩ : ∃ fd, spanOf (hiF ⟨B.boys, B.weeks, []⟩ boy week) ((Book.mk B.boys B.weeks []).truths boy x) = (p0, p1, fd) ∧ er1 = if fd then 0 else 4 := by
      rcases HR1.out with ⟨_, x', fd, hx', g1, g3⟩ | ⟨_, hn, _⟩
      · rw [hx] at hx'; cases hx'; exact ⟨fd, g1, g3⟩
      · exact absurd hcX hn
    obtain ⟨gd, q2', rfl⟩ : ∃ gd, spanOf (hiF ⟨B.boys.set boy y, B.weeks, []⟩ boy week) ((Book.mk (B.boys.set boy y) B.weeks []).truths boy y) = (t0, t1, gd) ∧ er2 = if gd then 0 else 4 := by
      rcases HR2.out with ⟨_, x', fd, hx', g1, g3⟩ | ⟨_, hn, _⟩
      · rw [hyB] at hx'; cases hx'; exact ⟨fd, g1, g3⟩
      · exact absurd hcY hn
    obtain ⟨rfl, q3'⟩ : er3 = 0 ∧ oftenOf ((Book.mk B.boys B.weeks []).truths boy x) (singsN ⟨B.boys, B.weeks, []⟩ week note note boy) = k := by
      rcases HR3.out with ⟨e, _, x', hx', g1⟩ | ⟨_, hn, _⟩
      · rw [hx] at hx'; cases hx'; exact ⟨e, g1.symm⟩
      · exact absurd hcX hn
    obtain ⟨rfl, q4'⟩ : er4 = 0 ∧ oftenOf ((Book.mk (B.boys.set boy y) B.weeks []).truths boy y) (singsN ⟨B.boys.set boy y, B.weeks, []⟩ week note note boy) = m := by
      rcases HR4.out with ⟨e, _, x', hx', g1⟩ | ⟨_, hn, _⟩
      · rw [hyB] at hx'; cases hx'; exact ⟨e, g1.symm⟩
      · exact absurd hcY hn
    have hxo := (okB_boys hok).2.1 x (List.mem_of_getElem? hx)
    have G := gains_at (A := ⟨B.boys, B.weeks, []⟩) (B := ⟨B.boys.set boy y, B.weeks, []⟩) rfl rfl hx hyB hxo hyo hbt k1 q1' q2' q3' q4' (hcX boy x hx)
    clear HR1 HR2 HR3 HR4 q1' q2' q3' q4' hcX hcY hyB
    obtain ⟨rfl, ga, gb, gc, gd', gk0, gk2, gm0, gm2⟩ := G
    have HSU := Lib.hid (sung_is V11 (HB.out.laid.kept hkW) (HG.out.kept hkW))
    have zp := Go.Ai.lt_of_cell sp0
    have zt := Go.Ai.lt_of_cell tp0
    rcases (show k = 0 ∨ k = 1 ∨ k = 2 by omega) with rfl | rfl | rfl
    · skip
      cases fd with
      | false =>
        simp only [Bool.false_eq_true, if_false]
        go_wp2_with fail
        refine HSU.out.mono ?_
        rintro e w' ⟨rfl, hk12⟩
        go_wp2_with fail
        go_ret
        exact ⟨rfl, kept_trans hkW hk12⟩
      | true =>
        simp only [if_true]
        go_wp2_with fail
        refine HSU.out.mono ?_
        rintro e w' ⟨rfl, hk12⟩
        go_wp2_with fail
        go_ret
        exact ⟨rfl, kept_trans hkW hk12⟩
    · have hm0 : 0 < m := by have := gd' (by omega); omega
      cases fd with
      | false =>
        simp only [Bool.false_eq_true, if_false]
        go_wp2_with fail
        refine HSU.out.mono ?_
        rintro e w' ⟨rfl, hk12⟩
        go_wp2_with fail
        go_ret
        exact ⟨rfl, kept_trans hkW hk12⟩
      | true =>
        simp only [if_true]
        go_wp2_with fail
        refine HSU.out.mono ?_
        rintro e w' ⟨rfl, hk12⟩
        go_wp2_with fail
        go_ret
        exact ⟨rfl, kept_trans hkW hk12⟩
    · obtain rfl := gc rfl
      cases fd with
      | false =>
        simp only [Bool.false_eq_true, if_false]
        go_wp2_with fail
        refine HSU.out.mono ?_
        rintro e w' ⟨rfl, hk12⟩
        go_wp2_with fail
        go_ret
        exact ⟨rfl, kept_trans hkW hk12⟩
      | true =>
        simp only [if_true]
        go_wp2_with fail
        refine HSU.out.mono ?_
        rintro e w' ⟨rfl, hk12⟩
        go_wp2_with fail
        go_ret
        exact ⟨rfl, kept_trans hkW hk12⟩
  refine (turn_is n0 3 (by omega) (by omega) _).mono ?_
  intro e V6 hh
  obtain ⟨h1, h2⟩ := hh
  subst h2
  subst h1
  obtain ⟨j1, j2⟩ := turnI_lt n0 3 (by omega)
  generalize turnI n0 3 = tt at *
  obtain ⟨c0, c1, c2, c3, c4, c5, c6, c7, c8, c9, c10⟩ := hbo5.2 boy x hx
  simp only [Nat.zero_add] at c0 c1 c2 c3 c4 c5 c6 c7 c8 c9 c10
  have HFIN := Lib.hid FIN; clear FIN
  have hxo := (okB_boys hok).2.1 x (List.mem_of_getElem? hx)
  obtain ⟨xa, xb, xc, xd, xe⟩ := boy_nums hxo
  have xf := (spanAt_ok x hxo).2
  rcases (show tt = 0 ∨ tt = 1 ∨ tt = 2 by omega) with rfl | rfl | rfl
  · have hwr1 : IntKind.i64.wrap (x.g1 + 1) = x.g1 + 1 := IntWalk.i64_in _ (by omega)
    have hwr0 : IntKind.i64.wrap (x.g0 + 1) = x.g0 + 1 := IntWalk.i64_in _ (by omega)
    by_cases hc : x.g1 + 1 < 2
    · skip
      go_wp2_with fail
      have e6 : Turns (fun b => b = g2) V5 (V5.setCell ⟨g2, boy * 11 + 4 + 1, none⟩ (.int .i64 (x.g1 + 1))) := Turns.setCell (T := fun b => b = g2) (Turns.refl _ V5) rfl _ _
      have v1 : (V5.setCell ⟨g2, boy * 11 + 4 + 1, none⟩ (.int .i64 (x.g1 + 1))).cell? ⟨g2, boy * 11 + 4 + 1, none⟩ = some (.int .i64 (x.g1 + 1)) := cell_set_eq c5
      have v0 : (V5.setCell ⟨g2, boy * 11 + 4 + 1, none⟩ (.int .i64 (x.g1 + 1))).cell? ⟨g2, boy * 11 + 4, none⟩ = some (.int .i64 x.g0) := (cell_set_ne (by omega)).trans c4
      have vf : (V5.setCell ⟨g2, boy * 11 + 4 + 1, none⟩ (.int .i64 (x.g1 + 1))).frozen? ⟨g2, boy * 11 + 4, none⟩ = false := by rw [World.frozen?_setCell]; exact hfr5 _
      have vb : BoysAt (V5.setCell ⟨g2, boy * 11 + 4 + 1, none⟩ (.int .i64 (x.g1 + 1))) g2 0 (B.boys.set boy { x with g1 := x.g1 + 1 }) := boysAt_set hbo5 hx (k := 5) (by omega) rfl
      have e6' := Lib.hid e6; clear e6
      generalize V5.setCell ⟨g2, boy * 11 + 4 + 1, none⟩ (.int .i64 (x.g1 + 1)) = V6 at *
      obtain ⟨lv, hlv⟩ : ∃ lv, lv = min (x.g1 + 1) (x.g0 + 1) := ⟨_, rfl⟩
      obtain ⟨W7, hW7⟩ : ∃ W7, W7 = V6.drew.setCell ⟨g2, boy * 11 + 4, none⟩ (.int .i64 lv) := ⟨_, rfl⟩
      have hmin : (if x.g0 + 1 < x.g1 + 1 then x.g0 + 1 else x.g1 + 1) = lv := by rw [hlv]; split <;> omega
      have hmin2 : (if x.g0 < x.g1 then x.g0 + 1 else x.g1 + 1) = lv := by rw [hlv]; split <;> omega
      have HW7 := Lib.hid hW7; clear hW7
      have HLV := Lib.hid hlv; clear hlv
      have hz6 := Go.Ai.lt_of_cell v0
      refine (wpIn_wide (n := 0)).1 (wpIn_region_invL (StL 16 (fun j => match j with | 5 => .int .i64 (x.g1 + 1) | 10 => .int .i64 x.g0 | 11 => .int .i64 (x.g0 + 1) | 12 => .int .i64 lv | 3 => .pointer (some ⟨g2, boy * 11 + 4, none⟩) | 8 => .pointer (some ⟨g2, boy * 11 + 4, none⟩) | 14 => .pointer (some ⟨g2, boy * 11 + 4, none⟩) | 4 => .pointer (some ⟨g2, boy * 11 + 4 + 1, none⟩) | 9 => .pointer (some ⟨g2, boy * 11 + 4, none⟩) | 15 => .pointer (some ⟨g2, boy * 11 + 4, none⟩) | _ => .pointer (some ⟨g2, boy * 11, none⟩)) V6 W7) (by kernel_rfl) (by kernel_rfl) StL.start ?hop ?hend)
      case hop =>
        rintro i o listed a w hl ho h1 h2 hcl hst
        have hi17 : i < 17 := (List.getElem?_eq_some_iff.1 ho).1
        match i, ho with
        | 0, ho =>
          have st := StL.pure (by kernel_rfl) hst ho h1 (by omega)
          have ST := Lib.hid st; clear st
          have hwd := (hst.world h1 (by omega)).2
          have kd : Kept V6 w := hwd ▸ kept_drew (kept_refl V6)
          clear hwd
          have ha := hst.1
          cases ho
          rw [if_pos (by rfl)]
          have t10 := ha.old 10 (by kernel_rfl)
          simp at t10
          go_simp
          exact ST.out
        | 1, ho =>
          have st := StL.pure (by kernel_rfl) hst ho h1 (by omega)
          have ST := Lib.hid st; clear st
          have hwd := (hst.world h1 (by omega)).2
          have kd : Kept V6 w := hwd ▸ kept_drew (kept_refl V6)
          clear hwd
          have ha := hst.1
          cases ho
          rw [if_pos (by rfl)]
          have t10 := ha.old 10 (by kernel_rfl)
          simp at t10
          go_simp
          exact ST.out
        | 2, ho =>
          have st := StL.pure (by kernel_rfl) hst ho h1 (by omega)
          have ST := Lib.hid st; clear st
          have hwd := (hst.world h1 (by omega)).2
          have kd : Kept V6 w := hwd ▸ kept_drew (kept_refl V6)
          clear hwd
          have ha := hst.1
          cases ho
          rw [if_pos (by rfl)]
          have t93 := ha.new 1 (h2 ⟨1, .data⟩ (by simp) rfl) (d := 93) rfl rfl (by simp)
          simp at t93
          go_simp
          exact ST.out
        | 3, ho =>
          have st := StL.pure (by kernel_rfl) hst ho h1 (by omega)
          have ST := Lib.hid st; clear st
          have hwd := (hst.world h1 (by omega)).2
          have kd : Kept V6 w := hwd ▸ kept_drew (kept_refl V6)
          clear hwd
          have ha := hst.1
          cases ho
          rw [if_pos (by rfl)]
          have t94 := ha.new 2 (h2 ⟨2, .data⟩ (by simp) rfl) (d := 94) rfl rfl (by simp)
          simp at t94
          go_simp
          exact ST.out
        | 4, ho =>
          have st := StL.pure (by kernel_rfl) hst ho h1 (by omega)
          have ST := Lib.hid st; clear st
          have hwd := (hst.world h1 (by omega)).2
          have kd : Kept V6 w := hwd ▸ kept_drew (kept_refl V6)
          clear hwd
          have ha := hst.1
          cases ho
          rw [if_pos (by rfl)]
          have t95 := ha.new 3 (h2 ⟨3, .data⟩ (by simp) rfl) (d := 95) rfl rfl (by simp)
          simp at t95
          go_simp
          exact ST.out
        | 5, ho =>
          have st := StL.pure (by kernel_rfl) hst ho h1 (by omega)
          have ST := Lib.hid st; clear st
          have hwd := (hst.world h1 (by omega)).2
          have kd : Kept V6 w := hwd ▸ kept_drew (kept_refl V6)
          clear hwd
          have ha := hst.1
          cases ho
          rw [if_pos (by rfl)]
          have t96 := ha.new 4 (h2 ⟨4, .data⟩ (by simp) rfl) (d := 96) rfl rfl (by simp)
          simp at t96
          have c0 := kcell kd v1
          go_simp
          exact ST.out
        | 6, ho =>
          have st := StL.pure (by kernel_rfl) hst ho h1 (by omega)
          have ST := Lib.hid st; clear st
          have hwd := (hst.world h1 (by omega)).2
          have kd : Kept V6 w := hwd ▸ kept_drew (kept_refl V6)
          clear hwd
          have ha := hst.1
          cases ho
          rw [if_pos (by rfl)]
          have t10 := ha.old 10 (by kernel_rfl)
          simp at t10
          go_simp
          exact ST.out
        | 7, ho =>
          have st := StL.pure (by kernel_rfl) hst ho h1 (by omega)
          have ST := Lib.hid st; clear st
          have hwd := (hst.world h1 (by omega)).2
          have kd : Kept V6 w := hwd ▸ kept_drew (kept_refl V6)
          clear hwd
          have ha := hst.1
          cases ho
          rw [if_pos (by rfl)]
          have t98 := ha.new 6 (h2 ⟨6, .data⟩ (by simp) rfl) (d := 98) rfl rfl (by simp)
          simp at t98
          go_simp
          exact ST.out
        | 8, ho =>
          have st := StL.pure (by kernel_rfl) hst ho h1 (by omega)
          have ST := Lib.hid st; clear st
          have hwd := (hst.world h1 (by omega)).2
          have kd : Kept V6 w := hwd ▸ kept_drew (kept_refl V6)
          clear hwd
          have ha := hst.1
          cases ho
          rw [if_pos (by rfl)]
          have t99 := ha.new 7 (h2 ⟨7, .data⟩ (by simp) rfl) (d := 99) rfl rfl (by simp)
          simp at t99
          go_simp
          exact ST.out
        | 9, ho =>
          have st := StL.pure (by kernel_rfl) hst ho h1 (by omega)
          have ST := Lib.hid st; clear st
          have hwd := (hst.world h1 (by omega)).2
          have kd : Kept V6 w := hwd ▸ kept_drew (kept_refl V6)
          clear hwd
          have ha := hst.1
          cases ho
          rw [if_pos (by rfl)]
          have t100 := ha.new 8 (h2 ⟨8, .data⟩ (by simp) rfl) (d := 100) rfl rfl (by simp)
          simp at t100
          go_simp
          exact ST.out
        | 10, ho =>
          have st := StL.pure (by kernel_rfl) hst ho h1 (by omega)
          have ST := Lib.hid st; clear st
          have hwd := (hst.world h1 (by omega)).2
          have kd : Kept V6 w := hwd ▸ kept_drew (kept_refl V6)
          clear hwd
          have ha := hst.1
          cases ho
          rw [if_pos (by rfl)]
          have t101 := ha.new 9 (h2 ⟨9, .data⟩ (by simp) rfl) (d := 101) rfl rfl (by simp)
          simp at t101
          have c0 := kcell kd v0
          go_simp
          exact ST.out
        | 11, ho =>
          have st := StL.pure (by kernel_rfl) hst ho h1 (by omega)
          have ST := Lib.hid st; clear st
          have hwd := (hst.world h1 (by omega)).2
          have kd : Kept V6 w := hwd ▸ kept_drew (kept_refl V6)
          clear hwd
          have ha := hst.1
          cases ho
          rw [if_pos (by rfl)]
          have t102 := ha.new 10 (h2 ⟨10, .data⟩ (by simp) rfl) (d := 102) rfl rfl (by simp)
          simp at t102
          go_simp
          exact ST.out
        | 12, ho =>
          have st := StL.pure (by kernel_rfl) hst ho h1 (by omega)
          have ST := Lib.hid st; clear st
          have hwd := (hst.world h1 (by omega)).2
          have kd : Kept V6 w := hwd ▸ kept_drew (kept_refl V6)
          clear hwd
          have ha := hst.1
          cases ho
          rw [if_pos (by rfl)]
          have t97 := ha.new 5 (h2 ⟨5, .data⟩ (by simp) rfl) (d := 97) rfl rfl (by simp)
          simp at t97
          have t103 := ha.new 11 (h2 ⟨11, .data⟩ (by simp) rfl) (d := 103) rfl rfl (by simp)
          simp at t103
          go_simp
          exact ST.out
        | 13, ho =>
          have st := StL.pure (by kernel_rfl) hst ho h1 (by omega)
          have ST := Lib.hid st; clear st
          have hwd := (hst.world h1 (by omega)).2
          have kd : Kept V6 w := hwd ▸ kept_drew (kept_refl V6)
          clear hwd
          have ha := hst.1
          cases ho
          rw [if_pos (by rfl)]
          have t92 := ha.new 0 (h2 ⟨0, .data⟩ (by simp) rfl) (d := 92) rfl rfl (by simp)
          simp at t92
          go_simp
          exact ST.out
        | 14, ho =>
          have st := StL.pure (by kernel_rfl) hst ho h1 (by omega)
          have ST := Lib.hid st; clear st
          have hwd := (hst.world h1 (by omega)).2
          have kd : Kept V6 w := hwd ▸ kept_drew (kept_refl V6)
          clear hwd
          have ha := hst.1
          cases ho
          rw [if_pos (by rfl)]
          have t105 := ha.new 13 (h2 ⟨13, .data⟩ (by simp) rfl) (d := 105) rfl rfl (by simp)
          simp at t105
          go_simp
          exact ST.out
        | 15, ho =>
          have st := StL.pure (by kernel_rfl) hst ho h1 (by omega)
          have ST := Lib.hid st; clear st
          have hwd := (hst.world h1 (by omega)).2
          have kd : Kept V6 w := hwd ▸ kept_drew (kept_refl V6)
          clear hwd
          have ha := hst.1
          cases ho
          rw [if_pos (by rfl)]
          have t106 := ha.new 14 (h2 ⟨14, .data⟩ (by simp) rfl) (d := 106) rfl rfl (by simp)
          simp at t106
          go_simp
          exact ST.out
        | 16, ho =>
          have b15 : on listed 15 = true := h2 ⟨15, .data⟩ (by cases ho; simp) rfl
          have b14 : on listed 14 = true := hcl 15 _ rfl b15 ⟨14, .data⟩ (by simp) rfl
          have b13 : on listed 13 = true := hcl 14 _ rfl b14 ⟨13, .data⟩ (by simp) rfl
          have hb : ∀ j, j < 16 → on listed j = true := fun j hj => by
            rcases (show j = 13 ∨ j = 14 ∨ j = 15 ∨ j = 0 ∨ j = 1 ∨ j = 2 ∨ j = 3 ∨ j = 4 ∨ j = 5 ∨ j = 6 ∨ j = 7 ∨ j = 8 ∨ j = 9 ∨ j = 10 ∨ j = 11 ∨ j = 12 by omega) with rfl | rfl | rfl | rfl | rfl | rfl | rfl | rfl | rfl | rfl | rfl | rfl | rfl | rfl | rfl | rfl
            · exact b13
            · exact b14
            · exact b15
            all_goals exact h2 ⟨_, .phase⟩ (by cases ho; simp) rfl
          obtain ⟨hwd, st⟩ := StL.stored (by kernel_rfl) hst hl ho h1 (by cases ho; rfl) hb
          have kd : Kept V6 w := hwd ▸ kept_drew (kept_refl V6)
          have HWD := Lib.hid hwd; clear hwd
          have ST := Lib.hid st; clear st
          have ha := hst.1
          have t107 := ha.new 15 (hb 15 (by omega)) (d := 107) rfl rfl (by simp)
          simp at t107
          have t104 := ha.new 12 (hb 12 (by omega)) (d := 104) rfl rfl (by simp)
          simp at t104
          cases ho
          rw [if_pos (by rfl)]
          have c0 := kcell kd v0
          have cf := ((kturns kd (fun _ => False)).frozen (Go.Ai.lt_of_cell v0) (fun h => h)).trans vf
          go_simp
          rw [HWD.out, ← HW7.out]
          exact ST.out
      case hend =>
        rintro listed a w hall ⟨ha, -, hw⟩
        rw [show on listed 16 = true from hall 16 (by simp), if_pos rfl] at hw
        subst hw
        have e6 := e6'.out
        have hlv := HLV.out
        rw [HW7.out]
        have e7 : Turns (fun b => b = g2) V6.drew (V6.drew.setCell ⟨g2, boy * 11 + 4, none⟩ (.int .i64 lv)) := Turns.setCell (T := fun b => b = g2) (Turns.refl _ _) rfl _ _
        have ed := kturns (kept_drew (kept_refl V6)) (fun b => b = g2)
        have tc : ∀ b o v, b ≠ g2 → V5.cell? ⟨b, o, none⟩ = some v → (V6.drew.setCell ⟨g2, boy * 11 + 4, none⟩ (.int .i64 lv)).cell? ⟨b, o, none⟩ = some v := fun b o v hb h => by
          have h6 := (e6.cell (Go.Ai.lt_of_cell h) hb).trans h
          have hd := (ed.cell (Go.Ai.lt_of_cell h6) hb).trans h6
          exact (e7.cell (Go.Ai.lt_of_cell hd) hb).trans hd
        have hxs : (B.boys.set boy { x with g1 := x.g1 + 1 })[boy]? = some { x with g1 := x.g1 + 1 } := List.getElem?_set_self hbl
        have hbN : BoysAt (V6.drew.setCell ⟨g2, boy * 11 + 4, none⟩ (.int .i64 lv)) g2 0 (B.boys.set boy { x with g0 := lv, g1 := x.g1 + 1 }) := by
          have := boysAt_set (y := { x with g0 := lv, g1 := x.g1 + 1 }) (vb.kept (kept_drew (kept_refl V6))) hxs (k := 4) (v := lv) (by omega) rfl
          rwa [List.set_set] at this
        have hkN : Kept W (V6.drew.setCell ⟨g2, boy * 11 + 4, none⟩ (.int .i64 lv)) := Below.trans (Below.trans (Below.trans hk05 (e6.toBelow (n := W.heap.size) (by rintro b rfl; omega) (by omega))) (ed.toBelow (n := W.heap.size) (by rintro b rfl; omega) (by have := e6.size; omega))) (e7.toBelow (n := W.heap.size) (by rintro b rfl; omega) (by have := e6.size; have := ed.size; omega))
        have hbet : Better x { x with g0 := lv, g1 := x.g1 + 1 } := ⟨rfl, rfl, rfl, rfl, rfl, rfl, (Int.le_refl _), (Int.le_refl _), (show x.g0 ≤ lv by omega), (show x.g1 ≤ x.g1 + 1 by omega), (Int.le_refl _)⟩
        exact HFIN.out a _ _ ha.size ha.defers (ha.old 4 (by kernel_rfl)) (ha.old 5 (by kernel_rfl)) (ha.old 6 (by kernel_rfl)) (ha.old 7 (by kernel_rfl)) (ha.old 8 (by kernel_rfl)) (ha.old 9 (by kernel_rfl)) hbet (g_ok hxo (by omega) (by omega) (by omega) (by omega)) hbN hkN (tc _ _ _ (by omega) x0) (tc _ _ _ (by omega) x1) (tc _ _ _ (by omega) x2) (tc _ _ _ (by omega) hyv) (tc _ _ _ (by omega) hy1) (tc _ _ _ (by omega) hy2)
    · skip
      go_wp2_with fail
      have e6 : Turns (fun b => b = g2) V5 (V5.setCell ⟨g2, boy * 11 + 4 + 1, none⟩ (.int .i64 (2))) := Turns.setCell (T := fun b => b = g2) (Turns.refl _ V5) rfl _ _
      have v1 : (V5.setCell ⟨g2, boy * 11 + 4 + 1, none⟩ (.int .i64 (2))).cell? ⟨g2, boy * 11 + 4 + 1, none⟩ = some (.int .i64 (2)) := cell_set_eq c5
      have v0 : (V5.setCell ⟨g2, boy * 11 + 4 + 1, none⟩ (.int .i64 (2))).cell? ⟨g2, boy * 11 + 4, none⟩ = some (.int .i64 x.g0) := (cell_set_ne (by omega)).trans c4
      have vf : (V5.setCell ⟨g2, boy * 11 + 4 + 1, none⟩ (.int .i64 (2))).frozen? ⟨g2, boy * 11 + 4, none⟩ = false := by rw [World.frozen?_setCell]; exact hfr5 _
      have vb : BoysAt (V5.setCell ⟨g2, boy * 11 + 4 + 1, none⟩ (.int .i64 (2))) g2 0 (B.boys.set boy { x with g1 := 2 }) := boysAt_set hbo5 hx (k := 5) (by omega) rfl
      have e6' := Lib.hid e6; clear e6
      generalize V5.setCell ⟨g2, boy * 11 + 4 + 1, none⟩ (.int .i64 (2)) = V6 at *
      obtain ⟨lv, hlv⟩ : ∃ lv, lv = min (2) (x.g0 + 1) := ⟨_, rfl⟩
      obtain ⟨W7, hW7⟩ : ∃ W7, W7 = V6.drew.setCell ⟨g2, boy * 11 + 4, none⟩ (.int .i64 lv) := ⟨_, rfl⟩
      have hmin : (if x.g0 + 1 < 2 then x.g0 + 1 else 2) = lv := by rw [hlv]; split <;> omega
      have HW7 := Lib.hid hW7; clear hW7
      have HLV := Lib.hid hlv; clear hlv
      have hz6 := Go.Ai.lt_of_cell v0
      refine (wpIn_wide (n := 0)).1 (wpIn_region_invL (StL 16 (fun j => match j with | 5 => .int .i64 (2) | 10 => .int .i64 x.g0 | 11 => .int .i64 (x.g0 + 1) | 12 => .int .i64 lv | 3 => .pointer (some ⟨g2, boy * 11 + 4, none⟩) | 8 => .pointer (some ⟨g2, boy * 11 + 4, none⟩) | 14 => .pointer (some ⟨g2, boy * 11 + 4, none⟩) | 4 => .pointer (some ⟨g2, boy * 11 + 4 + 1, none⟩) | 9 => .pointer (some ⟨g2, boy * 11 + 4, none⟩) | 15 => .pointer (some ⟨g2, boy * 11 + 4, none⟩) | _ => .pointer (some ⟨g2, boy * 11, none⟩)) V6 W7) (by kernel_rfl) (by kernel_rfl) StL.start ?hop ?hend)
      case hop =>
        rintro i o listed a w hl ho h1 h2 hcl hst
        have hi17 : i < 17 := (List.getElem?_eq_some_iff.1 ho).1
        match i, ho with
        | 0, ho =>
          have st := StL.pure (by kernel_rfl) hst ho h1 (by omega)
          have ST := Lib.hid st; clear st
          have hwd := (hst.world h1 (by omega)).2
          have kd : Kept V6 w := hwd ▸ kept_drew (kept_refl V6)
          clear hwd
          have ha := hst.1
          cases ho
          rw [if_pos (by rfl)]
          have t10 := ha.old 10 (by kernel_rfl)
          simp at t10
          go_simp
          exact ST.out
        | 1, ho =>
          have st := StL.pure (by kernel_rfl) hst ho h1 (by omega)
          have ST := Lib.hid st; clear st
          have hwd := (hst.world h1 (by omega)).2
          have kd : Kept V6 w := hwd ▸ kept_drew (kept_refl V6)
          clear hwd
          have ha := hst.1
          cases ho
          rw [if_pos (by rfl)]
          have t10 := ha.old 10 (by kernel_rfl)
          simp at t10
          go_simp
          exact ST.out
        | 2, ho =>
          have st := StL.pure (by kernel_rfl) hst ho h1 (by omega)
          have ST := Lib.hid st; clear st
          have hwd := (hst.world h1 (by omega)).2
          have kd : Kept V6 w := hwd ▸ kept_drew (kept_refl V6)
          clear hwd
          have ha := hst.1
          cases ho
          rw [if_pos (by rfl)]
          have t93 := ha.new 1 (h2 ⟨1, .data⟩ (by simp) rfl) (d := 93) rfl rfl (by simp)
          simp at t93
          go_simp
          exact ST.out
        | 3, ho =>
          have st := StL.pure (by kernel_rfl) hst ho h1 (by omega)
          have ST := Lib.hid st; clear st
          have hwd := (hst.world h1 (by omega)).2
          have kd : Kept V6 w := hwd ▸ kept_drew (kept_refl V6)
          clear hwd
          have ha := hst.1
          cases ho
          rw [if_pos (by rfl)]
          have t94 := ha.new 2 (h2 ⟨2, .data⟩ (by simp) rfl) (d := 94) rfl rfl (by simp)
          simp at t94
          go_simp
          exact ST.out
        | 4, ho =>
          have st := StL.pure (by kernel_rfl) hst ho h1 (by omega)
          have ST := Lib.hid st; clear st
          have hwd := (hst.world h1 (by omega)).2
          have kd : Kept V6 w := hwd ▸ kept_drew (kept_refl V6)
          clear hwd
          have ha := hst.1
          cases ho
          rw [if_pos (by rfl)]
          have t95 := ha.new 3 (h2 ⟨3, .data⟩ (by simp) rfl) (d := 95) rfl rfl (by simp)
          simp at t95
          go_simp
          exact ST.out
        | 5, ho =>
          have st := StL.pure (by kernel_rfl) hst ho h1 (by omega)
          have ST := Lib.hid st; clear st
          have hwd := (hst.world h1 (by omega)).2
          have kd : Kept V6 w := hwd ▸ kept_drew (kept_refl V6)
          clear hwd
          have ha := hst.1
          cases ho
          rw [if_pos (by rfl)]
          have t96 := ha.new 4 (h2 ⟨4, .data⟩ (by simp) rfl) (d := 96) rfl rfl (by simp)
          simp at t96
          have c0 := kcell kd v1
          go_simp
          exact ST.out
        | 6, ho =>
          have st := StL.pure (by kernel_rfl) hst ho h1 (by omega)
          have ST := Lib.hid st; clear st
          have hwd := (hst.world h1 (by omega)).2
          have kd : Kept V6 w := hwd ▸ kept_drew (kept_refl V6)
          clear hwd
          have ha := hst.1
          cases ho
          rw [if_pos (by rfl)]
          have t10 := ha.old 10 (by kernel_rfl)
          simp at t10
          go_simp
          exact ST.out
        | 7, ho =>
          have st := StL.pure (by kernel_rfl) hst ho h1 (by omega)
          have ST := Lib.hid st; clear st
          have hwd := (hst.world h1 (by omega)).2
          have kd : Kept V6 w := hwd ▸ kept_drew (kept_refl V6)
          clear hwd
          have ha := hst.1
          cases ho
          rw [if_pos (by rfl)]
          have t98 := ha.new 6 (h2 ⟨6, .data⟩ (by simp) rfl) (d := 98) rfl rfl (by simp)
          simp at t98
          go_simp
          exact ST.out
        | 8, ho =>
          have st := StL.pure (by kernel_rfl) hst ho h1 (by omega)
          have ST := Lib.hid st; clear st
          have hwd := (hst.world h1 (by omega)).2
          have kd : Kept V6 w := hwd ▸ kept_drew (kept_refl V6)
          clear hwd
          have ha := hst.1
          cases ho
          rw [if_pos (by rfl)]
          have t99 := ha.new 7 (h2 ⟨7, .data⟩ (by simp) rfl) (d := 99) rfl rfl (by simp)
          simp at t99
          go_simp
          exact ST.out
        | 9, ho =>
          have st := StL.pure (by kernel_rfl) hst ho h1 (by omega)
          have ST := Lib.hid st; clear st
          have hwd := (hst.world h1 (by omega)).2
          have kd : Kept V6 w := hwd ▸ kept_drew (kept_refl V6)
          clear hwd
          have ha := hst.1
          cases ho
          rw [if_pos (by rfl)]
          have t100 := ha.new 8 (h2 ⟨8, .data⟩ (by simp) rfl) (d := 100) rfl rfl (by simp)
          simp at t100
          go_simp
          exact ST.out
        | 10, ho =>
          have st := StL.pure (by kernel_rfl) hst ho h1 (by omega)
          have ST := Lib.hid st; clear st
          have hwd := (hst.world h1 (by omega)).2
          have kd : Kept V6 w := hwd ▸ kept_drew (kept_refl V6)
          clear hwd
          have ha := hst.1
          cases ho
          rw [if_pos (by rfl)]
          have t101 := ha.new 9 (h2 ⟨9, .data⟩ (by simp) rfl) (d := 101) rfl rfl (by simp)
          simp at t101
          have c0 := kcell kd v0
          go_simp
          exact ST.out
        | 11, ho =>
          have st := StL.pure (by kernel_rfl) hst ho h1 (by omega)
          have ST := Lib.hid st; clear st
          have hwd := (hst.world h1 (by omega)).2
          have kd : Kept V6 w := hwd ▸ kept_drew (kept_refl V6)
          clear hwd
          have ha := hst.1
          cases ho
          rw [if_pos (by rfl)]
          have t102 := ha.new 10 (h2 ⟨10, .data⟩ (by simp) rfl) (d := 102) rfl rfl (by simp)
          simp at t102
          go_simp
          exact ST.out
        | 12, ho =>
          have st := StL.pure (by kernel_rfl) hst ho h1 (by omega)
          have ST := Lib.hid st; clear st
          have hwd := (hst.world h1 (by omega)).2
          have kd : Kept V6 w := hwd ▸ kept_drew (kept_refl V6)
          clear hwd
          have ha := hst.1
          cases ho
          rw [if_pos (by rfl)]
          have t97 := ha.new 5 (h2 ⟨5, .data⟩ (by simp) rfl) (d := 97) rfl rfl (by simp)
          simp at t97
          have t103 := ha.new 11 (h2 ⟨11, .data⟩ (by simp) rfl) (d := 103) rfl rfl (by simp)
          simp at t103
          go_simp
          exact ST.out
        | 13, ho =>
          have st := StL.pure (by kernel_rfl) hst ho h1 (by omega)
          have ST := Lib.hid st; clear st
          have hwd := (hst.world h1 (by omega)).2
          have kd : Kept V6 w := hwd ▸ kept_drew (kept_refl V6)
          clear hwd
          have ha := hst.1
          cases ho
          rw [if_pos (by rfl)]
          have t92 := ha.new 0 (h2 ⟨0, .data⟩ (by simp) rfl) (d := 92) rfl rfl (by simp)
          simp at t92
          go_simp
          exact ST.out
        | 14, ho =>
          have st := StL.pure (by kernel_rfl) hst ho h1 (by omega)
          have ST := Lib.hid st; clear st
          have hwd := (hst.world h1 (by omega)).2
          have kd : Kept V6 w := hwd ▸ kept_drew (kept_refl V6)
          clear hwd
          have ha := hst.1
          cases ho
          rw [if_pos (by rfl)]
          have t105 := ha.new 13 (h2 ⟨13, .data⟩ (by simp) rfl) (d := 105) rfl rfl (by simp)
          simp at t105
          go_simp
          exact ST.out
        | 15, ho =>
          have st := StL.pure (by kernel_rfl) hst ho h1 (by omega)
          have ST := Lib.hid st; clear st
          have hwd := (hst.world h1 (by omega)).2
          have kd : Kept V6 w := hwd ▸ kept_drew (kept_refl V6)
          clear hwd
          have ha := hst.1
          cases ho
          rw [if_pos (by rfl)]
          have t106 := ha.new 14 (h2 ⟨14, .data⟩ (by simp) rfl) (d := 106) rfl rfl (by simp)
          simp at t106
          go_simp
          exact ST.out
        | 16, ho =>
          have b15 : on listed 15 = true := h2 ⟨15, .data⟩ (by cases ho; simp) rfl
          have b14 : on listed 14 = true := hcl 15 _ rfl b15 ⟨14, .data⟩ (by simp) rfl
          have b13 : on listed 13 = true := hcl 14 _ rfl b14 ⟨13, .data⟩ (by simp) rfl
          have hb : ∀ j, j < 16 → on listed j = true := fun j hj => by
            rcases (show j = 13 ∨ j = 14 ∨ j = 15 ∨ j = 0 ∨ j = 1 ∨ j = 2 ∨ j = 3 ∨ j = 4 ∨ j = 5 ∨ j = 6 ∨ j = 7 ∨ j = 8 ∨ j = 9 ∨ j = 10 ∨ j = 11 ∨ j = 12 by omega) with rfl | rfl | rfl | rfl | rfl | rfl | rfl | rfl | rfl | rfl | rfl | rfl | rfl | rfl | rfl | rfl
            · exact b13
            · exact b14
            · exact b15
            all_goals exact h2 ⟨_, .phase⟩ (by cases ho; simp) rfl
          obtain ⟨hwd, st⟩ := StL.stored (by kernel_rfl) hst hl ho h1 (by cases ho; rfl) hb
          have kd : Kept V6 w := hwd ▸ kept_drew (kept_refl V6)
          have HWD := Lib.hid hwd; clear hwd
          have ST := Lib.hid st; clear st
          have ha := hst.1
          have t107 := ha.new 15 (hb 15 (by omega)) (d := 107) rfl rfl (by simp)
          simp at t107
          have t104 := ha.new 12 (hb 12 (by omega)) (d := 104) rfl rfl (by simp)
          simp at t104
          cases ho
          rw [if_pos (by rfl)]
          have c0 := kcell kd v0
          have cf := ((kturns kd (fun _ => False)).frozen (Go.Ai.lt_of_cell v0) (fun h => h)).trans vf
          go_simp
          rw [HWD.out, ← HW7.out]
          exact ST.out
      case hend =>
        rintro listed a w hall ⟨ha, -, hw⟩
        rw [show on listed 16 = true from hall 16 (by simp), if_pos rfl] at hw
        subst hw
        have e6 := e6'.out
        have hlv := HLV.out
        rw [HW7.out]
        have e7 : Turns (fun b => b = g2) V6.drew (V6.drew.setCell ⟨g2, boy * 11 + 4, none⟩ (.int .i64 lv)) := Turns.setCell (T := fun b => b = g2) (Turns.refl _ _) rfl _ _
        have ed := kturns (kept_drew (kept_refl V6)) (fun b => b = g2)
        have tc : ∀ b o v, b ≠ g2 → V5.cell? ⟨b, o, none⟩ = some v → (V6.drew.setCell ⟨g2, boy * 11 + 4, none⟩ (.int .i64 lv)).cell? ⟨b, o, none⟩ = some v := fun b o v hb h => by
          have h6 := (e6.cell (Go.Ai.lt_of_cell h) hb).trans h
          have hd := (ed.cell (Go.Ai.lt_of_cell h6) hb).trans h6
          exact (e7.cell (Go.Ai.lt_of_cell hd) hb).trans hd
        have hxs : (B.boys.set boy { x with g1 := 2 })[boy]? = some { x with g1 := 2 } := List.getElem?_set_self hbl
        have hbN : BoysAt (V6.drew.setCell ⟨g2, boy * 11 + 4, none⟩ (.int .i64 lv)) g2 0 (B.boys.set boy { x with g0 := lv, g1 := 2 }) := by
          have := boysAt_set (y := { x with g0 := lv, g1 := 2 }) (vb.kept (kept_drew (kept_refl V6))) hxs (k := 4) (v := lv) (by omega) rfl
          rwa [List.set_set] at this
        have hkN : Kept W (V6.drew.setCell ⟨g2, boy * 11 + 4, none⟩ (.int .i64 lv)) := Below.trans (Below.trans (Below.trans hk05 (e6.toBelow (n := W.heap.size) (by rintro b rfl; omega) (by omega))) (ed.toBelow (n := W.heap.size) (by rintro b rfl; omega) (by have := e6.size; omega))) (e7.toBelow (n := W.heap.size) (by rintro b rfl; omega) (by have := e6.size; have := ed.size; omega))
        have hbet : Better x { x with g0 := lv, g1 := 2 } := ⟨rfl, rfl, rfl, rfl, rfl, rfl, (Int.le_refl _), (Int.le_refl _), (show x.g0 ≤ lv by omega), (show x.g1 ≤ 2 by omega), (Int.le_refl _)⟩
        exact HFIN.out a _ _ ha.size ha.defers (ha.old 4 (by kernel_rfl)) (ha.old 5 (by kernel_rfl)) (ha.old 6 (by kernel_rfl)) (ha.old 7 (by kernel_rfl)) (ha.old 8 (by kernel_rfl)) (ha.old 9 (by kernel_rfl)) hbet (g_ok hxo (by omega) (by omega) (by omega) (by omega)) hbN hkN (tc _ _ _ (by omega) x0) (tc _ _ _ (by omega) x1) (tc _ _ _ (by omega) x2) (tc _ _ _ (by omega) hyv) (tc _ _ _ (by omega) hy1) (tc _ _ _ (by omega) hy2)
  · have hwr : IntKind.i64.wrap (x.ls - 1) = x.ls - 1 := IntWalk.i64_in _ (by omega)
    have stp : ∀ v : Int, 0 ≤ v → v ≤ x.ls → Better x { x with ls := v } ∧ ({ x with ls := v } : Boy).okB = true ∧ BoysAt (V5.setCell ⟨g2, boy * 11 + 8, none⟩ (.int .i64 v)) g2 0 (B.boys.set boy { x with ls := v }) ∧ Turns (fun b => b = g2) V5 (V5.setCell ⟨g2, boy * 11 + 8, none⟩ (.int .i64 v)) := fun v h1 h2 =>
      ⟨⟨rfl, rfl, rfl, rfl, rfl, rfl, by simp, by simp, by simp, by simp, h2⟩, ls_ok hxo h1 h2, boysAt_set hbo5 hx (by omega) rfl, Turns.setCell (T := fun b => b = g2) (Turns.refl _ V5) rfl _ _⟩
    have STP := Lib.hid stp; clear stp
    go_wp2_with fail
    all_goals first
      | (obtain ⟨b1, b2, b3, b4⟩ := STP.out (x.ls - 1) (by omega) (by omega); have tc := fun b o v (hb : b ≠ g2) (h : V5.cell? ⟨b, o, none⟩ = some v) => (b4.cell (Go.Ai.lt_of_cell h) hb).trans h; exact HFIN.out _ _ _ rfl rfl rfl rfl rfl rfl rfl rfl b1 b2 b3 (Below.trans hk05 (b4.toBelow (n := W.heap.size) (by rintro b rfl; omega) (by omega))) (tc _ _ _ (by omega) x0) (tc _ _ _ (by omega) x1) (tc _ _ _ (by omega) x2) (tc _ _ _ (by omega) hyv) (tc _ _ _ (by omega) hy1) (tc _ _ _ (by omega) hy2))
      | (obtain ⟨b1, b2, b3, b4⟩ := STP.out 0 (by omega) (by omega); have tc := fun b o v (hb : b ≠ g2) (h : V5.cell? ⟨b, o, none⟩ = some v) => (b4.cell (Go.Ai.lt_of_cell h) hb).trans h; exact HFIN.out _ _ _ rfl rfl rfl rfl rfl rfl rfl rfl b1 b2 b3 (Below.trans hk05 (b4.toBelow (n := W.heap.size) (by rintro b rfl; omega) (by omega))) (tc _ _ _ (by omega) x0) (tc _ _ _ (by omega) x1) (tc _ _ _ (by omega) x2) (tc _ _ _ (by omega) hyv) (tc _ _ _ (by omega) hy1) (tc _ _ _ (by omega) hy2))
  · have hwr1 : IntKind.i64.wrap (x.h1 + 1) = x.h1 + 1 := IntWalk.i64_in _ (by omega)
    have hwr0 : IntKind.i64.wrap (x.h0 + 1) = x.h0 + 1 := IntWalk.i64_in _ (by omega)
    by_cases hc : x.h1 + 1 < 40
    · skip
      go_wp2_with fail
      have e6 : Turns (fun b => b = g2) V5 (V5.setCell ⟨g2, boy * 11 + 2 + 1, none⟩ (.int .i64 (x.h1 + 1))) := Turns.setCell (T := fun b => b = g2) (Turns.refl _ V5) rfl _ _
      have v1 : (V5.setCell ⟨g2, boy * 11 + 2 + 1, none⟩ (.int .i64 (x.h1 + 1))).cell? ⟨g2, boy * 11 + 2 + 1, none⟩ = some (.int .i64 (x.h1 + 1)) := cell_set_eq c3
      have v0 : (V5.setCell ⟨g2, boy * 11 + 2 + 1, none⟩ (.int .i64 (x.h1 + 1))).cell? ⟨g2, boy * 11 + 2, none⟩ = some (.int .i64 x.h0) := (cell_set_ne (by omega)).trans c2
      have vf : (V5.setCell ⟨g2, boy * 11 + 2 + 1, none⟩ (.int .i64 (x.h1 + 1))).frozen? ⟨g2, boy * 11 + 2, none⟩ = false := by rw [World.frozen?_setCell]; exact hfr5 _
      have vb : BoysAt (V5.setCell ⟨g2, boy * 11 + 2 + 1, none⟩ (.int .i64 (x.h1 + 1))) g2 0 (B.boys.set boy { x with h1 := x.h1 + 1 }) := boysAt_set hbo5 hx (k := 3) (by omega) rfl
      have e6' := Lib.hid e6; clear e6
      generalize V5.setCell ⟨g2, boy * 11 + 2 + 1, none⟩ (.int .i64 (x.h1 + 1)) = V6 at *
      obtain ⟨lv, hlv⟩ : ∃ lv, lv = min (x.h1 + 1) (x.h0 + 1) := ⟨_, rfl⟩
      obtain ⟨W7, hW7⟩ : ∃ W7, W7 = V6.drew.setCell ⟨g2, boy * 11 + 2, none⟩ (.int .i64 lv) := ⟨_, rfl⟩
      have hmin : (if x.h0 + 1 < x.h1 + 1 then x.h0 + 1 else x.h1 + 1) = lv := by rw [hlv]; split <;> omega
      have hmin2 : (if x.h0 < x.h1 then x.h0 + 1 else x.h1 + 1) = lv := by rw [hlv]; split <;> omega
      have HW7 := Lib.hid hW7; clear hW7
      have HLV := Lib.hid hlv; clear hlv
      have hz6 := Go.Ai.lt_of_cell v0
      refine (wpIn_wide (n := 0)).1 (wpIn_region_invL (StL 16 (fun j => match j with | 5 => .int .i64 (x.h1 + 1) | 10 => .int .i64 x.h0 | 11 => .int .i64 (x.h0 + 1) | 12 => .int .i64 lv | 3 => .pointer (some ⟨g2, boy * 11 + 2, none⟩) | 8 => .pointer (some ⟨g2, boy * 11 + 2, none⟩) | 14 => .pointer (some ⟨g2, boy * 11 + 2, none⟩) | 4 => .pointer (some ⟨g2, boy * 11 + 2 + 1, none⟩) | 9 => .pointer (some ⟨g2, boy * 11 + 2, none⟩) | 15 => .pointer (some ⟨g2, boy * 11 + 2, none⟩) | _ => .pointer (some ⟨g2, boy * 11, none⟩)) V6 W7) (by kernel_rfl) (by kernel_rfl) StL.start ?hop ?hend)
      case hop =>
        rintro i o listed a w hl ho h1 h2 hcl hst
        have hi17 : i < 17 := (List.getElem?_eq_some_iff.1 ho).1
        match i, ho with
        | 0, ho =>
          have st := StL.pure (by kernel_rfl) hst ho h1 (by omega)
          have ST := Lib.hid st; clear st
          have hwd := (hst.world h1 (by omega)).2
          have kd : Kept V6 w := hwd ▸ kept_drew (kept_refl V6)
          clear hwd
          have ha := hst.1
          cases ho
          rw [if_pos (by rfl)]
          have t10 := ha.old 10 (by kernel_rfl)
          simp at t10
          go_simp
          exact ST.out
        | 1, ho =>
          have st := StL.pure (by kernel_rfl) hst ho h1 (by omega)
          have ST := Lib.hid st; clear st
          have hwd := (hst.world h1 (by omega)).2
          have kd : Kept V6 w := hwd ▸ kept_drew (kept_refl V6)
          clear hwd
          have ha := hst.1
          cases ho
          rw [if_pos (by rfl)]
          have t10 := ha.old 10 (by kernel_rfl)
          simp at t10
          go_simp
          exact ST.out
        | 2, ho =>
          have st := StL.pure (by kernel_rfl) hst ho h1 (by omega)
          have ST := Lib.hid st; clear st
          have hwd := (hst.world h1 (by omega)).2
          have kd : Kept V6 w := hwd ▸ kept_drew (kept_refl V6)
          clear hwd
          have ha := hst.1
          cases ho
          rw [if_pos (by rfl)]
          have t64 := ha.new 1 (h2 ⟨1, .data⟩ (by simp) rfl) (d := 64) rfl rfl (by simp)
          simp at t64
          go_simp
          exact ST.out
        | 3, ho =>
          have st := StL.pure (by kernel_rfl) hst ho h1 (by omega)
          have ST := Lib.hid st; clear st
          have hwd := (hst.world h1 (by omega)).2
          have kd : Kept V6 w := hwd ▸ kept_drew (kept_refl V6)
          clear hwd
          have ha := hst.1
          cases ho
          rw [if_pos (by rfl)]
          have t65 := ha.new 2 (h2 ⟨2, .data⟩ (by simp) rfl) (d := 65) rfl rfl (by simp)
          simp at t65
          go_simp
          exact ST.out
        | 4, ho =>
          have st := StL.pure (by kernel_rfl) hst ho h1 (by omega)
          have ST := Lib.hid st; clear st
          have hwd := (hst.world h1 (by omega)).2
          have kd : Kept V6 w := hwd ▸ kept_drew (kept_refl V6)
          clear hwd
          have ha := hst.1
          cases ho
          rw [if_pos (by rfl)]
          have t66 := ha.new 3 (h2 ⟨3, .data⟩ (by simp) rfl) (d := 66) rfl rfl (by simp)
          simp at t66
          go_simp
          exact ST.out
        | 5, ho =>
          have st := StL.pure (by kernel_rfl) hst ho h1 (by omega)
          have ST := Lib.hid st; clear st
          have hwd := (hst.world h1 (by omega)).2
          have kd : Kept V6 w := hwd ▸ kept_drew (kept_refl V6)
          clear hwd
          have ha := hst.1
          cases ho
          rw [if_pos (by rfl)]
          have t67 := ha.new 4 (h2 ⟨4, .data⟩ (by simp) rfl) (d := 67) rfl rfl (by simp)
          simp at t67
          have c0 := kcell kd v1
          go_simp
          exact ST.out
        | 6, ho =>
          have st := StL.pure (by kernel_rfl) hst ho h1 (by omega)
          have ST := Lib.hid st; clear st
          have hwd := (hst.world h1 (by omega)).2
          have kd : Kept V6 w := hwd ▸ kept_drew (kept_refl V6)
          clear hwd
          have ha := hst.1
          cases ho
          rw [if_pos (by rfl)]
          have t10 := ha.old 10 (by kernel_rfl)
          simp at t10
          go_simp
          exact ST.out
        | 7, ho =>
          have st := StL.pure (by kernel_rfl) hst ho h1 (by omega)
          have ST := Lib.hid st; clear st
          have hwd := (hst.world h1 (by omega)).2
          have kd : Kept V6 w := hwd ▸ kept_drew (kept_refl V6)
          clear hwd
          have ha := hst.1
          cases ho
          rw [if_pos (by rfl)]
          have t69 := ha.new 6 (h2 ⟨6, .data⟩ (by simp) rfl) (d := 69) rfl rfl (by simp)
          simp at t69
          go_simp
          exact ST.out
        | 8, ho =>
          have st := StL.pure (by kernel_rfl) hst ho h1 (by omega)
          have ST := Lib.hid st; clear st
          have hwd := (hst.world h1 (by omega)).2
          have kd : Kept V6 w := hwd ▸ kept_drew (kept_refl V6)
          clear hwd
          have ha := hst.1
          cases ho
          rw [if_pos (by rfl)]
          have t70 := ha.new 7 (h2 ⟨7, .data⟩ (by simp) rfl) (d := 70) rfl rfl (by simp)
          simp at t70
          go_simp
          exact ST.out
        | 9, ho =>
          have st := StL.pure (by kernel_rfl) hst ho h1 (by omega)
          have ST := Lib.hid st; clear st
          have hwd := (hst.world h1 (by omega)).2
          have kd : Kept V6 w := hwd ▸ kept_drew (kept_refl V6)
          clear hwd
          have ha := hst.1
          cases ho
          rw [if_pos (by rfl)]
          have t71 := ha.new 8 (h2 ⟨8, .data⟩ (by simp) rfl) (d := 71) rfl rfl (by simp)
          simp at t71
          go_simp
          exact ST.out
        | 10, ho =>
          have st := StL.pure (by kernel_rfl) hst ho h1 (by omega)
          have ST := Lib.hid st; clear st
          have hwd := (hst.world h1 (by omega)).2
          have kd : Kept V6 w := hwd ▸ kept_drew (kept_refl V6)
          clear hwd
          have ha := hst.1
          cases ho
          rw [if_pos (by rfl)]
          have t72 := ha.new 9 (h2 ⟨9, .data⟩ (by simp) rfl) (d := 72) rfl rfl (by simp)
          simp at t72
          have c0 := kcell kd v0
          go_simp
          exact ST.out
        | 11, ho =>
          have st := StL.pure (by kernel_rfl) hst ho h1 (by omega)
          have ST := Lib.hid st; clear st
          have hwd := (hst.world h1 (by omega)).2
          have kd : Kept V6 w := hwd ▸ kept_drew (kept_refl V6)
          clear hwd
          have ha := hst.1
          cases ho
          rw [if_pos (by rfl)]
          have t73 := ha.new 10 (h2 ⟨10, .data⟩ (by simp) rfl) (d := 73) rfl rfl (by simp)
          simp at t73
          go_simp
          exact ST.out
        | 12, ho =>
          have st := StL.pure (by kernel_rfl) hst ho h1 (by omega)
          have ST := Lib.hid st; clear st
          have hwd := (hst.world h1 (by omega)).2
          have kd : Kept V6 w := hwd ▸ kept_drew (kept_refl V6)
          clear hwd
          have ha := hst.1
          cases ho
          rw [if_pos (by rfl)]
          have t68 := ha.new 5 (h2 ⟨5, .data⟩ (by simp) rfl) (d := 68) rfl rfl (by simp)
          simp at t68
          have t74 := ha.new 11 (h2 ⟨11, .data⟩ (by simp) rfl) (d := 74) rfl rfl (by simp)
          simp at t74
          go_simp
          exact ST.out
        | 13, ho =>
          have st := StL.pure (by kernel_rfl) hst ho h1 (by omega)
          have ST := Lib.hid st; clear st
          have hwd := (hst.world h1 (by omega)).2
          have kd : Kept V6 w := hwd ▸ kept_drew (kept_refl V6)
          clear hwd
          have ha := hst.1
          cases ho
          rw [if_pos (by rfl)]
          have t63 := ha.new 0 (h2 ⟨0, .data⟩ (by simp) rfl) (d := 63) rfl rfl (by simp)
          simp at t63
          go_simp
          exact ST.out
        | 14, ho =>
          have st := StL.pure (by kernel_rfl) hst ho h1 (by omega)
          have ST := Lib.hid st; clear st
          have hwd := (hst.world h1 (by omega)).2
          have kd : Kept V6 w := hwd ▸ kept_drew (kept_refl V6)
          clear hwd
          have ha := hst.1
          cases ho
          rw [if_pos (by rfl)]
          have t76 := ha.new 13 (h2 ⟨13, .data⟩ (by simp) rfl) (d := 76) rfl rfl (by simp)
          simp at t76
          go_simp
          exact ST.out
        | 15, ho =>
          have st := StL.pure (by kernel_rfl) hst ho h1 (by omega)
          have ST := Lib.hid st; clear st
          have hwd := (hst.world h1 (by omega)).2
          have kd : Kept V6 w := hwd ▸ kept_drew (kept_refl V6)
          clear hwd
          have ha := hst.1
          cases ho
          rw [if_pos (by rfl)]
          have t77 := ha.new 14 (h2 ⟨14, .data⟩ (by simp) rfl) (d := 77) rfl rfl (by simp)
          simp at t77
          go_simp
          exact ST.out
        | 16, ho =>
          have b15 : on listed 15 = true := h2 ⟨15, .data⟩ (by cases ho; simp) rfl
          have b14 : on listed 14 = true := hcl 15 _ rfl b15 ⟨14, .data⟩ (by simp) rfl
          have b13 : on listed 13 = true := hcl 14 _ rfl b14 ⟨13, .data⟩ (by simp) rfl
          have hb : ∀ j, j < 16 → on listed j = true := fun j hj => by
            rcases (show j = 13 ∨ j = 14 ∨ j = 15 ∨ j = 0 ∨ j = 1 ∨ j = 2 ∨ j = 3 ∨ j = 4 ∨ j = 5 ∨ j = 6 ∨ j = 7 ∨ j = 8 ∨ j = 9 ∨ j = 10 ∨ j = 11 ∨ j = 12 by omega) with rfl | rfl | rfl | rfl | rfl | rfl | rfl | rfl | rfl | rfl | rfl | rfl | rfl | rfl | rfl | rfl
            · exact b13
            · exact b14
            · exact b15
            all_goals exact h2 ⟨_, .phase⟩ (by cases ho; simp) rfl
          obtain ⟨hwd, st⟩ := StL.stored (by kernel_rfl) hst hl ho h1 (by cases ho; rfl) hb
          have kd : Kept V6 w := hwd ▸ kept_drew (kept_refl V6)
          have HWD := Lib.hid hwd; clear hwd
          have ST := Lib.hid st; clear st
          have ha := hst.1
          have t78 := ha.new 15 (hb 15 (by omega)) (d := 78) rfl rfl (by simp)
          simp at t78
          have t75 := ha.new 12 (hb 12 (by omega)) (d := 75) rfl rfl (by simp)
          simp at t75
          cases ho
          rw [if_pos (by rfl)]
          have c0 := kcell kd v0
          have cf := ((kturns kd (fun _ => False)).frozen (Go.Ai.lt_of_cell v0) (fun h => h)).trans vf
          go_simp
          rw [HWD.out, ← HW7.out]
          exact ST.out
      case hend =>
        rintro listed a w hall ⟨ha, -, hw⟩
        rw [show on listed 16 = true from hall 16 (by simp), if_pos rfl] at hw
        subst hw
        have e6 := e6'.out
        have hlv := HLV.out
        rw [HW7.out]
        have e7 : Turns (fun b => b = g2) V6.drew (V6.drew.setCell ⟨g2, boy * 11 + 2, none⟩ (.int .i64 lv)) := Turns.setCell (T := fun b => b = g2) (Turns.refl _ _) rfl _ _
        have ed := kturns (kept_drew (kept_refl V6)) (fun b => b = g2)
        have tc : ∀ b o v, b ≠ g2 → V5.cell? ⟨b, o, none⟩ = some v → (V6.drew.setCell ⟨g2, boy * 11 + 2, none⟩ (.int .i64 lv)).cell? ⟨b, o, none⟩ = some v := fun b o v hb h => by
          have h6 := (e6.cell (Go.Ai.lt_of_cell h) hb).trans h
          have hd := (ed.cell (Go.Ai.lt_of_cell h6) hb).trans h6
          exact (e7.cell (Go.Ai.lt_of_cell hd) hb).trans hd
        have hxs : (B.boys.set boy { x with h1 := x.h1 + 1 })[boy]? = some { x with h1 := x.h1 + 1 } := List.getElem?_set_self hbl
        have hbN : BoysAt (V6.drew.setCell ⟨g2, boy * 11 + 2, none⟩ (.int .i64 lv)) g2 0 (B.boys.set boy { x with h0 := lv, h1 := x.h1 + 1 }) := by
          have := boysAt_set (y := { x with h0 := lv, h1 := x.h1 + 1 }) (vb.kept (kept_drew (kept_refl V6))) hxs (k := 2) (v := lv) (by omega) rfl
          rwa [List.set_set] at this
        have hkN : Kept W (V6.drew.setCell ⟨g2, boy * 11 + 2, none⟩ (.int .i64 lv)) := Below.trans (Below.trans (Below.trans hk05 (e6.toBelow (n := W.heap.size) (by rintro b rfl; omega) (by omega))) (ed.toBelow (n := W.heap.size) (by rintro b rfl; omega) (by have := e6.size; omega))) (e7.toBelow (n := W.heap.size) (by rintro b rfl; omega) (by have := e6.size; have := ed.size; omega))
        have hbet : Better x { x with h0 := lv, h1 := x.h1 + 1 } := ⟨rfl, rfl, rfl, rfl, rfl, rfl, (show x.h0 ≤ lv by omega), (show x.h1 ≤ x.h1 + 1 by omega), (Int.le_refl _), (Int.le_refl _), (Int.le_refl _)⟩
        exact HFIN.out a _ _ ha.size ha.defers (ha.old 4 (by kernel_rfl)) (ha.old 5 (by kernel_rfl)) (ha.old 6 (by kernel_rfl)) (ha.old 7 (by kernel_rfl)) (ha.old 8 (by kernel_rfl)) (ha.old 9 (by kernel_rfl)) hbet (h_ok hxo (by omega) (by omega) (by omega) (by omega)) hbN hkN (tc _ _ _ (by omega) x0) (tc _ _ _ (by omega) x1) (tc _ _ _ (by omega) x2) (tc _ _ _ (by omega) hyv) (tc _ _ _ (by omega) hy1) (tc _ _ _ (by omega) hy2)
    · skip
      go_wp2_with fail
      have e6 : Turns (fun b => b = g2) V5 (V5.setCell ⟨g2, boy * 11 + 2 + 1, none⟩ (.int .i64 (40))) := Turns.setCell (T := fun b => b = g2) (Turns.refl _ V5) rfl _ _
      have v1 : (V5.setCell ⟨g2, boy * 11 + 2 + 1, none⟩ (.int .i64 (40))).cell? ⟨g2, boy * 11 + 2 + 1, none⟩ = some (.int .i64 (40)) := cell_set_eq c3
      have v0 : (V5.setCell ⟨g2, boy * 11 + 2 + 1, none⟩ (.int .i64 (40))).cell? ⟨g2, boy * 11 + 2, none⟩ = some (.int .i64 x.h0) := (cell_set_ne (by omega)).trans c2
      have vf : (V5.setCell ⟨g2, boy * 11 + 2 + 1, none⟩ (.int .i64 (40))).frozen? ⟨g2, boy * 11 + 2, none⟩ = false := by rw [World.frozen?_setCell]; exact hfr5 _
      have vb : BoysAt (V5.setCell ⟨g2, boy * 11 + 2 + 1, none⟩ (.int .i64 (40))) g2 0 (B.boys.set boy { x with h1 := 40 }) := boysAt_set hbo5 hx (k := 3) (by omega) rfl
      have e6' := Lib.hid e6; clear e6
      generalize V5.setCell ⟨g2, boy * 11 + 2 + 1, none⟩ (.int .i64 (40)) = V6 at *
      obtain ⟨lv, hlv⟩ : ∃ lv, lv = min (40) (x.h0 + 1) := ⟨_, rfl⟩
      obtain ⟨W7, hW7⟩ : ∃ W7, W7 = V6.drew.setCell ⟨g2, boy * 11 + 2, none⟩ (.int .i64 lv) := ⟨_, rfl⟩
      have hmin : (if x.h0 + 1 < 40 then x.h0 + 1 else 40) = lv := by rw [hlv]; split <;> omega
      have HW7 := Lib.hid hW7; clear hW7
      have HLV := Lib.hid hlv; clear hlv
      have hz6 := Go.Ai.lt_of_cell v0
      refine (wpIn_wide (n := 0)).1 (wpIn_region_invL (StL 16 (fun j => match j with | 5 => .int .i64 (40) | 10 => .int .i64 x.h0 | 11 => .int .i64 (x.h0 + 1) | 12 => .int .i64 lv | 3 => .pointer (some ⟨g2, boy * 11 + 2, none⟩) | 8 => .pointer (some ⟨g2, boy * 11 + 2, none⟩) | 14 => .pointer (some ⟨g2, boy * 11 + 2, none⟩) | 4 => .pointer (some ⟨g2, boy * 11 + 2 + 1, none⟩) | 9 => .pointer (some ⟨g2, boy * 11 + 2, none⟩) | 15 => .pointer (some ⟨g2, boy * 11 + 2, none⟩) | _ => .pointer (some ⟨g2, boy * 11, none⟩)) V6 W7) (by kernel_rfl) (by kernel_rfl) StL.start ?hop ?hend)
      case hop =>
        rintro i o listed a w hl ho h1 h2 hcl hst
        have hi17 : i < 17 := (List.getElem?_eq_some_iff.1 ho).1
        match i, ho with
        | 0, ho =>
          have st := StL.pure (by kernel_rfl) hst ho h1 (by omega)
          have ST := Lib.hid st; clear st
          have hwd := (hst.world h1 (by omega)).2
          have kd : Kept V6 w := hwd ▸ kept_drew (kept_refl V6)
          clear hwd
          have ha := hst.1
          cases ho
          rw [if_pos (by rfl)]
          have t10 := ha.old 10 (by kernel_rfl)
          simp at t10
          go_simp
          exact ST.out
        | 1, ho =>
          have st := StL.pure (by kernel_rfl) hst ho h1 (by omega)
          have ST := Lib.hid st; clear st
          have hwd := (hst.world h1 (by omega)).2
          have kd : Kept V6 w := hwd ▸ kept_drew (kept_refl V6)
          clear hwd
          have ha := hst.1
          cases ho
          rw [if_pos (by rfl)]
          have t10 := ha.old 10 (by kernel_rfl)
          simp at t10
          go_simp
          exact ST.out
        | 2, ho =>
          have st := StL.pure (by kernel_rfl) hst ho h1 (by omega)
          have ST := Lib.hid st; clear st
          have hwd := (hst.world h1 (by omega)).2
          have kd : Kept V6 w := hwd ▸ kept_drew (kept_refl V6)
          clear hwd
          have ha := hst.1
          cases ho
          rw [if_pos (by rfl)]
          have t64 := ha.new 1 (h2 ⟨1, .data⟩ (by simp) rfl) (d := 64) rfl rfl (by simp)
          simp at t64
          go_simp
          exact ST.out
        | 3, ho =>
          have st := StL.pure (by kernel_rfl) hst ho h1 (by omega)
          have ST := Lib.hid st; clear st
          have hwd := (hst.world h1 (by omega)).2
          have kd : Kept V6 w := hwd ▸ kept_drew (kept_refl V6)
          clear hwd
          have ha := hst.1
          cases ho
          rw [if_pos (by rfl)]
          have t65 := ha.new 2 (h2 ⟨2, .data⟩ (by simp) rfl) (d := 65) rfl rfl (by simp)
          simp at t65
          go_simp
          exact ST.out
        | 4, ho =>
          have st := StL.pure (by kernel_rfl) hst ho h1 (by omega)
          have ST := Lib.hid st; clear st
          have hwd := (hst.world h1 (by omega)).2
          have kd : Kept V6 w := hwd ▸ kept_drew (kept_refl V6)
          clear hwd
          have ha := hst.1
          cases ho
          rw [if_pos (by rfl)]
          have t66 := ha.new 3 (h2 ⟨3, .data⟩ (by simp) rfl) (d := 66) rfl rfl (by simp)
          simp at t66
          go_simp
          exact ST.out
        | 5, ho =>
          have st := StL.pure (by kernel_rfl) hst ho h1 (by omega)
          have ST := Lib.hid st; clear st
          have hwd := (hst.world h1 (by omega)).2
          have kd : Kept V6 w := hwd ▸ kept_drew (kept_refl V6)
          clear hwd
          have ha := hst.1
          cases ho
          rw [if_pos (by rfl)]
          have t67 := ha.new 4 (h2 ⟨4, .data⟩ (by simp) rfl) (d := 67) rfl rfl (by simp)
          simp at t67
          have c0 := kcell kd v1
          go_simp
          exact ST.out
        | 6, ho =>
          have st := StL.pure (by kernel_rfl) hst ho h1 (by omega)
          have ST := Lib.hid st; clear st
          have hwd := (hst.world h1 (by omega)).2
          have kd : Kept V6 w := hwd ▸ kept_drew (kept_refl V6)
          clear hwd
          have ha := hst.1
          cases ho
          rw [if_pos (by rfl)]
          have t10 := ha.old 10 (by kernel_rfl)
          simp at t10
          go_simp
          exact ST.out
        | 7, ho =>
          have st := StL.pure (by kernel_rfl) hst ho h1 (by omega)
          have ST := Lib.hid st; clear st
          have hwd := (hst.world h1 (by omega)).2
          have kd : Kept V6 w := hwd ▸ kept_drew (kept_refl V6)
          clear hwd
          have ha := hst.1
          cases ho
          rw [if_pos (by rfl)]
          have t69 := ha.new 6 (h2 ⟨6, .data⟩ (by simp) rfl) (d := 69) rfl rfl (by simp)
          simp at t69
          go_simp
          exact ST.out
        | 8, ho =>
          have st := StL.pure (by kernel_rfl) hst ho h1 (by omega)
          have ST := Lib.hid st; clear st
          have hwd := (hst.world h1 (by omega)).2
          have kd : Kept V6 w := hwd ▸ kept_drew (kept_refl V6)
          clear hwd
          have ha := hst.1
          cases ho
          rw [if_pos (by rfl)]
          have t70 := ha.new 7 (h2 ⟨7, .data⟩ (by simp) rfl) (d := 70) rfl rfl (by simp)
          simp at t70
          go_simp
          exact ST.out
        | 9, ho =>
          have st := StL.pure (by kernel_rfl) hst ho h1 (by omega)
          have ST := Lib.hid st; clear st
          have hwd := (hst.world h1 (by omega)).2
          have kd : Kept V6 w := hwd ▸ kept_drew (kept_refl V6)
          clear hwd
          have ha := hst.1
          cases ho
          rw [if_pos (by rfl)]
          have t71 := ha.new 8 (h2 ⟨8, .data⟩ (by simp) rfl) (d := 71) rfl rfl (by simp)
          simp at t71
          go_simp
          exact ST.out
        | 10, ho =>
          have st := StL.pure (by kernel_rfl) hst ho h1 (by omega)
          have ST := Lib.hid st; clear st
          have hwd := (hst.world h1 (by omega)).2
          have kd : Kept V6 w := hwd ▸ kept_drew (kept_refl V6)
          clear hwd
          have ha := hst.1
          cases ho
          rw [if_pos (by rfl)]
          have t72 := ha.new 9 (h2 ⟨9, .data⟩ (by simp) rfl) (d := 72) rfl rfl (by simp)
          simp at t72
          have c0 := kcell kd v0
          go_simp
          exact ST.out
        | 11, ho =>
          have st := StL.pure (by kernel_rfl) hst ho h1 (by omega)
          have ST := Lib.hid st; clear st
          have hwd := (hst.world h1 (by omega)).2
          have kd : Kept V6 w := hwd ▸ kept_drew (kept_refl V6)
          clear hwd
          have ha := hst.1
          cases ho
          rw [if_pos (by rfl)]
          have t73 := ha.new 10 (h2 ⟨10, .data⟩ (by simp) rfl) (d := 73) rfl rfl (by simp)
          simp at t73
          go_simp
          exact ST.out
        | 12, ho =>
          have st := StL.pure (by kernel_rfl) hst ho h1 (by omega)
          have ST := Lib.hid st; clear st
          have hwd := (hst.world h1 (by omega)).2
          have kd : Kept V6 w := hwd ▸ kept_drew (kept_refl V6)
          clear hwd
          have ha := hst.1
          cases ho
          rw [if_pos (by rfl)]
          have t68 := ha.new 5 (h2 ⟨5, .data⟩ (by simp) rfl) (d := 68) rfl rfl (by simp)
          simp at t68
          have t74 := ha.new 11 (h2 ⟨11, .data⟩ (by simp) rfl) (d := 74) rfl rfl (by simp)
          simp at t74
          go_simp
          exact ST.out
        | 13, ho =>
          have st := StL.pure (by kernel_rfl) hst ho h1 (by omega)
          have ST := Lib.hid st; clear st
          have hwd := (hst.world h1 (by omega)).2
          have kd : Kept V6 w := hwd ▸ kept_drew (kept_refl V6)
          clear hwd
          have ha := hst.1
          cases ho
          rw [if_pos (by rfl)]
          have t63 := ha.new 0 (h2 ⟨0, .data⟩ (by simp) rfl) (d := 63) rfl rfl (by simp)
          simp at t63
          go_simp
          exact ST.out
        | 14, ho =>
          have st := StL.pure (by kernel_rfl) hst ho h1 (by omega)
          have ST := Lib.hid st; clear st
          have hwd := (hst.world h1 (by omega)).2
          have kd : Kept V6 w := hwd ▸ kept_drew (kept_refl V6)
          clear hwd
          have ha := hst.1
          cases ho
          rw [if_pos (by rfl)]
          have t76 := ha.new 13 (h2 ⟨13, .data⟩ (by simp) rfl) (d := 76) rfl rfl (by simp)
          simp at t76
          go_simp
          exact ST.out
        | 15, ho =>
          have st := StL.pure (by kernel_rfl) hst ho h1 (by omega)
          have ST := Lib.hid st; clear st
          have hwd := (hst.world h1 (by omega)).2
          have kd : Kept V6 w := hwd ▸ kept_drew (kept_refl V6)
          clear hwd
          have ha := hst.1
          cases ho
          rw [if_pos (by rfl)]
          have t77 := ha.new 14 (h2 ⟨14, .data⟩ (by simp) rfl) (d := 77) rfl rfl (by simp)
          simp at t77
          go_simp
          exact ST.out
        | 16, ho =>
          have b15 : on listed 15 = true := h2 ⟨15, .data⟩ (by cases ho; simp) rfl
          have b14 : on listed 14 = true := hcl 15 _ rfl b15 ⟨14, .data⟩ (by simp) rfl
          have b13 : on listed 13 = true := hcl 14 _ rfl b14 ⟨13, .data⟩ (by simp) rfl
          have hb : ∀ j, j < 16 → on listed j = true := fun j hj => by
            rcases (show j = 13 ∨ j = 14 ∨ j = 15 ∨ j = 0 ∨ j = 1 ∨ j = 2 ∨ j = 3 ∨ j = 4 ∨ j = 5 ∨ j = 6 ∨ j = 7 ∨ j = 8 ∨ j = 9 ∨ j = 10 ∨ j = 11 ∨ j = 12 by omega) with rfl | rfl | rfl | rfl | rfl | rfl | rfl | rfl | rfl | rfl | rfl | rfl | rfl | rfl | rfl | rfl
            · exact b13
            · exact b14
            · exact b15
            all_goals exact h2 ⟨_, .phase⟩ (by cases ho; simp) rfl
          obtain ⟨hwd, st⟩ := StL.stored (by kernel_rfl) hst hl ho h1 (by cases ho; rfl) hb
          have kd : Kept V6 w := hwd ▸ kept_drew (kept_refl V6)
          have HWD := Lib.hid hwd; clear hwd
          have ST := Lib.hid st; clear st
          have ha := hst.1
          have t78 := ha.new 15 (hb 15 (by omega)) (d := 78) rfl rfl (by simp)
          simp at t78
          have t75 := ha.new 12 (hb 12 (by omega)) (d := 75) rfl rfl (by simp)
          simp at t75
          cases ho
          rw [if_pos (by rfl)]
          have c0 := kcell kd v0
          have cf := ((kturns kd (fun _ => False)).frozen (Go.Ai.lt_of_cell v0) (fun h => h)).trans vf
          go_simp
          rw [HWD.out, ← HW7.out]
          exact ST.out
      case hend =>
        rintro listed a w hall ⟨ha, -, hw⟩
        rw [show on listed 16 = true from hall 16 (by simp), if_pos rfl] at hw
        subst hw
        have e6 := e6'.out
        have hlv := HLV.out
        rw [HW7.out]
        have e7 : Turns (fun b => b = g2) V6.drew (V6.drew.setCell ⟨g2, boy * 11 + 2, none⟩ (.int .i64 lv)) := Turns.setCell (T := fun b => b = g2) (Turns.refl _ _) rfl _ _
        have ed := kturns (kept_drew (kept_refl V6)) (fun b => b = g2)
        have tc : ∀ b o v, b ≠ g2 → V5.cell? ⟨b, o, none⟩ = some v → (V6.drew.setCell ⟨g2, boy * 11 + 2, none⟩ (.int .i64 lv)).cell? ⟨b, o, none⟩ = some v := fun b o v hb h => by
          have h6 := (e6.cell (Go.Ai.lt_of_cell h) hb).trans h
          have hd := (ed.cell (Go.Ai.lt_of_cell h6) hb).trans h6
          exact (e7.cell (Go.Ai.lt_of_cell hd) hb).trans hd
        have hxs : (B.boys.set boy { x with h1 := 40 })[boy]? = some { x with h1 := 40 } := List.getElem?_set_self hbl
        have hbN : BoysAt (V6.drew.setCell ⟨g2, boy * 11 + 2, none⟩ (.int .i64 lv)) g2 0 (B.boys.set boy { x with h0 := lv, h1 := 40 }) := by
          have := boysAt_set (y := { x with h0 := lv, h1 := 40 }) (vb.kept (kept_drew (kept_refl V6))) hxs (k := 2) (v := lv) (by omega) rfl
          rwa [List.set_set] at this
        have hkN : Kept W (V6.drew.setCell ⟨g2, boy * 11 + 2, none⟩ (.int .i64 lv)) := Below.trans (Below.trans (Below.trans hk05 (e6.toBelow (n := W.heap.size) (by rintro b rfl; omega) (by omega))) (ed.toBelow (n := W.heap.size) (by rintro b rfl; omega) (by have := e6.size; omega))) (e7.toBelow (n := W.heap.size) (by rintro b rfl; omega) (by have := e6.size; have := ed.size; omega))
        have hbet : Better x { x with h0 := lv, h1 := 40 } := ⟨rfl, rfl, rfl, rfl, rfl, rfl, (show x.h0 ≤ lv by omega), (show x.h1 ≤ 40 by omega), (Int.le_refl _), (Int.le_refl _), (Int.le_refl _)⟩
        exact HFIN.out a _ _ ha.size ha.defers (ha.old 4 (by kernel_rfl)) (ha.old 5 (by kernel_rfl)) (ha.old 6 (by kernel_rfl)) (ha.old 7 (by kernel_rfl)) (ha.old 8 (by kernel_rfl)) (ha.old 9 (by kernel_rfl)) hbet (h_ok hxo (by omega) (by omega) (by omega) (by omega)) hbN hkN (tc _ _ _ (by omega) x0) (tc _ _ _ (by omega) x1) (tc _ _ _ (by omega) x2) (tc _ _ _ (by omega) hyv) (tc _ _ _ (by omega) hy1) (tc _ _ _ (by omega) hy2)
end Go.Proofs.YtgffhndedhbjlaaDoor
