/- A part of the proof: contracts of the program's functions for every input. No conditions. -/
import Derived.Test.YthkcgengohoboaaGreatDoorGJ
import Derived.Test.YthkcgengohoboaaGreatDoorGF
set_option linter.all false
namespace Go.Proofs.YthkcgengohoboaaGreatDoor
open Go.RowKit Go.Sort Go.Rg
set_option maxRecDepth 100000
set_option maxHeartbeats 4000000 in
theorem rheir_bad0 (p q : Option Addr) (cap capt : Nat) (B : Book) (boy week lo hi : Int) (er : Int) (W : World) (h : BookAt W p q cap capt B) (hcb : inB boy 0 (B.boys.length - 1) = false) (her : B.err false = er) (hne : (er != 0) = true) :
    Calls Tryz.prog 27 #[B.val p q cap capt, .int .i64 boy, .int .i64 week, .agg #[.int .i64 lo, .int .i64 hi]] W fun e C => e = .returned (.tuple #[.int .i64 0, .int .i64 er]) ∧ Kept W C := by
  have hnb := h.nb
  unfold Book.val
  obtain ⟨hk0, a0, a1, a2⟩ := bk1 W p q cap capt B (Obj.cells #[.int .i64 lo, .int .i64 hi] 32)
  have s0 : ((W.alloc (Obj.cells #[.slice p B.boys.length cap, .int .i64 B.weeks, .slice q B.trials.length capt] 25)).alloc (Obj.cells #[.int .i64 lo, .int .i64 hi] 32)).cell? ⟨W.heap.size + 1, 0, none⟩ = some (.int .i64 lo) := by go_simp
  have s1 : ((W.alloc (Obj.cells #[.slice p B.boys.length cap, .int .i64 B.weeks, .slice q B.trials.length capt] 25)).alloc (Obj.cells #[.int .i64 lo, .int .i64 hi] 32)).cell? ⟨W.heap.size + 1, 1, none⟩ = some (.int .i64 hi) := by go_simp
  have HB := Lib.hid h; clear h
  go_enter Tryz.func27, Tryz.ntmps27
  go_wp2_with fail
  generalize ((W.alloc (Obj.cells #[.slice p B.boys.length cap, .int .i64 B.weeks, .slice q B.trials.length capt] 25)).alloc (Obj.cells #[.int .i64 lo, .int .i64 hi] 32)) = W0 at *
  have hz := Go.Ai.lt_of_cell a0
  have e0 := cell_regrown a0
  have e1 := cell_regrown a1
  have e2 := cell_regrown a2
  have e3 := cell_regrown s0
  have e4 := cell_regrown s1
  have hzs0 := Go.Ai.lt_of_cell s0
  have hc0 := fun d os => Calls.regrown_of (rboy_any p B.boys.length cap (.int .i64 B.weeks) (.slice q B.trials.length capt) boy (grow (redrawn W0 d) os) hnb)
  simp only [hcb] at hc0
  have HC0 := Lib.hid hc0; clear hc0
  have hca := fun d os => Calls.regrown_of (asked_any p q cap capt B false (grow (redrawn W0 d) os) ((HB.out.kept hk0).kept (below_regrown W0 d os)))
  unfold Book.val at hca
  simp only [her] at hca
  have HCA := Lib.hid hca; clear hca
  have HER := Lib.hid her; clear her
  refine wp_region_quiet_below (by kernel_rfl) (by kernel_rfl) ?_
  repeat (any_goals (first | go_big_quiet_skip | quiet_step (first | with_reducible exact HC0.out _ _ | with_reducible exact HCA.out _ _)))
  refine wpQuiet_nil ?_
  rintro _ ⟨⟨dq, osq⟩, rfl⟩
  have hkQ := below_regrown W0 dq osq
  replace a0 := kcell hkQ a0
  replace a1 := kcell hkQ a1
  replace a2 := kcell hkQ a2
  have hk01 := kept_trans hk0 hkQ
  replace s0 := kcell hkQ s0
  replace s1 := kcell hkQ s1
  have hza := Go.Ai.lt_of_cell a0
  have hzs := Go.Ai.lt_of_cell s0
  clear e0 e1 e2 e3 e4 hzs0
  generalize grow (redrawn W0 dq) osq = w1 at *
  go_wp2_with fail
  refine bodyPost_ret (v := .tuple #[.int .i64 0, .int .i64 er]) (by simp [results, Tryz.results27, go_sem]) rfl ⟨rfl, hk01⟩
set_option maxHeartbeats 4000000 in
theorem rheir_bad1 (p q : Option Addr) (cap capt : Nat) (B : Book) (boy week lo hi : Int) (er : Int) (W : World) (h : BookAt W p q cap capt B) (hcb : inB boy 0 (B.boys.length - 1) = true) (hcw : inB week 0 (wrap64 (B.weeks - 1)) = false) (her : B.err false = er) (hne : (er != 0) = true) :
    Calls Tryz.prog 27 #[B.val p q cap capt, .int .i64 boy, .int .i64 week, .agg #[.int .i64 lo, .int .i64 hi]] W fun e C => e = .returned (.tuple #[.int .i64 0, .int .i64 er]) ∧ Kept W C := by
  have hnb := h.nb
  unfold Book.val
  obtain ⟨hk0, a0, a1, a2⟩ := bk1 W p q cap capt B (Obj.cells #[.int .i64 lo, .int .i64 hi] 32)
  have s0 : ((W.alloc (Obj.cells #[.slice p B.boys.length cap, .int .i64 B.weeks, .slice q B.trials.length capt] 25)).alloc (Obj.cells #[.int .i64 lo, .int .i64 hi] 32)).cell? ⟨W.heap.size + 1, 0, none⟩ = some (.int .i64 lo) := by go_simp
  have s1 : ((W.alloc (Obj.cells #[.slice p B.boys.length cap, .int .i64 B.weeks, .slice q B.trials.length capt] 25)).alloc (Obj.cells #[.int .i64 lo, .int .i64 hi] 32)).cell? ⟨W.heap.size + 1, 1, none⟩ = some (.int .i64 hi) := by go_simp
  have HB := Lib.hid h; clear h
  go_enter Tryz.func27, Tryz.ntmps27
  go_wp2_with fail
  generalize ((W.alloc (Obj.cells #[.slice p B.boys.length cap, .int .i64 B.weeks, .slice q B.trials.length capt] 25)).alloc (Obj.cells #[.int .i64 lo, .int .i64 hi] 32)) = W0 at *
  have hz := Go.Ai.lt_of_cell a0
  have e0 := cell_regrown a0
  have e1 := cell_regrown a1
  have e2 := cell_regrown a2
  have e3 := cell_regrown s0
  have e4 := cell_regrown s1
  have hzs0 := Go.Ai.lt_of_cell s0
  have hc0 := fun d os => Calls.regrown_of (rboy_any p B.boys.length cap (.int .i64 B.weeks) (.slice q B.trials.length capt) boy (grow (redrawn W0 d) os) hnb)
  simp only [hcb] at hc0
  have HC0 := Lib.hid hc0; clear hc0
  have hc1 := fun d os => Calls.regrown_of (rweek_any (.slice p B.boys.length cap) (.slice q B.trials.length capt) B.weeks week (grow (redrawn W0 d) os))
  simp only [hcw] at hc1
  have HC1 := Lib.hid hc1; clear hc1
  have hca := fun d os => Calls.regrown_of (asked_any p q cap capt B false (grow (redrawn W0 d) os) ((HB.out.kept hk0).kept (below_regrown W0 d os)))
  unfold Book.val at hca
  simp only [her] at hca
  have HCA := Lib.hid hca; clear hca
  have HER := Lib.hid her; clear her
  refine wp_region_quiet_below (by kernel_rfl) (by kernel_rfl) ?_
  repeat (any_goals (first | go_big_quiet_skip | quiet_step (first | with_reducible exact HC0.out _ _ | with_reducible exact HC1.out _ _ | with_reducible exact HCA.out _ _)))
  refine wpQuiet_nil ?_
  rintro _ ⟨⟨dq, osq⟩, rfl⟩
  have hkQ := below_regrown W0 dq osq
  replace a0 := kcell hkQ a0
  replace a1 := kcell hkQ a1
  replace a2 := kcell hkQ a2
  have hk01 := kept_trans hk0 hkQ
  replace s0 := kcell hkQ s0
  replace s1 := kcell hkQ s1
  have hza := Go.Ai.lt_of_cell a0
  have hzs := Go.Ai.lt_of_cell s0
  clear e0 e1 e2 e3 e4 hzs0
  generalize grow (redrawn W0 dq) osq = w1 at *
  go_wp2_with fail
  refine bodyPost_ret (v := .tuple #[.int .i64 0, .int .i64 er]) (by simp [results, Tryz.results27, go_sem]) rfl ⟨rfl, hk01⟩
set_option maxHeartbeats 4000000 in
theorem rheir_bad2 (p q : Option Addr) (cap capt : Nat) (B : Book) (boy week lo hi : Int) (er : Int) (W : World) (h : BookAt W p q cap capt B) (hcb : inB boy 0 (B.boys.length - 1) = true) (hcw : inB week 0 (wrap64 (B.weeks - 1)) = true) (hcs : fairB lo hi 40 40 = false) (her : B.err false = er) (hne : (er != 0) = true) :
    Calls Tryz.prog 27 #[B.val p q cap capt, .int .i64 boy, .int .i64 week, .agg #[.int .i64 lo, .int .i64 hi]] W fun e C => e = .returned (.tuple #[.int .i64 0, .int .i64 er]) ∧ Kept W C := by
  have hnb := h.nb
  unfold Book.val
  obtain ⟨hk0, a0, a1, a2⟩ := bk1 W p q cap capt B (Obj.cells #[.int .i64 lo, .int .i64 hi] 32)
  have s0 : ((W.alloc (Obj.cells #[.slice p B.boys.length cap, .int .i64 B.weeks, .slice q B.trials.length capt] 25)).alloc (Obj.cells #[.int .i64 lo, .int .i64 hi] 32)).cell? ⟨W.heap.size + 1, 0, none⟩ = some (.int .i64 lo) := by go_simp
  have s1 : ((W.alloc (Obj.cells #[.slice p B.boys.length cap, .int .i64 B.weeks, .slice q B.trials.length capt] 25)).alloc (Obj.cells #[.int .i64 lo, .int .i64 hi] 32)).cell? ⟨W.heap.size + 1, 1, none⟩ = some (.int .i64 hi) := by go_simp
  have HB := Lib.hid h; clear h
  go_enter Tryz.func27, Tryz.ntmps27
  go_wp2_with fail
  generalize ((W.alloc (Obj.cells #[.slice p B.boys.length cap, .int .i64 B.weeks, .slice q B.trials.length capt] 25)).alloc (Obj.cells #[.int .i64 lo, .int .i64 hi] 32)) = W0 at *
  have hz := Go.Ai.lt_of_cell a0
  have e0 := cell_regrown a0
  have e1 := cell_regrown a1
  have e2 := cell_regrown a2
  have e3 := cell_regrown s0
  have e4 := cell_regrown s1
  have hzs0 := Go.Ai.lt_of_cell s0
  have hc0 := fun d os => Calls.regrown_of (rboy_any p B.boys.length cap (.int .i64 B.weeks) (.slice q B.trials.length capt) boy (grow (redrawn W0 d) os) hnb)
  simp only [hcb] at hc0
  have HC0 := Lib.hid hc0; clear hc0
  have hc1 := fun d os => Calls.regrown_of (rweek_any (.slice p B.boys.length cap) (.slice q B.trials.length capt) B.weeks week (grow (redrawn W0 d) os))
  simp only [hcw] at hc1
  have HC1 := Lib.hid hc1; clear hc1
  have hc2 := fun d os => Calls.regrown_of (fair_gen lo hi 40 40 (grow (redrawn W0 d) os) (by omega))
  simp only [hcs] at hc2
  have HC2 := Lib.hid hc2; clear hc2
  have hca := fun d os => Calls.regrown_of (asked_any p q cap capt B false (grow (redrawn W0 d) os) ((HB.out.kept hk0).kept (below_regrown W0 d os)))
  unfold Book.val at hca
  simp only [her] at hca
  have HCA := Lib.hid hca; clear hca
  have HER := Lib.hid her; clear her
  refine wp_region_quiet_below (by kernel_rfl) (by kernel_rfl) ?_
  repeat (any_goals (first | go_big_quiet_skip | quiet_step (first | with_reducible exact HC0.out _ _ | with_reducible exact HC1.out _ _ | with_reducible exact HC2.out _ _ | with_reducible exact HCA.out _ _)))
  refine wpQuiet_nil ?_
  rintro _ ⟨⟨dq, osq⟩, rfl⟩
  have hkQ := below_regrown W0 dq osq
  replace a0 := kcell hkQ a0
  replace a1 := kcell hkQ a1
  replace a2 := kcell hkQ a2
  have hk01 := kept_trans hk0 hkQ
  replace s0 := kcell hkQ s0
  replace s1 := kcell hkQ s1
  have hza := Go.Ai.lt_of_cell a0
  have hzs := Go.Ai.lt_of_cell s0
  clear e0 e1 e2 e3 e4 hzs0
  generalize grow (redrawn W0 dq) osq = w1 at *
  go_wp2_with fail
  refine bodyPost_ret (v := .tuple #[.int .i64 0, .int .i64 er]) (by simp [results, Tryz.results27, go_sem]) rfl ⟨rfl, hk01⟩
set_option maxHeartbeats 4000000 in
theorem rheir_bad3 (p q : Option Addr) (cap capt : Nat) (B : Book) (boy week lo hi : Int) (er : Int) (W : World) (h : BookAt W p q cap capt B) (hcb : inB boy 0 (B.boys.length - 1) = true) (hcw : inB week 0 (wrap64 (B.weeks - 1)) = true) (hcs : fairB lo hi 40 40 = true) (her : B.err true = er) (hne : (er != 0) = true) :
    Calls Tryz.prog 27 #[B.val p q cap capt, .int .i64 boy, .int .i64 week, .agg #[.int .i64 lo, .int .i64 hi]] W fun e C => e = .returned (.tuple #[.int .i64 0, .int .i64 er]) ∧ Kept W C := by
  have hnb := h.nb
  unfold Book.val
  obtain ⟨hk0, a0, a1, a2⟩ := bk1 W p q cap capt B (Obj.cells #[.int .i64 lo, .int .i64 hi] 32)
  have s0 : ((W.alloc (Obj.cells #[.slice p B.boys.length cap, .int .i64 B.weeks, .slice q B.trials.length capt] 25)).alloc (Obj.cells #[.int .i64 lo, .int .i64 hi] 32)).cell? ⟨W.heap.size + 1, 0, none⟩ = some (.int .i64 lo) := by go_simp
  have s1 : ((W.alloc (Obj.cells #[.slice p B.boys.length cap, .int .i64 B.weeks, .slice q B.trials.length capt] 25)).alloc (Obj.cells #[.int .i64 lo, .int .i64 hi] 32)).cell? ⟨W.heap.size + 1, 1, none⟩ = some (.int .i64 hi) := by go_simp
  have HB := Lib.hid h; clear h
  go_enter Tryz.func27, Tryz.ntmps27
  go_wp2_with fail
  generalize ((W.alloc (Obj.cells #[.slice p B.boys.length cap, .int .i64 B.weeks, .slice q B.trials.length capt] 25)).alloc (Obj.cells #[.int .i64 lo, .int .i64 hi] 32)) = W0 at *
  have hz := Go.Ai.lt_of_cell a0
  have e0 := cell_regrown a0
  have e1 := cell_regrown a1
  have e2 := cell_regrown a2
  have e3 := cell_regrown s0
  have e4 := cell_regrown s1
  have hzs0 := Go.Ai.lt_of_cell s0
  have hc0 := fun d os => Calls.regrown_of (rboy_any p B.boys.length cap (.int .i64 B.weeks) (.slice q B.trials.length capt) boy (grow (redrawn W0 d) os) hnb)
  simp only [hcb] at hc0
  have HC0 := Lib.hid hc0; clear hc0
  have hc1 := fun d os => Calls.regrown_of (rweek_any (.slice p B.boys.length cap) (.slice q B.trials.length capt) B.weeks week (grow (redrawn W0 d) os))
  simp only [hcw] at hc1
  have HC1 := Lib.hid hc1; clear hc1
  have hc2 := fun d os => Calls.regrown_of (fair_gen lo hi 40 40 (grow (redrawn W0 d) os) (by omega))
  simp only [hcs] at hc2
  have HC2 := Lib.hid hc2; clear hc2
  have hca := fun d os => Calls.regrown_of (asked_any p q cap capt B true (grow (redrawn W0 d) os) ((HB.out.kept hk0).kept (below_regrown W0 d os)))
  unfold Book.val at hca
  simp only [her] at hca
  have HCA := Lib.hid hca; clear hca
  have HER := Lib.hid her; clear her
  refine wp_region_quiet_below (by kernel_rfl) (by kernel_rfl) ?_
  repeat (any_goals (first | go_big_quiet_skip | quiet_step (first | with_reducible exact HC0.out _ _ | with_reducible exact HC1.out _ _ | with_reducible exact HC2.out _ _ | with_reducible exact HCA.out _ _)))
  refine wpQuiet_nil ?_
  rintro _ ⟨⟨dq, osq⟩, rfl⟩
  have hkQ := below_regrown W0 dq osq
  replace a0 := kcell hkQ a0
  replace a1 := kcell hkQ a1
  replace a2 := kcell hkQ a2
  have hk01 := kept_trans hk0 hkQ
  replace s0 := kcell hkQ s0
  replace s1 := kcell hkQ s1
  have hza := Go.Ai.lt_of_cell a0
  have hzs := Go.Ai.lt_of_cell s0
  clear e0 e1 e2 e3 e4 hzs0
  generalize grow (redrawn W0 dq) osq = w1 at *
  go_wp2_with fail
  refine bodyPost_ret (v := .tuple #[.int .i64 0, .int .i64 er]) (by simp [results, Tryz.results27, go_sem]) rfl ⟨rfl, hk01⟩
def allTo (B : Book) (bn k : Nat) (x : Boy) (week lo : Int) (m : Nat) : Bool := decide (k ≠ bn) && (List.range m).all fun j => (B.truths k x).all (singsN B week (lo + (j : Int)) (lo + (j : Int)) k)
theorem allTo_succ (B : Book) (bn k : Nat) (x : Boy) (week lo : Int) (m : Nat) : allTo B bn k x week lo (m + 1) = (allTo B bn k x week lo m && (B.truths k x).all (singsN B week (lo + (m : Int)) (lo + (m : Int)) k)) := by
  unfold allTo
  rw [List.range_succ, List.all_append, Bool.and_assoc]
  simp
theorem sings_all_iff {B : Book} {k : Nat} {x : Boy} (week lo hi : Int) (hlh : lo ≤ hi) (M : Nat) (hM : (M : Int) = hi - lo + 1) : (List.range M).all (fun j => (B.truths k x).all (singsN B week (lo + (j : Int)) (lo + (j : Int)) k)) = (B.truths k x).all (singsN B week lo hi k) := by
  rw [Bool.eq_iff_iff]
  simp only [List.all_eq_true, List.mem_range]
  constructor
  · intro h n hn
    have h1 := h 0 (by omega) n hn
    have h2 := h (M - 1) (by omega) n hn
    rw [singsN_iff] at h1 h2 ⊢
    refine ⟨h1.1, by have := h1.2.1; simpa using this, ?_⟩
    have := h2.2.2
    rw [show lo + ((M - 1 : Nat) : Int) = hi by omega] at this
    exact this
  · intro h j hj n hn
    have h1 := h n hn
    rw [singsN_iff] at h1 ⊢
    exact ⟨h1.1, by omega, by omega⟩
theorem heir_some {B : Book} {sb : Nat → List Int → Bool} {len bn k : Nat} (hk : k < len) (hs : surelyB B sb k = true) (hne : k ≠ bn) (hno : ∀ j, j < k → ¬ (surelyB B sb j = true ∧ j ≠ bn)) : heirOf (surelyL B sb len) bn = some k := by
  unfold heirOf surelyL
  rw [List.find?_filter, List.find?_eq_some_iff_getElem]
  refine ⟨by simp [hs, hne], k, by simpa using hk, by simp, fun j hj => ?_⟩
  have := hno j hj
  simp only [List.getElem_range, Bool.not_eq_true', Bool.and_eq_true, Bool.not_eq_true]
  rw [decide_eq_false_iff_not]
  exact fun ⟨h1, h2⟩ => this ⟨h1, of_decide_eq_true h2⟩
theorem heir_none {B : Book} {sb : Nat → List Int → Bool} {len bn : Nat} (hno : ∀ j, j < len → ¬ (surelyB B sb j = true ∧ j ≠ bn)) : heirOf (surelyL B sb len) bn = none := by
  unfold heirOf surelyL
  rw [List.find?_filter, List.find?_eq_none]
  intro j hj
  have := hno j (List.mem_range.1 hj)
  simp only [Bool.and_eq_true, decide_eq_true_eq]
  exact fun h => this h
def heirR (o : Option Nat) : Value := match o with
  | some b => .tuple #[.int .i64 (b : Int), .int .i64 0]
  | none => .tuple #[.int .i64 0, .int .i64 4]
set_option maxHeartbeats 16000000 in
theorem rheir_good (p q : Option Addr) (cap capt : Nat) (B : Book) (bn : Nat) (boy week lo hi : Int) (W : World) (h : BookAt W p q cap capt B) (hbn : boy = (bn : Int)) (hcb : inB boy 0 (B.boys.length - 1) = true) (hcw : inB week 0 (wrap64 (B.weeks - 1)) = true) (hcs : fairB lo hi 40 40 = true) (hwk : 0 ≤ week ∧ week < B.weeks) (hok : B.okB = true) (hcan : Can B) (her : B.err true = 0) :
    Calls Tryz.prog 27 #[B.val p q cap capt, .int .i64 boy, .int .i64 week, .agg #[.int .i64 lo, .int .i64 hi]] W fun e C => e = .returned (heirR (heirOf (surelyL B (singsN B week lo hi) B.boys.length) bn)) ∧ Kept W C := by
  obtain ⟨⟨q1, q2, q3, q4, q5⟩, -, -⟩ := okB_boys hok
  have hsp : 0 ≤ lo ∧ lo ≤ hi ∧ hi ≤ 40 := by
    simp only [fairB, Bool.and_eq_true, decide_eq_true_eq] at hcs
    omega
  have HCAN := Lib.hid hcan; clear hcan
  have HOK := Lib.hid hok; clear hok
  have HBN := Lib.hid hbn; clear hbn
  obtain ⟨rv, hrv⟩ : ∃ rv, rv = heirR (heirOf (surelyL B (singsN B week lo hi) B.boys.length) bn) := ⟨_, rfl⟩
  rw [← hrv]
  have HRV := Lib.hid hrv; clear hrv
  have hnb := h.nb
  unfold Book.val
  obtain ⟨hk0, a0, a1, a2⟩ := bk1 W p q cap capt B (Obj.cells #[.int .i64 lo, .int .i64 hi] 32)
  have s0 : ((W.alloc (Obj.cells #[.slice p B.boys.length cap, .int .i64 B.weeks, .slice q B.trials.length capt] 25)).alloc (Obj.cells #[.int .i64 lo, .int .i64 hi] 32)).cell? ⟨W.heap.size + 1, 0, none⟩ = some (.int .i64 lo) := by go_simp
  have s1 : ((W.alloc (Obj.cells #[.slice p B.boys.length cap, .int .i64 B.weeks, .slice q B.trials.length capt] 25)).alloc (Obj.cells #[.int .i64 lo, .int .i64 hi] 32)).cell? ⟨W.heap.size + 1, 1, none⟩ = some (.int .i64 hi) := by go_simp
  have HB := Lib.hid h; clear h
  go_enter Tryz.func27, Tryz.ntmps27
  go_wp2_with fail
  generalize ((W.alloc (Obj.cells #[.slice p B.boys.length cap, .int .i64 B.weeks, .slice q B.trials.length capt] 25)).alloc (Obj.cells #[.int .i64 lo, .int .i64 hi] 32)) = W0 at *
  have hz := Go.Ai.lt_of_cell a0
  have e0 := cell_regrown a0
  have e1 := cell_regrown a1
  have e2 := cell_regrown a2
  have e3 := cell_regrown s0
  have e4 := cell_regrown s1
  have hzs0 := Go.Ai.lt_of_cell s0
  have hc0 := fun d os => Calls.regrown_of (rboy_any p B.boys.length cap (.int .i64 B.weeks) (.slice q B.trials.length capt) boy (grow (redrawn W0 d) os) hnb)
  simp only [hcb] at hc0
  have HC0 := Lib.hid hc0; clear hc0
  have hc1 := fun d os => Calls.regrown_of (rweek_any (.slice p B.boys.length cap) (.slice q B.trials.length capt) B.weeks week (grow (redrawn W0 d) os))
  simp only [hcw] at hc1
  have HC1 := Lib.hid hc1; clear hc1
  have hc2 := fun d os => Calls.regrown_of (fair_gen lo hi 40 40 (grow (redrawn W0 d) os) (by omega))
  simp only [hcs] at hc2
  have HC2 := Lib.hid hc2; clear hc2
  have hca := fun d os => Calls.regrown_of (asked_any p q cap capt B true (grow (redrawn W0 d) os) ((HB.out.kept hk0).kept (below_regrown W0 d os)))
  unfold Book.val at hca
  simp only [her] at hca
  have HCA := Lib.hid hca; clear hca
  have HER := Lib.hid her; clear her
  refine wp_region_quiet_below (by kernel_rfl) (by kernel_rfl) ?_
  repeat (any_goals (first | go_big_quiet_skip | quiet_step (first | with_reducible exact HC0.out _ _ | with_reducible exact HC1.out _ _ | with_reducible exact HC2.out _ _ | with_reducible exact HCA.out _ _)))
  refine wpQuiet_nil ?_
  rintro _ ⟨⟨dq, osq⟩, rfl⟩
  have hkQ := below_regrown W0 dq osq
  replace a0 := kcell hkQ a0
  replace a1 := kcell hkQ a1
  replace a2 := kcell hkQ a2
  have hk01 := kept_trans hk0 hkQ
  replace s0 := kcell hkQ s0
  replace s1 := kcell hkQ s1
  have hza := Go.Ai.lt_of_cell a0
  have hzs := Go.Ai.lt_of_cell s0
  clear e0 e1 e2 e3 e4 hzs0
  generalize grow (redrawn W0 dq) osq = w1 at *
  go_wp2_with fail
  go_loopw [11] (fun i V => ∃ k : Nat, k ≤ B.boys.length ∧ i = .int .i64 k ∧ (∀ j, j < k → ¬ (surelyB B (singsN B week lo hi) j = true ∧ j ≠ bn)) ∧ Kept w1 V) (fun i V => B.boys.length - (intOf i).toNat)
  case atStart => exact ⟨0, by omega, by go_num, fun j hj => by omega, kept_refl _⟩
  case round =>
    obtain ⟨k, hk, rfl, hno, hkV⟩ := hrel
    have HNO := Lib.hid hno; clear hno
    have A0 := Lib.hid (kcell hkV a0)
    have A1 := Lib.hid (kcell hkV a1)
    have A2 := Lib.hid (kcell hkV a2)
    have S0 := Lib.hid (kcell hkV s0)
    have S1 := Lib.hid (kcell hkV s1)
    have f0 := A0.out
    have f3 := S0.out
    have f4 := S1.out
    have hzA := Go.Ai.lt_of_cell f0
    have hzS := Go.Ai.lt_of_cell f3
    by_cases hlt : k < B.boys.length
    · have hltI : (k : Int) < B.boys.length := by omega
      obtain ⟨x, hget⟩ : ∃ x, B.boys[k]? = some x := ⟨_, List.getElem?_eq_getElem hlt⟩
      have hL : B.voices k x 0 ≠ [] := fun e => HCAN.out k x hget ((voices_nil HOK.out).1 e)
      have HGT := Lib.hid hget; clear hget
      have HL := Lib.hid hL; clear hL
      have HK := Lib.hid hkV
      go_wp2_with fail
      obtain ⟨V1, hV1⟩ : ∃ V1, V1 = wr := ⟨_, rfl⟩
      subst hV1
      clear f0 f3 f4 hzA hzS a0 a1 a2 s0 s1 hza hzs hz
      go_loopw [12, 13] (fun al nt V => ∃ m : Nat, (m : Int) ≤ hi - lo + 1 ∧ al = .bool (allTo B bn k x week lo m) ∧ nt = .int .i64 (lo + (m : Int)) ∧ Kept V1 V) (fun al nt V => (hi + 1 - intOf nt).toNat)
      case atStart => exact ⟨0, by omega, by simp only [allTo, List.range_zero, List.all_nil, Bool.and_true]; rw [HBN.out]; congr 1; rw [Bool.eq_iff_iff]; simp; omega, by simp, kept_refl _⟩
      case round =>
        obtain ⟨m, hm, rfl, rfl, hkU⟩ := hrel
        have f0 := kcell hkU A0.out
        have f1 := kcell hkU A1.out
        have f2 := kcell hkU A2.out
        have f3 := kcell hkU S0.out
        have f4 := kcell hkU S1.out
        have hzA := Go.Ai.lt_of_cell f0
        have hzS := Go.Ai.lt_of_cell f3
        cases hal : allTo B bn k x week lo m with
        | false =>
          have hbad : ¬ (surelyB B (singsN B week lo hi) k = true ∧ k ≠ bn) := fun ⟨hs, hne⟩ => by
            unfold surelyB at hs
            rw [HGT.out] at hs
            simp only at hs
            rw [← sings_all_iff week lo hi hsp.2.1 (hi - lo + 1).toNat (by omega)] at hs
            rw [List.all_eq_true] at hs
            have : allTo B bn k x week lo m = true := by
              unfold allTo
              rw [Bool.and_eq_true, List.all_eq_true]
              exact ⟨by simpa using hne, fun j hj => hs j (List.mem_range.2 (by have := List.mem_range.1 hj; omega))⟩
            rw [hal] at this; cases this
          have HBAD := Lib.hid hbad; clear hbad hal
          go_wp2_with fail
          go_roundw
          case rel => exact ⟨k + 1, by omega, by go_num, fun j hj => by
            rcases Nat.lt_or_ge j k with h | h
            · exact HNO.out j h
            · obtain rfl : j = k := by omega
              exact HBAD.out, kept_trans HK.out hkU⟩
          case measure => simp [intOf]; omega
        | true =>
          have HAL := Lib.hid hal; clear hal
          obtain ⟨nt, hnt⟩ : ∃ nt, nt = lo + (m : Int) := ⟨_, rfl⟩
          rw [← hnt]
          by_cases hle : nt ≤ hi
          · have hple : decide (nt ≤ hi) = true := by simpa using hle
            have hs := rsings_any p q cap capt B k x week nt wr (HB.out.kept (kept_trans hk01 (kept_trans HK.out hkU))) HOK.out HGT.out (by omega)
            rw [oftenV_eq HOK.out HGT.out HL.out week nt] at hs
            unfold Book.val at hs
            have HST := Lib.hid (show allTo B bn k x week lo (m + 1) = (oftenOf (B.truths k x) (singsN B week nt nt k) == 2) from by rw [allTo_succ, HAL.out, Bool.true_and, ← hnt]; exact (often_two_iff (fun e => HL.out ((voices_nil HOK.out).2 e))).symm)
            generalize oftenOf (B.truths k x) (singsN B week nt nt k) = r at *
            have HS := Lib.hid hs; clear hs
            have hwn : IntKind.i64.wrap (nt + 1) = nt + 1 := IntWalk.i64_in _ (by omega)
            have HNT := Lib.hid hnt
            have hmm : ((m + 1 : Nat) : Int) ≤ hi - lo + 1 := by omega
            have hnt2 := Lib.hid (show nt + 1 = lo + ((m + 1 : Nat) : Int) from by omega)
            clear hnt
            go_wp2_with fail
            with_reducible refine HS.out.mono ?_
            rintro e w3 ⟨rfl, hk3⟩
            clear HS
            have hkU3 := kept_trans hkU hk3
            go_wp2_with fail
            go_roundw
            case rel => exact ⟨m + 1, hmm, by rw [HST.out], by rw [hnt2.out], hkU3⟩
            case measure => simp [intOf]; omega
          · have hple : decide (nt ≤ hi) = false := by simpa using hle
            have hme : (m : Int) = hi - lo + 1 := by omega
            have hgood : surelyB B (singsN B week lo hi) k = true ∧ k ≠ bn := by
              have ha := HAL.out
              unfold allTo at ha
              rw [Bool.and_eq_true, sings_all_iff week lo hi hsp.2.1 m hme] at ha
              refine ⟨?_, by simpa using ha.1⟩
              unfold surelyB
              rw [HGT.out]
              exact ha.2
            have HR2 := Lib.hid (show rv = .tuple #[.int .i64 (k : Int), .int .i64 0] from by rw [HRV.out, heir_some hlt hgood.1 hgood.2 HNO.out]; rfl)
            clear hgood hnt
            go_wp2_with fail
            refine bodyPost_ret (v := .tuple #[.int .i64 (k : Int), .int .i64 0]) (by simp [results, Tryz.results27, go_sem]) rfl ⟨by rw [HR2.out], kept_trans hk01 (kept_trans HK.out hkU)⟩
    · have hltI : ¬ (k : Int) < B.boys.length := by omega
      obtain rfl : k = B.boys.length := by omega
      have HR2 := Lib.hid (show rv = .tuple #[.int .i64 0, .int .i64 4] from by rw [HRV.out, heir_none HNO.out]; rfl)
      have hkE := kept_trans hk01 hkV
      go_wp2_with fail
      refine bodyPost_ret (v := .tuple #[.int .i64 0, .int .i64 4]) (by simp [results, Tryz.results27, go_sem]) rfl ⟨by rw [HR2.out], hkE⟩
set_option maxHeartbeats 4000000 in
theorem equal_same (v1 v2 : Value) (l : List Nat) (W : World) (h1 : ListAt W v1 l) (h2 : ListAt W v2 l) (hl : l.length ≤ 100) :
    Calls Tryz.prog 23 #[v1, v2] W fun e C => e = .returned (.bool true) ∧ Kept W C := by
  obtain ⟨p1, cap1, e1⟩ := listAt_len h1
  obtain ⟨p2, cap2, e2⟩ := listAt_len h2
  have H1 := Lib.hid h1; clear h1
  have H2 := Lib.hid h2; clear h2
  subst e1
  subst e2
  have hll : ((l.length : Int) == (l.length : Int)) = true := by simp
  go_enter Tryz.func23, Tryz.ntmps23
  go_wp2_with fail
  go_loopw [5, 6] (fun s i V => ∃ k : Nat, k ≤ l.length ∧ s = .bool true ∧ i = .int .i64 k ∧ Kept W V) (fun s i V => l.length - (intOf i).toNat)
  case atStart => exact ⟨0, by omega, by simp, by go_num, kept_refl _⟩
  case round =>
    obtain ⟨k, hk, rfl, rfl, hkV⟩ := hrel
    by_cases hlt : k < l.length
    · have hltI : (k : Int) < l.length := by omega
      obtain ⟨x, hget⟩ : ∃ x, l[k]? = some x := ⟨_, List.getElem?_eq_getElem hlt⟩
      obtain ⟨b1, cq1, e1, -, hc1⟩ := H1.out.resolve_left (fun h => by rw [h.2] at hlt; cases hlt)
      obtain ⟨b2, cq2, e2, -, hc2⟩ := H2.out.resolve_left (fun h => by rw [h.2] at hlt; cases hlt)
      cases e1
      cases e2
      have c1 := hc1 k x hget
      have c2 := hc2 k x hget
      clear hc1 hc2
      have d1 := kcell hkV c1
      have d2 := kcell hkV c2
      have z1 := Go.Ai.lt_of_cell d1
      have z2 := Go.Ai.lt_of_cell d2
      have hxx : ((x : Int) == (x : Int)) = true := by simp
      clear c1 c2 hget
      go_wp2_with fail
      have e1 := cell_regrown d1
      have e2 := cell_regrown d2
      refine wp_region_quiet_below (by kernel_rfl) (by kernel_rfl) ?_
      iterate 10 (any_goals (first | go_big_quiet_skip | quiet_step (fail)))
      refine wpQuiet_nil ?_
      rintro _ ⟨⟨dq, osq⟩, rfl⟩
      have hkQ := kept_trans hkV (below_regrown wr dq osq)
      generalize grow (redrawn wr dq) osq = WQ at *
      go_wp2_with fail
      go_roundw
      case rel => exact ⟨k + 1, by omega, by simp, by go_num, hkQ⟩
      case measure => simp [intOf]; omega
    · have hltI : ¬ (k : Int) < l.length := by omega
      go_wp2_with fail
      refine bodyPost_ret (v := .bool true) (by simp [results, Tryz.results23, go_sem]) rfl ⟨rfl, hkV⟩
end Go.Proofs.YthkcgengohoboaaGreatDoor
namespace Go.Proofs.YthkcgengohoboaaGreatDoor
open Go.RowKit Go.Sort Go.Rg
set_option maxRecDepth 100000
attribute [local go_sem] Oper.semAt_some
set_option maxHeartbeats 4000000 in
theorem must_e0 (p q : Option Addr) (cap capt : Nat) (B : Book) (week : Int) (W : World) (h : BookAt W p q cap capt B) (hg : Nothing W) (hweekT : inB week 0 (wrap64 (B.weeks - 1)) = false) :
    Calls Tryz.prog 24 #[B.val p q cap capt, .int .i64 week] W (ErrQ B (.slice none 0 0) false W) := by
  have hnb := h.nb
  refine callsIn_wide.1 (callsIn_of_wp (n := 0) Tryz.func24 rfl trivial ?_ rfl)
  simp only [Tryz.ntmps24, List.size_toArray, List.length_cons, List.length_nil, Nat.reduceAdd, Nat.reduceSub, Array.replicate_succ, Array.replicate_zero, List.push_toArray, List.append_toArray, List.nil_append, List.cons_append]
  unfold Book.val
  gi_wp2_with fail
  obtain ⟨hk0, a0c, a1c, a2c⟩ := bk1 W p q cap capt B (Obj.cells #[.int .i64 week] 3)
  have wc : ((W.alloc (Obj.cells #[.slice p B.boys.length cap, .int .i64 B.weeks, .slice q B.trials.length capt] 25)).alloc (Obj.cells #[.int .i64 week] 3)).cell? ⟨W.heap.size + 1, 0, none⟩ = some (.int .i64 week) := by go_simp
  generalize ((W.alloc (Obj.cells #[.slice p B.boys.length cap, .int .i64 B.weeks, .slice q B.trials.length capt] 25)).alloc (Obj.cells #[.int .i64 week] 3)) = W0 at *
  refine wpIn_region_invL (StO 4 (fun j => match j with | 0 => (.agg #[.slice p B.boys.length cap, .int .i64 B.weeks, .slice q B.trials.length capt]) | 1 => (.agg #[.slice p B.boys.length cap, .int .i64 B.weeks, .slice q B.trials.length capt]) | 2 => .int .i64 week | 3 => .bool false | _ => undef) W0 B false) (by kernel_rfl) (by kernel_rfl) StO.start ?hop ?hend
  case hop =>
    rintro i o listed a w hl ho h1 h2 hcl ⟨v, err, pp, ha, hw⟩
    have hi11 : i < 11 := (List.getElem?_eq_some_iff.1 ho).1
    match i, ho with
    | 0, ho =>
      have ST := StO.sm (by kernel_rfl) ha hw ho h1 (by decide)
      cases ho
      rw [if_pos (by rfl)]
      have t2 := ha.old 2 (by kernel_rfl)
      simp at t2
      have r0 := kcell hw.kept a0c
      have r1 := kcell hw.kept a1c
      have r2 := kcell hw.kept a2c
      go_simp
      exact ST.out
    | 1, ho =>
      have ST := StO.sm (by kernel_rfl) ha hw ho h1 (by decide)
      cases ho
      rw [if_pos (by rfl)]
      have t2 := ha.old 2 (by kernel_rfl)
      simp at t2
      have r0 := kcell hw.kept a0c
      have r1 := kcell hw.kept a1c
      have r2 := kcell hw.kept a2c
      go_simp
      exact ST.out
    | 2, ho =>
      have ST := StO.sm (by kernel_rfl) ha hw ho h1 (by decide)
      cases ho
      rw [if_pos (by rfl)]
      have t3 := ha.old 3 (by kernel_rfl)
      simp at t3
      have rw0 := kcell hw.kept wc
      go_simp
      exact ST.out
    | 3, ho =>
      have st := fun w' (k : Kept w w') => StO.same (by kernel_rfl) ha hw ho h1 (by omega) (by omega) (by omega) k
      have ST := Lib.hid st; clear st
      cases ho
      rw [if_pos (by rfl)]
      have t10 := ha.new 1 (h2 ⟨1, .data⟩ (by simp) rfl) (d := 10) rfl rfl (by simp)
      simp [openVs] at t10
      have t11 := ha.new 2 (h2 ⟨2, .data⟩ (by simp) rfl) (d := 11) rfl rfl (by simp)
      simp [openVs] at t11
      have hcall := isWeek_gen (.slice p B.boys.length cap) (.slice q B.trials.length capt) B.weeks week w
      rw [hweekT] at hcall
      go_simp
      refine ⟨trivial, rfl, (callsIn_wide.2 hcall).mono ?_⟩
      rintro e w' ⟨rfl, hk⟩
      exact ST.out _ hk
    | 4, ho =>
      obtain ⟨n5, n6, n7, n9, n10⟩ := open_first hcl h1 ⟨_, rfl, ⟨4, .data⟩, by simp, rfl, rfl⟩ ⟨_, rfl, ⟨5, .data⟩, by simp, rfl, rfl⟩ ⟨_, rfl, ⟨5, .data⟩, by simp, rfl, rfl⟩ ⟨_, rfl, ⟨6, .data⟩, by simp, rfl, rfl⟩ ⟨_, rfl, ⟨7, .data⟩, by simp, rfl, rfl⟩
      have st := fun v' err' w' (k : OpenReg W0 B false v' err' pp true (on listed 8) (on listed 9) w') => StO.opened (by kernel_rfl) ha hl ho h1 n5 n6 n7 n9 n10 k
      have ST := Lib.hid st; clear st
      cases ho
      rw [if_pos (by rfl)]
      have t9 := ha.new 0 (h2 ⟨0, .data⟩ (by simp) rfl) (d := 9) rfl rfl (by simp)
      simp [openVs] at t9
      have t12 := ha.new 3 (h2 ⟨3, .data⟩ (by simp) rfl) (d := 12) rfl rfl (by simp)
      simp [openVs] at t12
      have hcall := open_any p q cap capt B false W w h (kept_trans hk0 hw.kept) (hg.kept (kept_trans hk0 hw.kept))
      unfold Book.val at hcall
      have HOP := Lib.hid (fun e w' => hw.opened (e := e) (w' := w') W.heap.size hk0.size n9)
      go_simp
      refine ⟨trivial, rfl, (callsIn_wide.2 hcall).mono ?_⟩
      intro e w' hop
      obtain ⟨v', err', rfl, hr⟩ := HOP.out e w' hop
      exact ST.out v' err' w' hr
    | 5, ho =>
      have ST := StO.sm (by kernel_rfl) ha hw ho h1 (by decide)
      cases ho
      rw [if_pos (by rfl)]
      have t13 := ha.new 4 (h2 ⟨4, .data⟩ (by simp) rfl) (d := 13) rfl rfl (by simp)
      simp [openVs] at t13
      go_simp
      exact ST.out
    | 6, ho =>
      have ST := StO.sm (by kernel_rfl) ha hw ho h1 (by decide)
      cases ho
      rw [if_pos (by rfl)]
      have t8 := ha.new 5 (h2 ⟨5, .data⟩ (by simp) rfl) (d := 8) rfl rfl (by simp)
      simp [openVs] at t8
      go_simp
      exact ST.out
    | 7, ho =>
      have ST := StO.sm (by kernel_rfl) ha hw ho h1 (by decide)
      cases ho
      rw [if_pos (by rfl)]
      have t8 := ha.new 5 (h2 ⟨5, .data⟩ (by simp) rfl) (d := 8) rfl rfl (by simp)
      simp [openVs] at t8
      go_simp
      exact ST.out
    | 8, ho =>
      have n9 : on listed 9 = false := by
        cases hb : on listed 9 with
        | false => rfl
        | true => have := hcl 9 _ rfl hb ⟨8, .data⟩ (by simp) rfl; rw [on_no h1] at this; cases this
      have st := StO.boxed (by kernel_rfl) ha hw hl ho h1 n9
      have ST := Lib.hid st; clear st
      cases ho
      rw [if_pos (by rfl)]
      go_simp
      exact ST.out
    | 9, ho =>
      have y8 : on listed 8 = true := h2 ⟨8, .data⟩ (by cases ho; simp) rfl
      have y4 : on listed 4 = true := h2 ⟨4, .chain⟩ (by cases ho; simp) rfl
      have t6 := ha.new 8 y8 (d := 6) rfl rfl (by simp)
      simp [openVs] at t6
      have t14 := ha.new 6 (h2 ⟨6, .data⟩ (by cases ho; simp) rfl) (d := 14) rfl rfl (by simp)
      simp [openVs] at t14
      obtain ⟨hbp, ⟨f0, f1, f2, f3, b0, b1, b2, b3⟩, hbf⟩ := hw.box y8
      have bf0 := hbf 0
      have bf1 := hbf 1
      have bf2 := hbf 2
      have bf3 := hbf 3
      rcases hw.res y4 with ⟨_, _, he, _⟩ | ⟨rfl, _⟩
      · cases he
      · have st := StO.stored (by kernel_rfl) ha hw hl ho (by cases ho; rfl) h1 y8 (show zeroChoir = _ from rfl)
        have ST := Lib.hid st; clear st
        cases ho
        rw [if_pos (by rfl)]
        unfold zeroChoir at t14
        clear hbf
        go_simp
        exact ST.out
    | 10, ho =>
      have ST := StO.sm (by kernel_rfl) ha hw ho h1 (by decide)
      cases ho
      rw [if_pos (by rfl)]
      have t15 := ha.new 7 (h2 ⟨7, .data⟩ (by simp) rfl) (d := 15) rfl rfl (by simp)
      simp [openVs] at t15
      go_simp
      exact ST.out
  case hend =>
    rintro listed a w hall ⟨v, err, pp, ha, hw⟩
    rw [show on listed 4 = true from hall 4 (by simp), show on listed 8 = true from hall 8 (by simp), show on listed 9 = true from hall 9 (by simp)] at hw
    obtain ⟨y, hy, hae⟩ := ha.lit (n := 22) rfl
    have y3 := (hy 3).symm.trans (ha.old 3 (by kernel_rfl))
    have y4 := (hy 4).symm.trans (ha.old 4 (by kernel_rfl))
    have y5 := (hy 5).symm.trans (ha.old 5 (by kernel_rfl))
    have y6 := (hy 6).symm.trans (ha.new 8 (hall 8 (by simp)) (d := 6) rfl rfl (by simp))
    have y7 := (hy 7).symm.trans (ha.new 10 (hall 10 (by simp)) (d := 7) rfl rfl (by simp))
    simp at y3 y4 y5
    simp [openVs] at y6 y7
    simp only [List.range, List.range.loop, List.map] at hae
    rw [y3, y4, y5, y6, y7] at hae
    subst hae
    clear ha hy y3 y4 y5 y6 y7
    refine (by assumption : ∀ a w, Code.wpIn _ _ _ _ _ a w → _) _ w ?_
    have wk := kcell hw.kept wc
    obtain ⟨_, x0, x1, x2, x3, hv, b0, b1, b2, b3⟩ := hw.put rfl
    rcases hw.res rfl with ⟨_, _, he, _⟩ | ⟨rfl, herr⟩
    · cases he
    · rcases herr with ⟨rfl, he⟩ | ⟨rfl, he, he2⟩ | ⟨_, _, he, _⟩
      · 
        gi_wp2_with fail
        refine bodyPost_ret (v := .tuple #[.slice none 0 0, .int .i64 20]) (by simp [results, Tryz.results24, go_sem]) rfl ?_
        refine ⟨20, rfl, ?_, .inl ⟨rfl, he⟩⟩
        exact kept_trans hk0 hw.kept
      · 
        gi_wp2_with fail
        refine bodyPost_ret (v := .tuple #[.slice none 0 0, .int .i64 21]) (by simp [results, Tryz.results24, go_sem]) rfl ?_
        refine ⟨21, rfl, ?_, .inr ⟨rfl, he, rfl⟩⟩
        exact kept_trans hk0 hw.kept
      · cases he
set_option maxHeartbeats 4000000 in
theorem must_e1 (p q : Option Addr) (cap capt : Nat) (B : Book) (week : Int) (W : World) (h : BookAt W p q cap capt B) (hg : Nothing W) (hweekT : inB week 0 (wrap64 (B.weeks - 1)) = true) (hok0 : B.okB = false) :
    Calls Tryz.prog 24 #[B.val p q cap capt, .int .i64 week] W (ErrQ B (.slice none 0 0) true W) := by
  have hnb := h.nb
  refine callsIn_wide.1 (callsIn_of_wp (n := 0) Tryz.func24 rfl trivial ?_ rfl)
  simp only [Tryz.ntmps24, List.size_toArray, List.length_cons, List.length_nil, Nat.reduceAdd, Nat.reduceSub, Array.replicate_succ, Array.replicate_zero, List.push_toArray, List.append_toArray, List.nil_append, List.cons_append]
  unfold Book.val
  gi_wp2_with fail
  obtain ⟨hk0, a0c, a1c, a2c⟩ := bk1 W p q cap capt B (Obj.cells #[.int .i64 week] 3)
  have wc : ((W.alloc (Obj.cells #[.slice p B.boys.length cap, .int .i64 B.weeks, .slice q B.trials.length capt] 25)).alloc (Obj.cells #[.int .i64 week] 3)).cell? ⟨W.heap.size + 1, 0, none⟩ = some (.int .i64 week) := by go_simp
  generalize ((W.alloc (Obj.cells #[.slice p B.boys.length cap, .int .i64 B.weeks, .slice q B.trials.length capt] 25)).alloc (Obj.cells #[.int .i64 week] 3)) = W0 at *
  refine wpIn_region_invL (StO 4 (fun j => match j with | 0 => (.agg #[.slice p B.boys.length cap, .int .i64 B.weeks, .slice q B.trials.length capt]) | 1 => (.agg #[.slice p B.boys.length cap, .int .i64 B.weeks, .slice q B.trials.length capt]) | 2 => .int .i64 week | 3 => .bool true | _ => undef) W0 B true) (by kernel_rfl) (by kernel_rfl) StO.start ?hop ?hend
  case hop =>
    rintro i o listed a w hl ho h1 h2 hcl ⟨v, err, pp, ha, hw⟩
    have hi11 : i < 11 := (List.getElem?_eq_some_iff.1 ho).1
    match i, ho with
    | 0, ho =>
      have ST := StO.sm (by kernel_rfl) ha hw ho h1 (by decide)
      cases ho
      rw [if_pos (by rfl)]
      have t2 := ha.old 2 (by kernel_rfl)
      simp at t2
      have r0 := kcell hw.kept a0c
      have r1 := kcell hw.kept a1c
      have r2 := kcell hw.kept a2c
      go_simp
      exact ST.out
    | 1, ho =>
      have ST := StO.sm (by kernel_rfl) ha hw ho h1 (by decide)
      cases ho
      rw [if_pos (by rfl)]
      have t2 := ha.old 2 (by kernel_rfl)
      simp at t2
      have r0 := kcell hw.kept a0c
      have r1 := kcell hw.kept a1c
      have r2 := kcell hw.kept a2c
      go_simp
      exact ST.out
    | 2, ho =>
      have ST := StO.sm (by kernel_rfl) ha hw ho h1 (by decide)
      cases ho
      rw [if_pos (by rfl)]
      have t3 := ha.old 3 (by kernel_rfl)
      simp at t3
      have rw0 := kcell hw.kept wc
      go_simp
      exact ST.out
    | 3, ho =>
      have st := fun w' (k : Kept w w') => StO.same (by kernel_rfl) ha hw ho h1 (by omega) (by omega) (by omega) k
      have ST := Lib.hid st; clear st
      cases ho
      rw [if_pos (by rfl)]
      have t10 := ha.new 1 (h2 ⟨1, .data⟩ (by simp) rfl) (d := 10) rfl rfl (by simp)
      simp [openVs] at t10
      have t11 := ha.new 2 (h2 ⟨2, .data⟩ (by simp) rfl) (d := 11) rfl rfl (by simp)
      simp [openVs] at t11
      have hcall := isWeek_gen (.slice p B.boys.length cap) (.slice q B.trials.length capt) B.weeks week w
      rw [hweekT] at hcall
      go_simp
      refine ⟨trivial, rfl, (callsIn_wide.2 hcall).mono ?_⟩
      rintro e w' ⟨rfl, hk⟩
      exact ST.out _ hk
    | 4, ho =>
      obtain ⟨n5, n6, n7, n9, n10⟩ := open_first hcl h1 ⟨_, rfl, ⟨4, .data⟩, by simp, rfl, rfl⟩ ⟨_, rfl, ⟨5, .data⟩, by simp, rfl, rfl⟩ ⟨_, rfl, ⟨5, .data⟩, by simp, rfl, rfl⟩ ⟨_, rfl, ⟨6, .data⟩, by simp, rfl, rfl⟩ ⟨_, rfl, ⟨7, .data⟩, by simp, rfl, rfl⟩
      have st := fun v' err' w' (k : OpenReg W0 B true v' err' pp true (on listed 8) (on listed 9) w') => StO.opened (by kernel_rfl) ha hl ho h1 n5 n6 n7 n9 n10 k
      have ST := Lib.hid st; clear st
      cases ho
      rw [if_pos (by rfl)]
      have t9 := ha.new 0 (h2 ⟨0, .data⟩ (by simp) rfl) (d := 9) rfl rfl (by simp)
      simp [openVs] at t9
      have t12 := ha.new 3 (h2 ⟨3, .data⟩ (by simp) rfl) (d := 12) rfl rfl (by simp)
      simp [openVs] at t12
      have hcall := open_any p q cap capt B true W w h (kept_trans hk0 hw.kept) (hg.kept (kept_trans hk0 hw.kept))
      unfold Book.val at hcall
      have HOP := Lib.hid (fun e w' => hw.opened (e := e) (w' := w') W.heap.size hk0.size n9)
      go_simp
      refine ⟨trivial, rfl, (callsIn_wide.2 hcall).mono ?_⟩
      intro e w' hop
      obtain ⟨v', err', rfl, hr⟩ := HOP.out e w' hop
      exact ST.out v' err' w' hr
    | 5, ho =>
      have ST := StO.sm (by kernel_rfl) ha hw ho h1 (by decide)
      cases ho
      rw [if_pos (by rfl)]
      have t13 := ha.new 4 (h2 ⟨4, .data⟩ (by simp) rfl) (d := 13) rfl rfl (by simp)
      simp [openVs] at t13
      go_simp
      exact ST.out
    | 6, ho =>
      have ST := StO.sm (by kernel_rfl) ha hw ho h1 (by decide)
      cases ho
      rw [if_pos (by rfl)]
      have t8 := ha.new 5 (h2 ⟨5, .data⟩ (by simp) rfl) (d := 8) rfl rfl (by simp)
      simp [openVs] at t8
      go_simp
      exact ST.out
    | 7, ho =>
      have ST := StO.sm (by kernel_rfl) ha hw ho h1 (by decide)
      cases ho
      rw [if_pos (by rfl)]
      have t8 := ha.new 5 (h2 ⟨5, .data⟩ (by simp) rfl) (d := 8) rfl rfl (by simp)
      simp [openVs] at t8
      go_simp
      exact ST.out
    | 8, ho =>
      have n9 : on listed 9 = false := by
        cases hb : on listed 9 with
        | false => rfl
        | true => have := hcl 9 _ rfl hb ⟨8, .data⟩ (by simp) rfl; rw [on_no h1] at this; cases this
      have st := StO.boxed (by kernel_rfl) ha hw hl ho h1 n9
      have ST := Lib.hid st; clear st
      cases ho
      rw [if_pos (by rfl)]
      go_simp
      exact ST.out
    | 9, ho =>
      have y8 : on listed 8 = true := h2 ⟨8, .data⟩ (by cases ho; simp) rfl
      have y4 : on listed 4 = true := h2 ⟨4, .chain⟩ (by cases ho; simp) rfl
      have t6 := ha.new 8 y8 (d := 6) rfl rfl (by simp)
      simp [openVs] at t6
      have t14 := ha.new 6 (h2 ⟨6, .data⟩ (by cases ho; simp) rfl) (d := 14) rfl rfl (by simp)
      simp [openVs] at t14
      obtain ⟨hbp, ⟨f0, f1, f2, f3, b0, b1, b2, b3⟩, hbf⟩ := hw.box y8
      have bf0 := hbf 0
      have bf1 := hbf 1
      have bf2 := hbf 2
      have bf3 := hbf 3
      rcases hw.res y4 with ⟨_, _, _, _, c, S, hcB, rfl, _⟩ | ⟨rfl, _⟩
      · clear hcB
        have st := StO.stored (by kernel_rfl) ha hw hl ho (by cases ho; rfl) h1 y8 (show c.val = _ from rfl)
        have ST := Lib.hid st; clear st
        cases ho
        rw [if_pos (by rfl)]
        unfold Choir.val at t14
        clear hbf
        go_simp
        exact ST.out
      · have st := StO.stored (by kernel_rfl) ha hw hl ho (by cases ho; rfl) h1 y8 (show zeroChoir = _ from rfl)
        have ST := Lib.hid st; clear st
        cases ho
        rw [if_pos (by rfl)]
        unfold zeroChoir at t14
        clear hbf
        go_simp
        exact ST.out
    | 10, ho =>
      have ST := StO.sm (by kernel_rfl) ha hw ho h1 (by decide)
      cases ho
      rw [if_pos (by rfl)]
      have t15 := ha.new 7 (h2 ⟨7, .data⟩ (by simp) rfl) (d := 15) rfl rfl (by simp)
      simp [openVs] at t15
      go_simp
      exact ST.out
  case hend =>
    rintro listed a w hall ⟨v, err, pp, ha, hw⟩
    rw [show on listed 4 = true from hall 4 (by simp), show on listed 8 = true from hall 8 (by simp), show on listed 9 = true from hall 9 (by simp)] at hw
    obtain ⟨y, hy, hae⟩ := ha.lit (n := 22) rfl
    have y3 := (hy 3).symm.trans (ha.old 3 (by kernel_rfl))
    have y4 := (hy 4).symm.trans (ha.old 4 (by kernel_rfl))
    have y5 := (hy 5).symm.trans (ha.old 5 (by kernel_rfl))
    have y6 := (hy 6).symm.trans (ha.new 8 (hall 8 (by simp)) (d := 6) rfl rfl (by simp))
    have y7 := (hy 7).symm.trans (ha.new 10 (hall 10 (by simp)) (d := 7) rfl rfl (by simp))
    simp at y3 y4 y5
    simp [openVs] at y6 y7
    simp only [List.range, List.range.loop, List.map] at hae
    rw [y3, y4, y5, y6, y7] at hae
    subst hae
    clear ha hy y3 y4 y5 y6 y7
    refine (by assumption : ∀ a w, Code.wpIn _ _ _ _ _ a w → _) _ w ?_
    have wk := kcell hw.kept wc
    obtain ⟨_, x0, x1, x2, x3, hv, b0, b1, b2, b3⟩ := hw.put rfl
    rcases hw.res rfl with ⟨_, hok, _⟩ | ⟨rfl, herr⟩
    · rw [hok0] at hok; cases hok
    · rcases herr with ⟨rfl, he⟩ | ⟨_, he, _⟩ | ⟨_, he, _⟩
      · 
        gi_wp2_with fail
        refine bodyPost_ret (v := .tuple #[.slice none 0 0, .int .i64 20]) (by simp [results, Tryz.results24, go_sem]) rfl ?_
        refine ⟨20, rfl, ?_, .inl ⟨rfl, he⟩⟩
        exact kept_trans hk0 hw.kept
      · rw [hok0] at he; cases he
      · rw [hok0] at he; cases he
end Go.Proofs.YthkcgengohoboaaGreatDoor
namespace Go.Proofs.YthkcgengohoboaaGreatDoor
open Go.RowKit Go.Sort Go.Rg
set_option maxRecDepth 100000
end Go.Proofs.YthkcgengohoboaaGreatDoor
