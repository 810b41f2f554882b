/- A part of the proof: contracts of the program's functions for every input. No conditions. -/
import Derived.Test.YthkcgengohoboaaGreatDoorGG
import Derived.Test.YthkcgengohoboaaGreatDoorGF
import Derived.Test.YthkcgengohoboaaGreatDoorGE
import Derived.Test.YthkcgengohoboaaGreatDoorGC
set_option linter.all false
namespace Go.Proofs.YthkcgengohoboaaGreatDoor
open Go.RowKit Go.Sort Go.Rg
set_option maxRecDepth 100000
section
variable {p q : Option Addr} {cap capt : Nat} {B : Book} {boy : Nat} {W : World} {x : Boy} {week note : Int}
end
def keepL (ts : List Trial) (l : List Nat) : Nat → List Trial
  | 0 => []
  | j + 1 => keepL ts l j ++ (match ts[j]? with
    | some t => if j ∈ l then [] else [t]
    | none => [])
def Book.less (B : Book) (l : List Nat) : Book := ⟨B.boys, B.weeks, keepL B.trials l B.trials.length⟩
end Go.Proofs.YthkcgengohoboaaGreatDoor
namespace Go.Proofs.YthkcgengohoboaaGreatDoor
theorem okB_trials {B : Book} (h : B.okB = true) : B.trials.length ≤ 6 ∧ ∀ t ∈ B.trials, (0 ≤ t.boy ∧ t.boy ≤ (B.boys.length : Int) - 1) ∧ (0 ≤ t.week ∧ t.week ≤ B.weeks - 1) ∧ (0 ≤ t.sang ∧ t.sang ≤ 1) := by
  simp only [Book.okB, inB, Bool.and_eq_true, decide_eq_true_eq, List.all_eq_true] at h
  refine ⟨by omega, fun t ht => ?_⟩
  have := h.2 t ht
  simp only [validTrialB, inB, Bool.and_eq_true, decide_eq_true_eq] at this
  omega
theorem truths_iff {B : Book} (h : B.okB = true) {boy : Nat} {x : Boy} {n : List Int} : n ∈ B.truths boy x ↔ n ∈ (Book.mk B.boys B.weeks []).truths boy x ∧ ∀ t ∈ B.trials, t.boy = (boy : Int) → TBn n x.ls t = false := by
  obtain ⟨-, hT⟩ := okB_trials h
  constructor
  · intro hn
    refine ⟨truths_mono (A := Book.mk B.boys B.weeks []) (B := B) rfl (fun t ht => by cases ht) hn, fun t ht hb => ?_⟩
    obtain ⟨-, hk, -⟩ := mem_truths.1 hn
    obtain ⟨h1, h2, h3⟩ := hT t ht
    unfold kpOf at hk
    rw [List.all_eq_true] at hk
    have h4 := hk t.week.toNat (List.mem_range.2 (by omega))
    simp only [Bool.not_eq_true', List.any_eq_false] at h4
    have h5 := h4 t (List.mem_filter.2 ⟨ht, by simp [hb]; omega⟩)
    unfold TBn
    simpa using h5
  · rintro ⟨hn, hb⟩
    obtain ⟨n0, n1, n2, n3, n4, rfl⟩ := truths_len hn
    obtain ⟨h1, h2, h3⟩ := mem_truths.1 hn
    refine mem_truths.2 ⟨h1, ?_, fun i v hv => ⟨(h3 i v hv).1, (h3 i v hv).2.1, ?_⟩⟩
    · unfold kpOf
      rw [List.all_eq_true]
      intro wk hwk
      simp only [Bool.not_eq_true', List.any_eq_false]
      intro t ht
      obtain ⟨ht1, ht2⟩ := List.mem_filter.1 ht
      simp only [Bool.and_eq_true, decide_eq_true_eq] at ht2
      have := hb t ht1 ht2.1
      unfold TBn at this
      simpa using this
    · unfold fbAt
      rw [List.any_eq_false]
      intro t ht hf
      simp only [forbidsB, Bool.and_eq_true, Bool.or_eq_true, decide_eq_true_eq] at hf
      obtain ⟨⟨f1, f2⟩, f3⟩ := hf
      have h4 := hb t ht f1
      have h5 := hT t ht
      have hs : (t.sang == 1) = true := by simp; omega
      unfold TBn TB beliesB singsB at h4
      rw [hs] at h4
      simp only [List.getD_cons_zero, List.getD_cons_succ] at h4
      rcases f3 with ⟨e, f⟩ | ⟨e, f⟩
      · have e0 : i = 0 := by omega
        subst e0
        cases hv
        have : decide (n0 ≤ t.note) = false := by simp; omega
        rw [this] at h4
        simp at h4
      · have e0 : i = 4 := by omega
        subst e0
        cases hv
        have : decide (t.week < n4) = false := by simp; omega
        rw [this] at h4
        simp at h4
end Go.Proofs.YthkcgengohoboaaGreatDoor
namespace Go.Proofs.YthkcgengohoboaaGreatDoor
open Go.RowKit Go.Sort Go.Rg
set_option maxRecDepth 100000
attribute [local go_sem] Oper.semAt_some
def fairB (a b hi wide : Int) : Bool := decide (0 ≤ a) && decide (a ≤ b) && decide (b ≤ hi) && decide (b - a ≤ wide)
theorem fair_gen (a b hi wide : Int) (w : World) (hh : hi ≤ 100) :
    Calls Tryz.prog 62 #[.agg #[.int .i64 a, .int .i64 b], .int .i64 0, .int .i64 hi, .int .i64 wide] w fun e w' => e = .returned (.bool (fairB a b hi wide)) ∧ Kept w w' := by
  by_cases h1 : 0 ≤ a
  · by_cases h2 : a ≤ b
    · by_cases h3 : b ≤ hi
      · have H : fairB a b hi wide = decide (b - a ≤ wide) := by simp [fairB, h1, h2, h3]
        rw [H]; clear H
        have p1 : decide (0 ≤ a) = true := by simpa using h1
        have p2 : decide (a ≤ b) = true := by simpa using h2
        have p3 : decide (b ≤ hi) = true := by simpa using h3
        have e1 : IntKind.i64.wrap (b - a) = b - a := IntWalk.i64_in _ (by omega)
        go_enter Tryz.func62, Tryz.ntmps62
        go_wp2_with fail
        go_ret
        exact ⟨rfl, kept_alloc (kept_refl _) _⟩
      · have H : fairB a b hi wide = false := by simp [fairB, h3]
        rw [H]; clear H
        have p1 : decide (0 ≤ a) = true := by simpa using h1
        have p2 : decide (a ≤ b) = true := by simpa using h2
        have p3 : decide (b ≤ hi) = false := by simpa using h3
        go_enter Tryz.func62, Tryz.ntmps62
        go_wp2_with fail
        go_ret
        exact ⟨rfl, kept_alloc (kept_refl _) _⟩
    · have H : fairB a b hi wide = false := by simp [fairB, h2]
      rw [H]; clear H
      have p1 : decide (0 ≤ a) = true := by simpa using h1
      have p2 : decide (a ≤ b) = false := by simpa using h2
      go_enter Tryz.func62, Tryz.ntmps62
      go_wp2_with fail
      go_ret
      exact ⟨rfl, kept_alloc (kept_refl _) _⟩
  · have H : fairB a b hi wide = false := by simp [fairB, h1]
    rw [H]; clear H
    have p1 : decide (0 ≤ a) = false := by simpa using h1
    go_enter Tryz.func62, Tryz.ntmps62
    go_wp2_with fail
    go_ret
    exact ⟨rfl, kept_alloc (kept_refl _) _⟩
theorem rboy_any (p : Option Addr) (len cap : Nat) (k1 ts : Value) (n : Int) (w : World) (hl : len ≤ 140737488355328) : Calls Tryz.prog 66 #[.agg #[.slice p len cap, k1, ts], .int .i64 n] w fun e w' => e = .returned (.bool (inB n 0 (len - 1))) ∧ Kept w w' := by
  have e1 : IntKind.i64.wrap ((len : Int) - 1) = (len : Int) - 1 := IntWalk.i64_in _ (by omega)
  go_enter Tryz.func66, Tryz.ntmps66
  go_wp2_with (go_at_call 37; refine (lies_any _ _ _ _).mono ?_; rintro e w' ⟨rfl, rfl⟩)
  go_ret
  exact ⟨rfl, kept_alloc (kept_refl _) _⟩
theorem rweek_any (bs ts : Value) (wk n : Int) (w : World) : Calls Tryz.prog 76 #[.agg #[bs, .int .i64 wk, ts], .int .i64 n] w fun e w' => e = .returned (.bool (inB n 0 (wrap64 (wk - 1)))) ∧ Kept w w' := by
  go_enter Tryz.func76, Tryz.ntmps76
  go_wp2_with (go_at_call 37; refine (lies_any _ _ _ _).mono ?_; rintro e w' ⟨rfl, rfl⟩)
  go_ret
  exact ⟨rfl, kept_alloc (kept_refl _) _⟩
theorem rnote_any (n : Int) (w : World) : Calls Tryz.prog 87 #[.int .i64 n] w fun e w' => e = .returned (.bool (inB n 0 40)) ∧ Kept w w' := by
  go_enter Tryz.func87, Tryz.ntmps87
  go_wp2_with (go_at_call 37; refine (lies_any _ _ _ _).mono ?_; rintro e w' ⟨rfl, rfl⟩)
  go_ret
  exact ⟨rfl, kept_refl _⟩
theorem minif (a c : Int) : (if c < a then c else a) = min a c := by split <;> omega
theorem maxif (b d : Int) : (if d > b then d else b) = max b d := by split <;> omega
attribute [local go_sem] minif maxif
theorem join_is (a b c d : Int) (w : World) : Calls Tryz.prog 123 #[.agg #[.int .i64 a, .int .i64 b], .agg #[.int .i64 c, .int .i64 d]] w fun e w' => e = .returned (.agg #[.int .i64 (min a c), .int .i64 (max b d)]) ∧ Kept w w' := by
  have r0 : (((w.alloc (Obj.cells #[.int .i64 a, .int .i64 b] 32)).alloc (Obj.cells #[.int .i64 c, .int .i64 d] 32)).alloc (Obj.cells #[.int .i64 0, .int .i64 0] 32)).cell? ⟨w.heap.size + 1 + 1, 0, none⟩ = some (.int .i64 0) := by go_simp
  have r1 : (((w.alloc (Obj.cells #[.int .i64 a, .int .i64 b] 32)).alloc (Obj.cells #[.int .i64 c, .int .i64 d] 32)).alloc (Obj.cells #[.int .i64 0, .int .i64 0] 32)).cell? ⟨w.heap.size + 1 + 1, 1, none⟩ = some (.int .i64 0) := by go_simp
  have rf : ∀ i, (((w.alloc (Obj.cells #[.int .i64 a, .int .i64 b] 32)).alloc (Obj.cells #[.int .i64 c, .int .i64 d] 32)).alloc (Obj.cells #[.int .i64 0, .int .i64 0] 32)).frozen? ⟨w.heap.size + 1 + 1, i, none⟩ = false := by intro i; go_simp
  have hk0 : Kept w (((w.alloc (Obj.cells #[.int .i64 a, .int .i64 b] 32)).alloc (Obj.cells #[.int .i64 c, .int .i64 d] 32)).alloc (Obj.cells #[.int .i64 0, .int .i64 0] 32)) := kept_alloc (kept_alloc (kept_alloc (kept_refl _) _) _) _
  go_enter Tryz.func123, Tryz.ntmps123
  go_wp2_with fail
  refine (bounds_is _ _ _).mono ?_
  rintro e w' ⟨rfl, hk⟩
  generalize (((w.alloc (Obj.cells #[.int .i64 a, .int .i64 b] 32)).alloc (Obj.cells #[.int .i64 c, .int .i64 d] 32)).alloc (Obj.cells #[.int .i64 0, .int .i64 0] 32)) = W0 at *
  have f0 : w'.frozen? ⟨w.heap.size + 1 + 1, 0, none⟩ = false := ((kturns hk (fun _ => False)).frozen (Go.Ai.lt_of_cell r0) (fun h => h)).trans (rf 0)
  have f1 : w'.frozen? ⟨w.heap.size + 1 + 1, 1, none⟩ = false := ((kturns hk (fun _ => False)).frozen (Go.Ai.lt_of_cell r0) (fun h => h)).trans (rf 1)
  replace r0 := kcell hk r0
  replace r1 := kcell hk r1
  go_wp2_with fail
  have v0 := (cell_set_ne (W := w'.setCell ⟨w.heap.size + 1 + 1, 0, none⟩ (.int .i64 (min a c))) (b := w.heap.size + 1 + 1) (o := 1) (o' := 0) (v := .int .i64 (max b d)) (by omega)).trans (cell_set_eq r0)
  have v1 := cell_set_eq (v := .int .i64 (max b d)) ((cell_set_ne (W := w') (b := w.heap.size + 1 + 1) (o := 0) (o' := 1) (v := .int .i64 (min a c)) (by omega)).trans r1)
  have hT := Turns.setCell (T := fun b => b = w.heap.size + 1 + 1) (Turns.setCell (T := fun b => b = w.heap.size + 1 + 1) (Turns.refl _ w') rfl 0 (.int .i64 (min a c))) rfl 1 (.int .i64 (max b d))
  refine bodyPost_ret (v := .agg #[.int .i64 (min a c), .int .i64 (max b d)]) (by simp [results, Tryz.results123, go_sem, v0, v1]) rfl ⟨rfl, ?_⟩
  exact Below.trans (kept_trans hk0 hk) (hT.toBelow (n := w.heap.size) (by rintro b rfl; omega) (by have := (kept_trans hk0 hk).size; omega))
end Go.Proofs.YthkcgengohoboaaGreatDoor
namespace Go.Proofs.YthkcgengohoboaaGreatDoor
open Go.RowKit Go.Sort Go.Rg
set_option maxRecDepth 100000
attribute [local go_sem] Oper.semAt_some minif maxif
set_option maxHeartbeats 1000000 in
theorem rtop_any (n0 n4 : Value) (n1 n2 n3 ls wk : Int) (w : World)
   (h1 : 0 ≤ n1 ∧ n1 ≤ 100) (h2 : 0 ≤ n2 ∧ n2 ≤ 100) (h3 : 0 ≤ n3 ∧ n3 ≤ 100) (h4 : 0 ≤ wk ∧ wk ≤ 100) (h5 : 0 ≤ ls ∧ ls ≤ 100) :
   Calls Tryz.prog 77 #[.agg #[n0, .int .i64 n1, .int .i64 n2, .int .i64 n3, .int .i64 ls, n4], .int .i64 wk] w fun e w' => e = .returned (.int .i64 (top n1 n2 n3 ls wk)) ∧ Kept w w' := by
  have hr : 0 ≤ min wk n3 ∧ min wk n3 ≤ 100 := by omega
  have hr2 : 0 ≤ wk - min wk n3 ∧ wk - min wk n3 ≤ 100 := by omega
  have Htop : top n1 n2 n3 ls wk = n1 + min wk n3 * n2 - (wk - min wk n3) * ls := rfl
  rw [Htop]; clear Htop
  have hp := mul_rng hr h2
  have hp2 := mul_rng hr2 h5
  have e1 : IntKind.i64.wrap (min wk n3 * n2) = min wk n3 * n2 := IntWalk.i64_in _ (by omega)
  have e2 : IntKind.i64.wrap (n1 + min wk n3 * n2) = n1 + min wk n3 * n2 := IntWalk.i64_in _ (by omega)
  have e3 : IntKind.i64.wrap (wk - min wk n3) = wk - min wk n3 := IntWalk.i64_in _ (by omega)
  have e4 : IntKind.i64.wrap ((wk - min wk n3) * ls) = (wk - min wk n3) * ls := IntWalk.i64_in _ (by omega)
  have e5 : IntKind.i64.wrap (n1 + min wk n3 * n2 - (wk - min wk n3) * ls) = n1 + min wk n3 * n2 - (wk - min wk n3) * ls := IntWalk.i64_in _ (by omega)
  go_enter Tryz.func77, Tryz.ntmps77
  go_wp2_with fail
  refine bodyPost_ret (v := .int .i64 (n1 + min wk n3 * n2 - (wk - min wk n3) * ls)) (by simp [results, Tryz.results77, go_sem]) rfl ⟨rfl, kept_alloc (kept_refl _) _⟩
set_option maxHeartbeats 1000000 in
theorem rcan_any (n0 n1 n2 n3 n4 ls wk note : Int) (w : World)
   (h1 : 0 ≤ n1 ∧ n1 ≤ 100) (h2 : 0 ≤ n2 ∧ n2 ≤ 100) (h3 : 0 ≤ n3 ∧ n3 ≤ 100) (h4 : 0 ≤ wk ∧ wk ≤ 100) (h5 : 0 ≤ ls ∧ ls ≤ 100) :
   Calls Tryz.prog 129 #[.agg #[.int .i64 n0, .int .i64 n1, .int .i64 n2, .int .i64 n3, .int .i64 ls, .int .i64 n4], .int .i64 wk, .int .i64 note] w fun e w' => e = .returned (.bool (singsB n0 n1 n2 n3 n4 ls wk note note)) ∧ Kept w w' := by
  have kW : Kept w (w.alloc (Obj.cells #[.int .i64 n0, .int .i64 n1, .int .i64 n2, .int .i64 n3, .int .i64 ls, .int .i64 n4] 103)) := kept_alloc (kept_refl _) _
  have c0 : ∀ d os, (grow (redrawn (w.alloc (Obj.cells #[.int .i64 n0, .int .i64 n1, .int .i64 n2, .int .i64 n3, .int .i64 ls, .int .i64 n4] 103)) d) os).cell? ⟨w.heap.size, 0, none⟩ = some (.int .i64 n0) := cell_regrown (by go_simp)
  have c1 : ∀ d os, (grow (redrawn (w.alloc (Obj.cells #[.int .i64 n0, .int .i64 n1, .int .i64 n2, .int .i64 n3, .int .i64 ls, .int .i64 n4] 103)) d) os).cell? ⟨w.heap.size, 1, none⟩ = some (.int .i64 n1) := cell_regrown (by go_simp)
  have c2 : ∀ d os, (grow (redrawn (w.alloc (Obj.cells #[.int .i64 n0, .int .i64 n1, .int .i64 n2, .int .i64 n3, .int .i64 ls, .int .i64 n4] 103)) d) os).cell? ⟨w.heap.size, 2, none⟩ = some (.int .i64 n2) := cell_regrown (by go_simp)
  have c3 : ∀ d os, (grow (redrawn (w.alloc (Obj.cells #[.int .i64 n0, .int .i64 n1, .int .i64 n2, .int .i64 n3, .int .i64 ls, .int .i64 n4] 103)) d) os).cell? ⟨w.heap.size, 3, none⟩ = some (.int .i64 n3) := cell_regrown (by go_simp)
  have c4 : ∀ d os, (grow (redrawn (w.alloc (Obj.cells #[.int .i64 n0, .int .i64 n1, .int .i64 n2, .int .i64 n3, .int .i64 ls, .int .i64 n4] 103)) d) os).cell? ⟨w.heap.size, 4, none⟩ = some (.int .i64 ls) := cell_regrown (by go_simp)
  have c5 : ∀ d os, (grow (redrawn (w.alloc (Obj.cells #[.int .i64 n0, .int .i64 n1, .int .i64 n2, .int .i64 n3, .int .i64 ls, .int .i64 n4] 103)) d) os).cell? ⟨w.heap.size, 5, none⟩ = some (.int .i64 n4) := cell_regrown (by go_simp)
  by_cases hb : wk < n4
  · have p1 : decide (wk < n4) = true := by simpa using hb
    have H : singsB n0 n1 n2 n3 n4 ls wk note note = inB note n0 (top n1 n2 n3 ls wk) := by simp [singsB, inB, hb]
    rw [H]; clear H
    go_enter Tryz.func129, Tryz.ntmps129
    go_wp2_with fail
    generalize w.alloc (Obj.cells #[.int .i64 n0, .int .i64 n1, .int .i64 n2, .int .i64 n3, .int .i64 ls, .int .i64 n4] 103) = W at *
    have H1 := Lib.hid (fun d os => Calls.regrown_of (rtop_any (.int .i64 n0) (.int .i64 n4) n1 n2 n3 ls wk (grow (redrawn W d) os) h1 h2 h3 h4 h5))
    have H2 := Lib.hid (fun d os => Calls.regrown_of ((lies_any note n0 (top n1 n2 n3 ls wk) (grow (redrawn W d) os)).mono fun e w' (h : e = .returned (.bool (inB note n0 (top n1 n2 n3 ls wk))) ∧ (grow (redrawn W d) os) = w') => (⟨h.1, h.2 ▸ kept_refl _⟩ : e = .returned (.bool (inB note n0 (top n1 n2 n3 ls wk))) ∧ Kept (grow (redrawn W d) os) w')))
    refine wp_region_quiet_below (by kernel_rfl) (by kernel_rfl) ?_
    repeat (any_goals (first | go_big_quiet_skip | quiet_step (first | with_reducible exact H1.out _ _ | with_reducible exact H2.out _ _)))
    refine wpQuiet_nil ?_
    rintro _ ⟨⟨dq, osq⟩, rfl⟩
    have kW2 := kept_trans kW (below_regrown W dq osq)
    go_wp2_with fail
    refine bodyPost_ret (v := .bool (inB note n0 (top n1 n2 n3 ls wk))) (by simp [results, Tryz.results129, go_sem]) rfl ⟨rfl, kW2⟩
  · have p1 : decide (wk < n4) = false := by simpa using hb
    have H : singsB n0 n1 n2 n3 n4 ls wk note note = false := by simp [singsB, hb]
    rw [H]; clear H
    go_enter Tryz.func129, Tryz.ntmps129
    go_wp2_with fail
    generalize w.alloc (Obj.cells #[.int .i64 n0, .int .i64 n1, .int .i64 n2, .int .i64 n3, .int .i64 ls, .int .i64 n4] 103) = W at *
    refine wp_region_quiet_below (by kernel_rfl) (by kernel_rfl) ?_
    iterate 14 (any_goals (first | go_big_quiet_skip | quiet_step (fail)))
    refine wpQuiet_nil ?_
    rintro _ ⟨⟨dq, osq⟩, rfl⟩
    have kW2 := kept_trans kW (below_regrown W dq osq)
    go_wp2_with fail
    refine bodyPost_ret (v := .bool false) (by simp [results, Tryz.results129, go_sem]) rfl ⟨rfl, kW2⟩
end Go.Proofs.YthkcgengohoboaaGreatDoor
namespace Go.Proofs.YthkcgengohoboaaGreatDoor
open Go.RowKit Go.Sort Go.Rg
set_option maxRecDepth 100000
theorem hasN6 : ∀ s : Nat, s < 64 → ∀ n : Nat, n < 6 → (bits BinOp.and IntKind.i64 ((s : Int) / 2 ^ n) 1 == 1) = s.testBit n := by decide +kernel
theorem has6 (s n : Nat) (w : World) (hs : s < 64) (hn : n < 6) : Calls Tryz.prog 133 #[.int .i64 (s : Int), .int .i64 (n : Int)] w fun e w' => e = .returned (.bool (s.testBit n)) ∧ w = w' := by
  have h1 : decide ((n : Int) ≥ 0) = true := by simp
  have h2 : decide ((n : Int) < 62) = true := by simp; omega
  go_enter Tryz.func133, Tryz.ntmps133
  go_wp2_with fail
  go_ret
  exact ⟨by rw [hasN6 s hs n hn]; rfl, rfl⟩
end Go.Proofs.YthkcgengohoboaaGreatDoor
namespace Go.Proofs.YthkcgengohoboaaGreatDoor
open Go.RowKit Go.Sort Go.Rg
set_option maxRecDepth 100000
attribute [local go_sem] Oper.semAt_some
def badT (n0 n1 n2 n3 n4 ls boy : Int) (but i : Nat) (t : Trial) : Bool := decide (t.boy = boy) && !but.testBit i && TB n0 n1 n2 n3 n4 ls t
def rightB (ts : List Trial) (n0 n1 n2 n3 n4 ls boy : Int) (but : Nat) : Bool := (List.range ts.length).all fun i => match ts[i]? with
  | some t => !badT n0 n1 n2 n3 n4 ls boy but i t
  | none => true
theorem rightB_true {ts : List Trial} {n0 n1 n2 n3 n4 ls boy : Int} {but : Nat} (h : ∀ j t, j < ts.length → ts[j]? = some t → badT n0 n1 n2 n3 n4 ls boy but j t = false) : rightB ts n0 n1 n2 n3 n4 ls boy but = true := by
  unfold rightB
  rw [List.all_eq_true]
  intro i hi
  have hi := List.mem_range.1 hi
  rw [List.getElem?_eq_getElem hi]
  simp only [h i _ hi (List.getElem?_eq_getElem hi), Bool.not_false]
theorem rightB_false {ts : List Trial} {n0 n1 n2 n3 n4 ls boy : Int} {but j : Nat} {t : Trial} (hj : ts[j]? = some t) (h : badT n0 n1 n2 n3 n4 ls boy but j t = true) : rightB ts n0 n1 n2 n3 n4 ls boy but = false := by
  unfold rightB
  rw [List.all_eq_false]
  refine ⟨j, List.mem_range.2 (List.getElem?_eq_some_iff.1 hj).1, ?_⟩
  rw [hj]
  simp [h]
set_option maxHeartbeats 8000000 in
theorem rright_any (p q : Option Addr) (cap capt : Nat) (B : Book) (boy n0 n1 n2 n3 n4 ls : Int) (but : Nat) (W : World) (h : BookAt W p q cap capt B) (hok : B.okB = true) (hbt : but < 64)
   (h1 : 0 ≤ n1 ∧ n1 ≤ 100) (h2 : 0 ≤ n2 ∧ n2 ≤ 100) (h3 : 0 ≤ n3 ∧ n3 ≤ 100) (h5 : 0 ≤ ls ∧ ls ≤ 100) :
    Calls Tryz.prog 122 #[B.val p q cap capt, .int .i64 boy, .agg #[.int .i64 n0, .int .i64 n1, .int .i64 n2, .int .i64 n3, .int .i64 ls, .int .i64 n4], .int .i64 (but : Int)] W fun e C => e = .returned (.bool (rightB B.trials n0 n1 n2 n3 n4 ls boy but)) ∧ Kept W C := by
  obtain ⟨⟨q1, q2, q3, q4, q5⟩, -, -⟩ := okB_boys hok
  obtain ⟨h6, hts⟩ := okB_trials hok
  unfold Book.val
  have hk0 : Kept W ((W.alloc (Obj.cells #[.slice p B.boys.length cap, .int .i64 B.weeks, .slice q B.trials.length capt] 25)).alloc (Obj.cells #[.int .i64 n0, .int .i64 n1, .int .i64 n2, .int .i64 n3, .int .i64 ls, .int .i64 n4] 103)) := kept_alloc (kept_alloc (kept_refl _) _) _
  have a2 : ((W.alloc (Obj.cells #[.slice p B.boys.length cap, .int .i64 B.weeks, .slice q B.trials.length capt] 25)).alloc (Obj.cells #[.int .i64 n0, .int .i64 n1, .int .i64 n2, .int .i64 n3, .int .i64 ls, .int .i64 n4] 103)).cell? ⟨W.heap.size, 2, none⟩ = some (.slice q B.trials.length capt) := by go_simp
  have v0 : ((W.alloc (Obj.cells #[.slice p B.boys.length cap, .int .i64 B.weeks, .slice q B.trials.length capt] 25)).alloc (Obj.cells #[.int .i64 n0, .int .i64 n1, .int .i64 n2, .int .i64 n3, .int .i64 ls, .int .i64 n4] 103)).cell? ⟨W.heap.size + 1, 0, none⟩ = some (.int .i64 n0) := by go_simp
  have v1 : ((W.alloc (Obj.cells #[.slice p B.boys.length cap, .int .i64 B.weeks, .slice q B.trials.length capt] 25)).alloc (Obj.cells #[.int .i64 n0, .int .i64 n1, .int .i64 n2, .int .i64 n3, .int .i64 ls, .int .i64 n4] 103)).cell? ⟨W.heap.size + 1, 1, none⟩ = some (.int .i64 n1) := by go_simp
  have v2 : ((W.alloc (Obj.cells #[.slice p B.boys.length cap, .int .i64 B.weeks, .slice q B.trials.length capt] 25)).alloc (Obj.cells #[.int .i64 n0, .int .i64 n1, .int .i64 n2, .int .i64 n3, .int .i64 ls, .int .i64 n4] 103)).cell? ⟨W.heap.size + 1, 2, none⟩ = some (.int .i64 n2) := by go_simp
  have v3 : ((W.alloc (Obj.cells #[.slice p B.boys.length cap, .int .i64 B.weeks, .slice q B.trials.length capt] 25)).alloc (Obj.cells #[.int .i64 n0, .int .i64 n1, .int .i64 n2, .int .i64 n3, .int .i64 ls, .int .i64 n4] 103)).cell? ⟨W.heap.size + 1, 3, none⟩ = some (.int .i64 n3) := by go_simp
  have v4 : ((W.alloc (Obj.cells #[.slice p B.boys.length cap, .int .i64 B.weeks, .slice q B.trials.length capt] 25)).alloc (Obj.cells #[.int .i64 n0, .int .i64 n1, .int .i64 n2, .int .i64 n3, .int .i64 ls, .int .i64 n4] 103)).cell? ⟨W.heap.size + 1, 4, none⟩ = some (.int .i64 ls) := by go_simp
  have v5 : ((W.alloc (Obj.cells #[.slice p B.boys.length cap, .int .i64 B.weeks, .slice q B.trials.length capt] 25)).alloc (Obj.cells #[.int .i64 n0, .int .i64 n1, .int .i64 n2, .int .i64 n3, .int .i64 ls, .int .i64 n4] 103)).cell? ⟨W.heap.size + 1, 5, none⟩ = some (.int .i64 n4) := by go_simp
  have HB := Lib.hid h; clear h
  have HTS := Lib.hid hts; clear hts
  go_enter Tryz.func122, Tryz.ntmps122
  go_wp2_with fail
  generalize ((W.alloc (Obj.cells #[.slice p B.boys.length cap, .int .i64 B.weeks, .slice q B.trials.length capt] 25)).alloc (Obj.cells #[.int .i64 n0, .int .i64 n1, .int .i64 n2, .int .i64 n3, .int .i64 ls, .int .i64 n4] 103)) = W0 at *
  go_loopw [9] (fun i V => ∃ k : Nat, k ≤ B.trials.length ∧ i = .int .i64 k ∧ (∀ j t, j < k → B.trials[j]? = some t → badT n0 n1 n2 n3 n4 ls boy but j t = false) ∧ Kept W0 V) (fun i V => B.trials.length - (intOf i).toNat)
  case atStart => exact ⟨0, by omega, rfl, fun j t hj => by omega, kept_refl _⟩
  case round =>
    obtain ⟨k, hk, rfl, hno, hkV⟩ := hrel
    replace a2 := kcell hkV a2
    replace v0 := kcell hkV v0
    replace v1 := kcell hkV v1
    replace v2 := kcell hkV v2
    replace v3 := kcell hkV v3
    replace v4 := kcell hkV v4
    replace v5 := kcell hkV v5
    by_cases hlt : k < B.trials.length
    · have hltI : (k : Int) < B.trials.length := by omega
      obtain ⟨bt, ot, rfl, htr⟩ : ∃ b o, q = some ⟨b, o, none⟩ ∧ TrialsAt wr b o B.trials := by
        rcases ((HB.out.kept hk0).kept hkV).trials with e | h
        · rw [e] at hlt; cases hlt
        · exact h
      obtain ⟨t, hget⟩ : ∃ t, B.trials[k]? = some t := ⟨_, List.getElem?_eq_getElem hlt⟩
      obtain ⟨d0, d1, d2, d3⟩ := htr.2 k t hget
      obtain ⟨-, ⟨wk1, wk2⟩, -⟩ := HTS.out t (List.mem_of_getElem? hget)
      have h4 : 0 ≤ t.week ∧ t.week ≤ 100 := by omega
      have hzq := Go.Ai.lt_of_cell d0
      have hza := Go.Ai.lt_of_cell a2
      have hzv := Go.Ai.lt_of_cell v0
      have HNO := Lib.hid (show badT n0 n1 n2 n3 n4 ls boy but k t = false → ∀ j u, j < k + 1 → B.trials[j]? = some u → badT n0 n1 n2 n3 n4 ls boy but j u = false from fun hb j u hj hu => by
        rcases Nat.lt_or_ge j k with hjk | hjk
        · exact hno j u hjk hu
        · obtain rfl : j = k := by omega
          rw [hget] at hu; cases hu; exact hb)
      have HGT := Lib.hid hget
      clear hno hget
      go_wp2_with fail
      have hkA : Kept W0 (wr.alloc (Obj.cells #[.int .i64 t.boy, .int .i64 t.week, .int .i64 t.note, .int .i64 t.sang] 49)) := kept_trans hkV (kept_alloc (kept_refl _) _)
      have kWA : Kept wr (wr.alloc (Obj.cells #[.int .i64 t.boy, .int .i64 t.week, .int .i64 t.note, .int .i64 t.sang] 49)) := kept_alloc (kept_refl _) _
      have y0 : (wr.alloc (Obj.cells #[.int .i64 t.boy, .int .i64 t.week, .int .i64 t.note, .int .i64 t.sang] 49)).cell? ⟨wr.heap.size, 0, none⟩ = some (.int .i64 t.boy) := by go_simp
      have y1 : (wr.alloc (Obj.cells #[.int .i64 t.boy, .int .i64 t.week, .int .i64 t.note, .int .i64 t.sang] 49)).cell? ⟨wr.heap.size, 1, none⟩ = some (.int .i64 t.week) := by go_simp
      have y2 : (wr.alloc (Obj.cells #[.int .i64 t.boy, .int .i64 t.week, .int .i64 t.note, .int .i64 t.sang] 49)).cell? ⟨wr.heap.size, 2, none⟩ = some (.int .i64 t.note) := by go_simp
      have y3 : (wr.alloc (Obj.cells #[.int .i64 t.boy, .int .i64 t.week, .int .i64 t.note, .int .i64 t.sang] 49)).cell? ⟨wr.heap.size, 3, none⟩ = some (.int .i64 t.sang) := by go_simp
      have w0 := kcell kWA v0
      have w1 := kcell kWA v1
      have w2 := kcell kWA v2
      have w3 := kcell kWA v3
      have w4 := kcell kWA v4
      have w5 := kcell kWA v5
      clear v0 v1 v2 v3 v4 v5 d0 d1 d2 d3 a2
      generalize (wr.alloc (Obj.cells #[.int .i64 t.boy, .int .i64 t.week, .int .i64 t.note, .int .i64 t.sang] 49)) = WA at *
      have hzy := Go.Ai.lt_of_cell y0
      have g0 := cell_regrown y0
      have g1 := cell_regrown y1
      have g2 := cell_regrown y2
      have g3 := cell_regrown y3
      have e0 := cell_regrown w0
      have e1 := cell_regrown w1
      have e2 := cell_regrown w2
      have e3 := cell_regrown w3
      have e4 := cell_regrown w4
      have e5 := cell_regrown w5
      have H1 := Lib.hid (fun d os => Calls.regrown_of ((has6 but k (grow (redrawn WA d) os) hbt (by omega)).mono fun e w' (h : e = .returned (.bool (but.testBit k)) ∧ (grow (redrawn WA d) os) = w') => (⟨h.1, h.2 ▸ kept_refl _⟩ : e = .returned (.bool (but.testBit k)) ∧ Kept (grow (redrawn WA d) os) w')))
      have H2 := Lib.hid (fun d os => Calls.regrown_of (rcan_any n0 n1 n2 n3 n4 ls t.week t.note (grow (redrawn WA d) os) h1 h2 h3 h4 h5))
      obtain ⟨tb, tw, tn, tg⟩ := t
      simp only at *
      by_cases htb : tb = boy
      · have p1 : (tb == boy) = true := by simpa using htb
        cases hbb : but.testBit k with
        | true =>
          rw [hbb] at H1
          refine wp_region_quiet_below (by kernel_rfl) (by kernel_rfl) ?_
          repeat (any_goals (first | go_big_quiet_skip | quiet_step (first | with_reducible exact H1.out _ _)))
          refine wpQuiet_nil ?_
          rintro _ ⟨⟨dq, osq⟩, rfl⟩
          have hkQ := kept_trans hkA (below_regrown WA dq osq)
          generalize grow (redrawn WA dq) osq = WQ at *
          go_wp2_with fail
          go_roundw
          case rel => exact ⟨k + 1, by omega, by go_num, HNO.out (by simp [badT, hbb]), hkQ⟩
          case measure => simp [intOf]; omega
        | false =>
          rw [hbb] at H1
          refine wp_region_quiet_below (by kernel_rfl) (by kernel_rfl) ?_
          repeat (any_goals (first | go_big_quiet_skip | quiet_step (first | with_reducible exact H1.out _ _ | with_reducible exact H2.out _ _)))
          refine wpQuiet_nil ?_
          rintro _ ⟨⟨dq, osq⟩, rfl⟩
          have hkQ := kept_trans hkA (below_regrown WA dq osq)
          generalize grow (redrawn WA dq) osq = WQ at *
          have HE := Lib.hid (show badT n0 n1 n2 n3 n4 ls boy but k ⟨tb, tw, tn, tg⟩ = (!(singsB n0 n1 n2 n3 n4 ls tw tn tn == (tg == 1))) from by simp [badT, htb, hbb, TB, beliesB, bne])
          generalize (!(singsB n0 n1 n2 n3 n4 ls tw tn tn == (tg == 1))) = bl at *
          cases bl with
          | false =>
            go_wp2_with fail
            go_roundw
            case rel => exact ⟨k + 1, by omega, by go_num, HNO.out (by exact HE.out), hkQ⟩
            case measure => simp [intOf]; omega
          | true =>
            go_wp2_with fail
            refine bodyPost_ret (v := .bool false) (by simp [results, Tryz.results122, go_sem]) rfl ?_
            exact ⟨by rw [rightB_false HGT.out HE.out], kept_trans hk0 hkQ⟩
      · have p1 : (tb == boy) = false := by simpa using htb
        refine wp_region_quiet_below (by kernel_rfl) (by kernel_rfl) ?_
        iterate 22 (any_goals (first | go_big_quiet_skip | quiet_step (fail)))
        refine wpQuiet_nil ?_
        rintro _ ⟨⟨dq, osq⟩, rfl⟩
        have hkQ := kept_trans hkA (below_regrown WA dq osq)
        generalize grow (redrawn WA dq) osq = WQ at *
        go_wp2_with fail
        go_roundw
        case rel => exact ⟨k + 1, by omega, by go_num, HNO.out (by simp [badT, htb]), hkQ⟩
        case measure => simp [intOf]; omega
    · have hltI : ¬ (k : Int) < B.trials.length := by omega
      obtain rfl : k = B.trials.length := by omega
      have HNO := Lib.hid (rightB_true hno)
      clear hno
      go_wp2_with fail
      refine bodyPost_ret (v := .bool true) (by simp [results, Tryz.results122, go_sem]) rfl ?_
      exact ⟨by rw [HNO.out], kept_trans hk0 hkV⟩
end Go.Proofs.YthkcgengohoboaaGreatDoor
namespace Go.Proofs.YthkcgengohoboaaGreatDoor
open Go.RowKit Go.Sort Go.Rg
set_option maxRecDepth 100000
theorem sum_le : ∀ {l : List Nat} {c : Nat}, (∀ x ∈ l, x ≤ c) → l.sum ≤ l.length * c
  | [], c, _ => by simp
  | a :: l, c, h => by
    have h1 := h a List.mem_cons_self
    have h2 := sum_le (fun x hx => h x (List.mem_cons_of_mem a hx))
    rw [List.sum_cons, List.length_cons, Nat.succ_mul]
    omega
def vgen (lo hi : Nat → Int) (kp : List Int → Bool) : Nat → List Int → List (List Int)
  | 0, pre => if kp pre then [pre] else []
  | d + 1, pre => ((List.range (hi pre.length - lo pre.length + 1).toNat).map fun (m : Nat) => vgen lo hi kp d (pre ++ [lo pre.length + (m : Int)])).flatten
def vpart (lo hi : Nat → Int) (kp : List Int → Bool) (d : Nat) (pre : List Int) (k : Nat) : List (List Int) := ((List.range k).map fun (m : Nat) => vgen lo hi kp d (pre ++ [lo pre.length + (m : Int)])).flatten
theorem vpart_succ (lo hi : Nat → Int) (kp : List Int → Bool) (d : Nat) (pre : List Int) (k : Nat) : vpart lo hi kp d pre (k + 1) = vpart lo hi kp d pre k ++ vgen lo hi kp d (pre ++ [lo pre.length + (k : Int)]) := by
  unfold vpart
  rw [List.range_succ, List.map_append, List.flatten_append]
  simp
theorem vgen_no {lo hi : Nat → Int} {kp : List Int → Bool} {l : List Int} (h : kp l = false) : vgen lo hi kp 0 l = [] := by
  unfold vgen; rw [h]; rfl
theorem vgen_yes {lo hi : Nat → Int} {kp : List Int → Bool} {l : List Int} (h : kp l = true) : vgen lo hi kp 0 l = [l] := by
  unfold vgen; rw [h]; rfl
theorem vgen_succ (lo hi : Nat → Int) (kp : List Int → Bool) (d : Nat) (pre : List Int) : vgen lo hi kp (d + 1) pre = vpart lo hi kp d pre (hi pre.length - lo pre.length + 1).toNat := rfl
theorem vnest (lo hi : Nat → Int) (kp : List Int → Bool) (d : Nat) (pre : List Int) (n : Int) (k m : Nat) (A A' : List (List Int)) (hn : n = lo pre.length + (k : Int)) (hA : A' = A ++ vpart lo hi kp (d + 1) pre k) (hm : (m : Int) = hi (pre.length + 1) - lo (pre.length + 1) + 1) :
    A' ++ vpart lo hi kp d (pre ++ [n]) m = A ++ vpart lo hi kp (d + 1) pre (k + 1) := by
  subst hn
  rw [hA, vpart_succ, List.append_assoc, vgen_succ, show (pre ++ [lo pre.length + (k : Int)]).length = pre.length + 1 by simp, show (hi (pre.length + 1) - lo (pre.length + 1) + 1).toNat = m by omega]
theorem vlast (lo hi : Nat → Int) (kp : List Int → Bool) (pre : List Int) (n : Int) (k : Nat) (A A' : List (List Int)) (hn : n = lo pre.length + (k : Int)) (hA : A' = A ++ vpart lo hi kp 0 pre k) :
    A' ++ vgen lo hi kp 0 (pre ++ [n]) = A ++ vpart lo hi kp 0 pre (k + 1) := by
  subst hn
  rw [hA, vpart_succ, List.append_assoc]
theorem vgen_len {lo hi : Nat → Int} {kp : List Int → Bool} (H : ∀ i, hi i - lo i ≤ 3) : ∀ (d : Nat) (pre : List Int), (vgen lo hi kp d pre).length ≤ 4 ^ d
  | 0, pre => by unfold vgen; split <;> simp
  | d + 1, pre => by
    rw [vgen_succ]
    unfold vpart
    rw [List.length_flatten, List.map_map]
    have h1 : ∀ x ∈ (List.range (hi pre.length - lo pre.length + 1).toNat).map (List.length ∘ fun (m : Nat) => vgen lo hi kp d (pre ++ [lo pre.length + (m : Int)])), x ≤ 4 ^ d := by
      intro x hx
      obtain ⟨m, -, rfl⟩ := List.mem_map.1 hx
      exact vgen_len H d _
    have h2 := sum_le h1
    rw [List.length_map, List.length_range] at h2
    have h3 := H pre.length
    have h4 : (hi pre.length - lo pre.length + 1).toNat ≤ 4 := by omega
    exact Nat.le_trans h2 (by rw [Nat.pow_succ, Nat.mul_comm]; exact Nat.mul_le_mul_left _ h4)
theorem vpart_len {lo hi : Nat → Int} {kp : List Int → Bool} (H : ∀ i, hi i - lo i ≤ 3) (d : Nat) (pre : List Int) (k : Nat) : (vpart lo hi kp d pre k).length ≤ k * 4 ^ d := by
  unfold vpart
  rw [List.length_flatten, List.map_map]
  have h1 : ∀ x ∈ (List.range k).map (List.length ∘ fun (m : Nat) => vgen lo hi kp d (pre ++ [lo pre.length + (m : Int)])), x ≤ 4 ^ d := by
    intro x hx
    obtain ⟨m, -, rfl⟩ := List.mem_map.1 hx
    exact vgen_len H d _
  have h2 := sum_le h1
  rwa [List.length_map, List.length_range] at h2
def vC (ls : Int) (n : List Int) : List Value := [.int .i64 (n.getD 0 0), .int .i64 (n.getD 1 0), .int .i64 (n.getD 2 0), .int .i64 (n.getD 3 0), .int .i64 ls, .int .i64 (n.getD 4 0)]
def cellI (V : World) (b o : Nat) : Int := match V.cell? ⟨b, o, none⟩ with
  | some (.int _ n) => n
  | _ => 0
theorem cellI_eq {V : World} {b o : Nat} {n : Int} (h : V.cell? ⟨b, o, none⟩ = some (.int .i64 n)) : cellI V b o = n := by unfold cellI; rw [h]
structure VAt (V0 : World) (bv : Nat) (c0 c1 c2 c3 c4 ls : Int) (lv : Value) (L : List (List Int)) (V : World) : Prop where
  hb : bv = V0.heap.size
  kept : Kept V0 V
  d0 : V.cell? ⟨bv, 0, none⟩ = some (.int .i64 c0)
  d1 : V.cell? ⟨bv, 1, none⟩ = some (.int .i64 c1)
  d2 : V.cell? ⟨bv, 2, none⟩ = some (.int .i64 c2)
  d3 : V.cell? ⟨bv, 3, none⟩ = some (.int .i64 c3)
  d4 : V.cell? ⟨bv, 4, none⟩ = some (.int .i64 ls)
  d5 : V.cell? ⟨bv, 5, none⟩ = some (.int .i64 c4)
  fr : ∀ i, V.frozen? ⟨bv, i, none⟩ = false
  row : V.ownsRow (bv + 1) 103 6 lv L.length (L.flatMap (vC ls))
section
variable {V0 V V' VE : World} {bv : Nat} {c0 c1 c2 c3 c4 ls : Int} {lv : Value} {L : List (List Int)}
theorem VAt.go (h : VAt V0 bv c0 c1 c2 c3 c4 ls lv L V) (hk : Kept V V') : VAt V0 bv c0 c1 c2 c3 c4 ls lv L V' where
  hb := h.hb
  kept := kept_trans h.kept hk
  d0 := kcell hk h.d0
  d1 := kcell hk h.d1
  d2 := kcell hk h.d2
  d3 := kcell hk h.d3
  d4 := kcell hk h.d4
  d5 := kcell hk h.d5
  fr := fun i => (World.frozen?_of_block (a := ⟨bv, i, none⟩) (hk.block _ (Go.Ai.lt_of_cell h.d0))).trans (h.fr i)
  row := row_kept h.row hk
theorem VAt.set0 (h : VAt V0 bv c0 c1 c2 c3 c4 ls lv L V) (v : Int) : VAt V0 bv v c1 c2 c3 c4 ls lv L (V.setCell ⟨bv, 0, none⟩ (.int .i64 v)) where
  hb := h.hb
  kept := Below.setCell (p := ⟨bv, 0, none⟩) h.kept (by rw [h.hb]; exact Nat.le_refl _) _
  d0 := cell_set_eq h.d0
  d1 := (cell_set_ne (by omega)).trans h.d1
  d2 := (cell_set_ne (by omega)).trans h.d2
  d3 := (cell_set_ne (by omega)).trans h.d3
  d4 := (cell_set_ne (by omega)).trans h.d4
  d5 := (cell_set_ne (by omega)).trans h.d5
  fr := fun i => (World.frozen?_setCell _ _ _ _).trans (h.fr i)
  row := ownsRow_set h.row (a := ⟨bv, 0, none⟩) (Nat.lt_succ_self _) _
theorem VAt.set1 (h : VAt V0 bv c0 c1 c2 c3 c4 ls lv L V) (v : Int) : VAt V0 bv c0 v c2 c3 c4 ls lv L (V.setCell ⟨bv, 1, none⟩ (.int .i64 v)) where
  hb := h.hb
  kept := Below.setCell (p := ⟨bv, 1, none⟩) h.kept (by rw [h.hb]; exact Nat.le_refl _) _
  d0 := (cell_set_ne (by omega)).trans h.d0
  d1 := cell_set_eq h.d1
  d2 := (cell_set_ne (by omega)).trans h.d2
  d3 := (cell_set_ne (by omega)).trans h.d3
  d4 := (cell_set_ne (by omega)).trans h.d4
  d5 := (cell_set_ne (by omega)).trans h.d5
  fr := fun i => (World.frozen?_setCell _ _ _ _).trans (h.fr i)
  row := ownsRow_set h.row (a := ⟨bv, 1, none⟩) (Nat.lt_succ_self _) _
theorem VAt.set2 (h : VAt V0 bv c0 c1 c2 c3 c4 ls lv L V) (v : Int) : VAt V0 bv c0 c1 v c3 c4 ls lv L (V.setCell ⟨bv, 2, none⟩ (.int .i64 v)) where
  hb := h.hb
  kept := Below.setCell (p := ⟨bv, 2, none⟩) h.kept (by rw [h.hb]; exact Nat.le_refl _) _
  d0 := (cell_set_ne (by omega)).trans h.d0
  d1 := (cell_set_ne (by omega)).trans h.d1
  d2 := cell_set_eq h.d2
  d3 := (cell_set_ne (by omega)).trans h.d3
  d4 := (cell_set_ne (by omega)).trans h.d4
  d5 := (cell_set_ne (by omega)).trans h.d5
  fr := fun i => (World.frozen?_setCell _ _ _ _).trans (h.fr i)
  row := ownsRow_set h.row (a := ⟨bv, 2, none⟩) (Nat.lt_succ_self _) _
theorem VAt.set3 (h : VAt V0 bv c0 c1 c2 c3 c4 ls lv L V) (v : Int) : VAt V0 bv c0 c1 c2 v c4 ls lv L (V.setCell ⟨bv, 3, none⟩ (.int .i64 v)) where
  hb := h.hb
  kept := Below.setCell (p := ⟨bv, 3, none⟩) h.kept (by rw [h.hb]; exact Nat.le_refl _) _
  d0 := (cell_set_ne (by omega)).trans h.d0
  d1 := (cell_set_ne (by omega)).trans h.d1
  d2 := (cell_set_ne (by omega)).trans h.d2
  d3 := cell_set_eq h.d3
  d4 := (cell_set_ne (by omega)).trans h.d4
  d5 := (cell_set_ne (by omega)).trans h.d5
  fr := fun i => (World.frozen?_setCell _ _ _ _).trans (h.fr i)
  row := ownsRow_set h.row (a := ⟨bv, 3, none⟩) (Nat.lt_succ_self _) _
theorem VAt.set4 (h : VAt V0 bv c0 c1 c2 c3 c4 ls lv L V) (v : Int) : VAt V0 bv c0 c1 c2 c3 v ls lv L (V.setCell ⟨bv, 5, none⟩ (.int .i64 v)) where
  hb := h.hb
  kept := Below.setCell (p := ⟨bv, 5, none⟩) h.kept (by rw [h.hb]; exact Nat.le_refl _) _
  d0 := (cell_set_ne (by omega)).trans h.d0
  d1 := (cell_set_ne (by omega)).trans h.d1
  d2 := (cell_set_ne (by omega)).trans h.d2
  d3 := (cell_set_ne (by omega)).trans h.d3
  d4 := (cell_set_ne (by omega)).trans h.d4
  d5 := cell_set_eq h.d5
  fr := fun i => (World.frozen?_setCell _ _ _ _).trans (h.fr i)
  row := ownsRow_set h.row (a := ⟨bv, 5, none⟩) (Nat.lt_succ_self _) _
theorem VAt.own (h : VAt V0 bv c0 c1 c2 c3 c4 ls lv L V) {k : Nat} (hk : k ≤ bv) : lv.ownBlock ≠ some k := fun e => by
  have := (h.row.lt k e).1
  omega
theorem VAt.grew (h : VAt V0 bv c0 c1 c2 c3 c4 ls lv L V) {g cap : Nat} {n : List Int} (hown : VE.ownsRow (bv + 1) 103 6 (.slice (some ⟨g, 0, none⟩) (L.length + 1) cap) (L.length + 1) (L.flatMap (vC ls) ++ vC ls n)) (hgr : V.grownBy VE lv.ownBlock) :
    VAt V0 bv c0 c1 c2 c3 c4 ls (.slice (some ⟨g, 0, none⟩) (L.length + 1) cap) (L ++ [n]) VE where
  hb := h.hb
  kept := Below.grown h.kept hgr h.kept.size (fun b e => by have := (h.row.lt b e).1; have := h.hb; omega)
  d0 := grown_cell hgr (h.own (Nat.le_refl _)) h.d0
  d1 := grown_cell hgr (h.own (Nat.le_refl _)) h.d1
  d2 := grown_cell hgr (h.own (Nat.le_refl _)) h.d2
  d3 := grown_cell hgr (h.own (Nat.le_refl _)) h.d3
  d4 := grown_cell hgr (h.own (Nat.le_refl _)) h.d4
  d5 := grown_cell hgr (h.own (Nat.le_refl _)) h.d5
  fr := fun i => (World.frozen?_of_block (a := ⟨bv, i, none⟩) (hgr.block _ (Go.Ai.lt_of_cell h.d0) (Ne.symm (h.own (Nat.le_refl _))))).trans (h.fr i)
  row := by simpa using hown
end
theorem boy_wide {x : Boy} (h : x.okB = true) : ∀ i, x.hi i - x.lo i ≤ 3 := by
  obtain ⟨⟨y1, y2, y3, y4⟩, ⟨y5, y6, y7, y8⟩, ⟨y9, y10, y11, y12⟩, ⟨y13, y14, y15, y16⟩, ⟨y17, y18, y19, y20⟩, y21, y22⟩ := boy_nums h
  intro i
  match i with
  | 0 => show x.l1 - x.l0 ≤ 3; omega
  | 1 => show x.h1 - x.h0 ≤ 3; omega
  | 2 => show x.g1 - x.g0 ≤ 3; omega
  | 3 => show x.t1 - x.t0 ≤ 3; omega
  | 4 => show x.b1 - x.b0 ≤ 3; omega
  | n + 5 => show x.b1 - x.b0 ≤ 3; omega
theorem infoVc : (Tryz.prog.info? 103).map (fun i => (i.zero, i.size, i.bytes)) = some (some (.agg #[.int .i64 0, .int .i64 0, .int .i64 0, .int .i64 0, .int .i64 0, .int .i64 0]), 6, 48) := by kernel_rfl
theorem vc_news {w : World} {g : Nat} {a b c d e f : Value} (h0 : w.cell? ⟨g, 0, none⟩ = some a) (h1 : w.cell? ⟨g, 1, none⟩ = some b) (h2 : w.cell? ⟨g, 2, none⟩ = some c) (h3 : w.cell? ⟨g, 3, none⟩ = some d) (h4 : w.cell? ⟨g, 4, none⟩ = some e) (h5 : w.cell? ⟨g, 5, none⟩ = some f) : ∀ (k : Nat) (u : Value), [a, b, c, d, e, f][k]? = some u → w.cell? ((⟨g, 0, none⟩ : Addr).add k) = some u := by
  intro k u hu
  rw [add_cell]
  match k, hu with
  | 0, hu => cases hu; exact h0
  | 1, hu => cases hu; exact h1
  | 2, hu => cases hu; exact h2
  | 3, hu => cases hu; exact h3
  | 4, hu => cases hu; exact h4
  | 5, hu => cases hu; exact h5
def Book.keeps (B : Book) (boy : Nat) (x : Boy) (but : Nat) (n : List Int) : Bool := rightB B.trials (n.getD 0 0) (n.getD 1 0) (n.getD 2 0) (n.getD 3 0) (n.getD 4 0) x.ls boy but
def Book.voices (B : Book) (boy : Nat) (x : Boy) (but : Nat) : List (List Int) := vgen x.lo x.hi (B.keeps boy x but) 5 []
set_option maxHeartbeats 16000000 in
theorem voices_any (p q : Option Addr) (cap capt : Nat) (B : Book) (boy : Nat) (x : Boy) (but : Nat) (W : World) (h : BookAt W p q cap capt B) (hok : B.okB = true) (hbt : but < 64) (hx : B.boys[boy]? = some x) :
    Calls Tryz.prog 67 #[B.val p q cap capt, .int .i64 (boy : Int), .int .i64 (but : Int)] W fun e C => ∃ v, e = .returned v ∧ Kept W C ∧ C.ownsRow W.heap.size 103 6 v (B.voices boy x but).length ((B.voices boy x but).flatMap (vC x.ls)) := by
  obtain ⟨⟨q1, q2, q3, q4, q5⟩, hbs, -⟩ := okB_boys hok
  obtain ⟨⟨y1, y2, y3, y4⟩, ⟨y5, y6, y7, y8⟩, ⟨y9, y10, y11, y12⟩, ⟨y13, y14, y15, y16⟩, ⟨y17, y18, y19, y20⟩, y21, y22⟩ := boy_nums (hbs x (List.mem_of_getElem? hx))
  have hbl : boy < B.boys.length := (List.getElem?_eq_some_iff.1 hx).1
  obtain ⟨b, o, rfl, hboys⟩ : ∃ b o, p = some ⟨b, o, none⟩ ∧ BoysAt W b o B.boys := by
    rcases h.boys with e | h
    · rw [e] at hbl; cases hbl
    · exact h
  generalize hp : (some ⟨b, o, none⟩ : Option Addr) = p at *
  have hboys' := hboys
  subst hp
  obtain ⟨z0, z1, z2, z3, z4, z5, z6, z7, z8, z9, z10⟩ := hboys.2 boy x hx
  have hbI : (boy : Int) < B.boys.length := by omega
  unfold Book.val Book.voices
  generalize hKP : B.keeps boy x but = KP
  have HB := Lib.hid h; clear h
  have hk0 : Kept W ((W.alloc (Obj.cells #[.slice (some ⟨b, o, none⟩) B.boys.length cap, .int .i64 B.weeks, .slice q B.trials.length capt] 25)).alloc (Obj.cells #[.int .i64 x.l0, .int .i64 x.l1, .int .i64 x.h0, .int .i64 x.h1, .int .i64 x.g0, .int .i64 x.g1, .int .i64 x.t0, .int .i64 x.t1, .int .i64 x.ls, .int .i64 x.b0, .int .i64 x.b1] 97)) := kept_alloc (kept_alloc (kept_refl _) _) _
  have x0' : ((W.alloc (Obj.cells #[.slice (some ⟨b, o, none⟩) B.boys.length cap, .int .i64 B.weeks, .slice q B.trials.length capt] 25)).alloc (Obj.cells #[.int .i64 x.l0, .int .i64 x.l1, .int .i64 x.h0, .int .i64 x.h1, .int .i64 x.g0, .int .i64 x.g1, .int .i64 x.t0, .int .i64 x.t1, .int .i64 x.ls, .int .i64 x.b0, .int .i64 x.b1] 97)).cell? ⟨W.heap.size + 1, 0, none⟩ = some (.int .i64 x.l0) := by go_simp
  have x1' : ((W.alloc (Obj.cells #[.slice (some ⟨b, o, none⟩) B.boys.length cap, .int .i64 B.weeks, .slice q B.trials.length capt] 25)).alloc (Obj.cells #[.int .i64 x.l0, .int .i64 x.l1, .int .i64 x.h0, .int .i64 x.h1, .int .i64 x.g0, .int .i64 x.g1, .int .i64 x.t0, .int .i64 x.t1, .int .i64 x.ls, .int .i64 x.b0, .int .i64 x.b1] 97)).cell? ⟨W.heap.size + 1, 1, none⟩ = some (.int .i64 x.l1) := by go_simp
  have x2' : ((W.alloc (Obj.cells #[.slice (some ⟨b, o, none⟩) B.boys.length cap, .int .i64 B.weeks, .slice q B.trials.length capt] 25)).alloc (Obj.cells #[.int .i64 x.l0, .int .i64 x.l1, .int .i64 x.h0, .int .i64 x.h1, .int .i64 x.g0, .int .i64 x.g1, .int .i64 x.t0, .int .i64 x.t1, .int .i64 x.ls, .int .i64 x.b0, .int .i64 x.b1] 97)).cell? ⟨W.heap.size + 1, 2, none⟩ = some (.int .i64 x.h0) := by go_simp
  have x3' : ((W.alloc (Obj.cells #[.slice (some ⟨b, o, none⟩) B.boys.length cap, .int .i64 B.weeks, .slice q B.trials.length capt] 25)).alloc (Obj.cells #[.int .i64 x.l0, .int .i64 x.l1, .int .i64 x.h0, .int .i64 x.h1, .int .i64 x.g0, .int .i64 x.g1, .int .i64 x.t0, .int .i64 x.t1, .int .i64 x.ls, .int .i64 x.b0, .int .i64 x.b1] 97)).cell? ⟨W.heap.size + 1, 3, none⟩ = some (.int .i64 x.h1) := by go_simp
  have x4' : ((W.alloc (Obj.cells #[.slice (some ⟨b, o, none⟩) B.boys.length cap, .int .i64 B.weeks, .slice q B.trials.length capt] 25)).alloc (Obj.cells #[.int .i64 x.l0, .int .i64 x.l1, .int .i64 x.h0, .int .i64 x.h1, .int .i64 x.g0, .int .i64 x.g1, .int .i64 x.t0, .int .i64 x.t1, .int .i64 x.ls, .int .i64 x.b0, .int .i64 x.b1] 97)).cell? ⟨W.heap.size + 1, 4, none⟩ = some (.int .i64 x.g0) := by go_simp
  have x5' : ((W.alloc (Obj.cells #[.slice (some ⟨b, o, none⟩) B.boys.length cap, .int .i64 B.weeks, .slice q B.trials.length capt] 25)).alloc (Obj.cells #[.int .i64 x.l0, .int .i64 x.l1, .int .i64 x.h0, .int .i64 x.h1, .int .i64 x.g0, .int .i64 x.g1, .int .i64 x.t0, .int .i64 x.t1, .int .i64 x.ls, .int .i64 x.b0, .int .i64 x.b1] 97)).cell? ⟨W.heap.size + 1, 5, none⟩ = some (.int .i64 x.g1) := by go_simp
  have x6' : ((W.alloc (Obj.cells #[.slice (some ⟨b, o, none⟩) B.boys.length cap, .int .i64 B.weeks, .slice q B.trials.length capt] 25)).alloc (Obj.cells #[.int .i64 x.l0, .int .i64 x.l1, .int .i64 x.h0, .int .i64 x.h1, .int .i64 x.g0, .int .i64 x.g1, .int .i64 x.t0, .int .i64 x.t1, .int .i64 x.ls, .int .i64 x.b0, .int .i64 x.b1] 97)).cell? ⟨W.heap.size + 1, 6, none⟩ = some (.int .i64 x.t0) := by go_simp
  have x7' : ((W.alloc (Obj.cells #[.slice (some ⟨b, o, none⟩) B.boys.length cap, .int .i64 B.weeks, .slice q B.trials.length capt] 25)).alloc (Obj.cells #[.int .i64 x.l0, .int .i64 x.l1, .int .i64 x.h0, .int .i64 x.h1, .int .i64 x.g0, .int .i64 x.g1, .int .i64 x.t0, .int .i64 x.t1, .int .i64 x.ls, .int .i64 x.b0, .int .i64 x.b1] 97)).cell? ⟨W.heap.size + 1, 7, none⟩ = some (.int .i64 x.t1) := by go_simp
  have x8' : ((W.alloc (Obj.cells #[.slice (some ⟨b, o, none⟩) B.boys.length cap, .int .i64 B.weeks, .slice q B.trials.length capt] 25)).alloc (Obj.cells #[.int .i64 x.l0, .int .i64 x.l1, .int .i64 x.h0, .int .i64 x.h1, .int .i64 x.g0, .int .i64 x.g1, .int .i64 x.t0, .int .i64 x.t1, .int .i64 x.ls, .int .i64 x.b0, .int .i64 x.b1] 97)).cell? ⟨W.heap.size + 1, 8, none⟩ = some (.int .i64 x.ls) := by go_simp
  have x9' : ((W.alloc (Obj.cells #[.slice (some ⟨b, o, none⟩) B.boys.length cap, .int .i64 B.weeks, .slice q B.trials.length capt] 25)).alloc (Obj.cells #[.int .i64 x.l0, .int .i64 x.l1, .int .i64 x.h0, .int .i64 x.h1, .int .i64 x.g0, .int .i64 x.g1, .int .i64 x.t0, .int .i64 x.t1, .int .i64 x.ls, .int .i64 x.b0, .int .i64 x.b1] 97)).cell? ⟨W.heap.size + 1, 9, none⟩ = some (.int .i64 x.b0) := by go_simp
  have x10' : ((W.alloc (Obj.cells #[.slice (some ⟨b, o, none⟩) B.boys.length cap, .int .i64 B.weeks, .slice q B.trials.length capt] 25)).alloc (Obj.cells #[.int .i64 x.l0, .int .i64 x.l1, .int .i64 x.h0, .int .i64 x.h1, .int .i64 x.g0, .int .i64 x.g1, .int .i64 x.t0, .int .i64 x.t1, .int .i64 x.ls, .int .i64 x.b0, .int .i64 x.b1] 97)).cell? ⟨W.heap.size + 1, 10, none⟩ = some (.int .i64 x.b1) := by go_simp
  have a0' : ((W.alloc (Obj.cells #[.slice (some ⟨b, o, none⟩) B.boys.length cap, .int .i64 B.weeks, .slice q B.trials.length capt] 25)).alloc (Obj.cells #[.int .i64 x.l0, .int .i64 x.l1, .int .i64 x.h0, .int .i64 x.h1, .int .i64 x.g0, .int .i64 x.g1, .int .i64 x.t0, .int .i64 x.t1, .int .i64 x.ls, .int .i64 x.b0, .int .i64 x.b1] 97)).cell? ⟨W.heap.size, 0, none⟩ = some (.slice (some ⟨b, o, none⟩) B.boys.length cap) := by go_simp
  have a1' : ((W.alloc (Obj.cells #[.slice (some ⟨b, o, none⟩) B.boys.length cap, .int .i64 B.weeks, .slice q B.trials.length capt] 25)).alloc (Obj.cells #[.int .i64 x.l0, .int .i64 x.l1, .int .i64 x.h0, .int .i64 x.h1, .int .i64 x.g0, .int .i64 x.g1, .int .i64 x.t0, .int .i64 x.t1, .int .i64 x.ls, .int .i64 x.b0, .int .i64 x.b1] 97)).cell? ⟨W.heap.size, 1, none⟩ = some (.int .i64 B.weeks) := by go_simp
  have a2' : ((W.alloc (Obj.cells #[.slice (some ⟨b, o, none⟩) B.boys.length cap, .int .i64 B.weeks, .slice q B.trials.length capt] 25)).alloc (Obj.cells #[.int .i64 x.l0, .int .i64 x.l1, .int .i64 x.h0, .int .i64 x.h1, .int .i64 x.g0, .int .i64 x.g1, .int .i64 x.t0, .int .i64 x.t1, .int .i64 x.ls, .int .i64 x.b0, .int .i64 x.b1] 97)).cell? ⟨W.heap.size, 2, none⟩ = some (.slice q B.trials.length capt) := by go_simp
  have hsz : W.heap.size + 1 + 1 = ((W.alloc (Obj.cells #[.slice (some ⟨b, o, none⟩) B.boys.length cap, .int .i64 B.weeks, .slice q B.trials.length capt] 25)).alloc (Obj.cells #[.int .i64 x.l0, .int .i64 x.l1, .int .i64 x.h0, .int .i64 x.h1, .int .i64 x.g0, .int .i64 x.g1, .int .i64 x.t0, .int .i64 x.t1, .int .i64 x.ls, .int .i64 x.b0, .int .i64 x.b1] 97)).heap.size := by simp
  have X0 := Lib.hid x0'; clear x0'
  have X1 := Lib.hid x1'; clear x1'
  have X2 := Lib.hid x2'; clear x2'
  have X3 := Lib.hid x3'; clear x3'
  have X4 := Lib.hid x4'; clear x4'
  have X5 := Lib.hid x5'; clear x5'
  have X6 := Lib.hid x6'; clear x6'
  have X7 := Lib.hid x7'; clear x7'
  have X8 := Lib.hid x8'; clear x8'
  have X9 := Lib.hid x9'; clear x9'
  have X10 := Lib.hid x10'; clear x10'
  have HA0 := Lib.hid a0'; clear a0'
  have HA1 := Lib.hid a1'; clear a1'
  have HA2 := Lib.hid a2'; clear a2'
  have hzi := hboys.1
  have HW := Lib.hid (boy_wide (hbs x (List.mem_of_getElem? hx)))
  go_enter Tryz.func67, Tryz.ntmps67
  go_wp2_with fail
  clear z0 z1 z2 z3 z4 z5 z6 z7 z8 z9 z10
  generalize ((W.alloc (Obj.cells #[.slice (some ⟨b, o, none⟩) B.boys.length cap, .int .i64 B.weeks, .slice q B.trials.length capt] 25)).alloc (Obj.cells #[.int .i64 x.l0, .int .i64 x.l1, .int .i64 x.h0, .int .i64 x.h1, .int .i64 x.g0, .int .i64 x.g1, .int .i64 x.t0, .int .i64 x.t1, .int .i64 x.ls, .int .i64 x.b0, .int .i64 x.b1] 97)) = V0 at *
  have hS0 : VAt V0 V0.heap.size x.l0 0 0 0 0 x.ls (.slice none 0 0) [] (V0.alloc (Obj.cells #[.int .i64 x.l0, .int .i64 0, .int .i64 0, .int .i64 0, .int .i64 x.ls, .int .i64 0] 103)) := ⟨rfl, kept_alloc (kept_refl _) _, by go_simp, by go_simp, by go_simp, by go_simp, by go_simp, by go_simp, by intro i; go_simp, World.ownsRow_nil _ _ _ _⟩
  have hkv : Kept V0 (V0.alloc (Obj.cells #[.int .i64 0, .int .i64 0, .int .i64 0, .int .i64 0, .int .i64 x.ls, .int .i64 0] 103)) := kept_alloc (kept_refl _) _
  have x0 := kcell hkv X0.out
  have x1 := kcell hkv X1.out
  have x2 := kcell hkv X2.out
  have x3 := kcell hkv X3.out
  have x4 := kcell hkv X4.out
  have x5 := kcell hkv X5.out
  have x6 := kcell hkv X6.out
  have x7 := kcell hkv X7.out
  have x8 := kcell hkv X8.out
  have x9 := kcell hkv X9.out
  have x10 := kcell hkv X10.out
  have b0 := kcell hkv HA0.out
  have b1 := kcell hkv HA1.out
  have b2 := kcell hkv HA2.out
  have hzx := Go.Ai.lt_of_cell X0.out
  have hzb := Go.Ai.lt_of_cell HA0.out
  go_wp2_with fail
  clear x0 x1 x2 x3 x4 x5 x6 x7 x8 x9 x10 b0 b1 b2 hzx hzb
  go_loopw [7] (fun lv V => ∃ (m : Nat) (d1 d2 d3 d4 : Int), (m : Int) ≤ x.l1 - x.l0 + 1 ∧ VAt V0 V0.heap.size  (x.l0 + (m : Int)) d1 d2 d3 d4 x.ls lv (vpart x.lo x.hi KP 4 [] m) V) (fun lv V => (x.l1 + 1 - cellI V V0.heap.size 0).toNat)
  case atStart => exact ⟨0, _, _, _, _, by omega, by simpa [vpart] using hS0⟩
  case round =>
    obtain ⟨m0, d1, d2, d3, d4, hm0, hV⟩ := hrel
    have hM0 := cellI_eq hV.d0
    by_cases hlt0 : x.l0 + (m0 : Int) ≤ x.l1
    · obtain ⟨n0, hn0⟩ : ∃ n, n = x.l0 + (m0 : Int) := ⟨_, rfl⟩
      rw [← hn0] at hV hlt0 hM0
      have hge0 : x.l0 ≤ n0 := by omega
      have hmm0 : ((m0 + 1 : Nat) : Int) ≤ x.l1 - x.l0 + 1 := by omega
      have hnn0 := Lib.hid (show x.l0 + ((m0 + 1 : Nat) : Int) = n0 + 1 from by omega)
      have HN0 := Lib.hid hn0; clear hn0
      obtain ⟨A1, hA1⟩ : ∃ A, A = vpart x.lo x.hi KP 4 [] m0 := ⟨_, rfl⟩
      rw [← hA1] at hV
      have HQ1 := Lib.hid hA1; clear hA1
      have f0 := hV.d0
      have f1 := hV.d1
      have f2 := hV.d2
      have f3 := hV.d3
      have f4 := hV.d4
      have f5 := hV.d5
      have x0 := kcell hV.kept X0.out
      have x1 := kcell hV.kept X1.out
      have x2 := kcell hV.kept X2.out
      have x3 := kcell hV.kept X3.out
      have x4 := kcell hV.kept X4.out
      have x5 := kcell hV.kept X5.out
      have x6 := kcell hV.kept X6.out
      have x7 := kcell hV.kept X7.out
      have x8 := kcell hV.kept X8.out
      have x9 := kcell hV.kept X9.out
      have x10 := kcell hV.kept X10.out
      have b0 := kcell hV.kept HA0.out
      have b1 := kcell hV.kept HA1.out
      have b2 := kcell hV.kept HA2.out
      have ff0 := hV.fr 0
      have ff1 := hV.fr 1
      have ff2 := hV.fr 2
      have ff3 := hV.fr 3
      have ff5 := hV.fr 5
      have hz := Go.Ai.lt_of_cell f0
      have hzx := Go.Ai.lt_of_cell x0
      have hzb := Go.Ai.lt_of_cell b0
      have hv0 := hV.kept
      go_wp2_with fail
      clear f0 f1 f2 f3 f4 f5 x0 x1 x2 x3 x4 x5 x6 x7 x8 x9 x10 b0 b1 b2 ff0 ff1 ff2 ff3 ff5 hz hzx hzb
      have hS1 := hV.set1 x.h0
      clear hV
      go_loopw [7] (fun lv V => ∃ (m : Nat) (d2 d3 d4 : Int), (m : Int) ≤ x.h1 - x.h0 + 1 ∧ VAt V0 V0.heap.size n0 (x.h0 + (m : Int)) d2 d3 d4 x.ls lv (A1 ++ vpart x.lo x.hi KP 3 [n0] m) V) (fun lv V => (x.h1 + 1 - cellI V V0.heap.size 1).toNat)
      case atStart => exact ⟨0, _, _, _, by omega, by simpa [vpart] using hS1⟩
      case round =>
        obtain ⟨m1, d2, d3, d4, hm1, hV⟩ := hrel
        have hM1 := cellI_eq hV.d1
        by_cases hlt1 : x.h0 + (m1 : Int) ≤ x.h1
        · obtain ⟨n1, hn1⟩ : ∃ n, n = x.h0 + (m1 : Int) := ⟨_, rfl⟩
          rw [← hn1] at hV hlt1 hM1
          have hge1 : x.h0 ≤ n1 := by omega
          have hmm1 : ((m1 + 1 : Nat) : Int) ≤ x.h1 - x.h0 + 1 := by omega
          have hnn1 := Lib.hid (show x.h0 + ((m1 + 1 : Nat) : Int) = n1 + 1 from by omega)
          have HN1 := Lib.hid hn1; clear hn1
          obtain ⟨A2, hA2⟩ : ∃ A, A = A1 ++ vpart x.lo x.hi KP 3 [n0] m1 := ⟨_, rfl⟩
          rw [← hA2] at hV
          have HQ2 := Lib.hid hA2; clear hA2
          have f0 := hV.d0
          have f1 := hV.d1
          have f2 := hV.d2
          have f3 := hV.d3
          have f4 := hV.d4
          have f5 := hV.d5
          have x0 := kcell hV.kept X0.out
          have x1 := kcell hV.kept X1.out
          have x2 := kcell hV.kept X2.out
          have x3 := kcell hV.kept X3.out
          have x4 := kcell hV.kept X4.out
          have x5 := kcell hV.kept X5.out
          have x6 := kcell hV.kept X6.out
          have x7 := kcell hV.kept X7.out
          have x8 := kcell hV.kept X8.out
          have x9 := kcell hV.kept X9.out
          have x10 := kcell hV.kept X10.out
          have b0 := kcell hV.kept HA0.out
          have b1 := kcell hV.kept HA1.out
          have b2 := kcell hV.kept HA2.out
          have ff0 := hV.fr 0
          have ff1 := hV.fr 1
          have ff2 := hV.fr 2
          have ff3 := hV.fr 3
          have ff5 := hV.fr 5
          have hz := Go.Ai.lt_of_cell f0
          have hzx := Go.Ai.lt_of_cell x0
          have hzb := Go.Ai.lt_of_cell b0
          have hv1 := hV.kept
          go_wp2_with fail
          clear f0 f1 f2 f3 f4 f5 x0 x1 x2 x3 x4 x5 x6 x7 x8 x9 x10 b0 b1 b2 ff0 ff1 ff2 ff3 ff5 hz hzx hzb
          have hS2 := hV.set2 x.g0
          clear hV
          go_loopw [7] (fun lv V => ∃ (m : Nat) (d3 d4 : Int), (m : Int) ≤ x.g1 - x.g0 + 1 ∧ VAt V0 V0.heap.size n0 n1 (x.g0 + (m : Int)) d3 d4 x.ls lv (A2 ++ vpart x.lo x.hi KP 2 [n0, n1] m) V) (fun lv V => (x.g1 + 1 - cellI V V0.heap.size 2).toNat)
          case atStart => exact ⟨0, _, _, by omega, by simpa [vpart] using hS2⟩
          case round =>
            obtain ⟨m2, d3, d4, hm2, hV⟩ := hrel
            have hM2 := cellI_eq hV.d2
            by_cases hlt2 : x.g0 + (m2 : Int) ≤ x.g1
            · obtain ⟨n2, hn2⟩ : ∃ n, n = x.g0 + (m2 : Int) := ⟨_, rfl⟩
              rw [← hn2] at hV hlt2 hM2
              have hge2 : x.g0 ≤ n2 := by omega
              have hmm2 : ((m2 + 1 : Nat) : Int) ≤ x.g1 - x.g0 + 1 := by omega
              have hnn2 := Lib.hid (show x.g0 + ((m2 + 1 : Nat) : Int) = n2 + 1 from by omega)
              have HN2 := Lib.hid hn2; clear hn2
              obtain ⟨A3, hA3⟩ : ∃ A, A = A2 ++ vpart x.lo x.hi KP 2 [n0, n1] m2 := ⟨_, rfl⟩
              rw [← hA3] at hV
              have HQ3 := Lib.hid hA3; clear hA3
              have f0 := hV.d0
              have f1 := hV.d1
              have f2 := hV.d2
              have f3 := hV.d3
              have f4 := hV.d4
              have f5 := hV.d5
              have x0 := kcell hV.kept X0.out
              have x1 := kcell hV.kept X1.out
              have x2 := kcell hV.kept X2.out
              have x3 := kcell hV.kept X3.out
              have x4 := kcell hV.kept X4.out
              have x5 := kcell hV.kept X5.out
              have x6 := kcell hV.kept X6.out
              have x7 := kcell hV.kept X7.out
              have x8 := kcell hV.kept X8.out
              have x9 := kcell hV.kept X9.out
              have x10 := kcell hV.kept X10.out
              have b0 := kcell hV.kept HA0.out
              have b1 := kcell hV.kept HA1.out
              have b2 := kcell hV.kept HA2.out
              have ff0 := hV.fr 0
              have ff1 := hV.fr 1
              have ff2 := hV.fr 2
              have ff3 := hV.fr 3
              have ff5 := hV.fr 5
              have hz := Go.Ai.lt_of_cell f0
              have hzx := Go.Ai.lt_of_cell x0
              have hzb := Go.Ai.lt_of_cell b0
              have hv2 := hV.kept
              go_wp2_with fail
              clear f0 f1 f2 f3 f4 f5 x0 x1 x2 x3 x4 x5 x6 x7 x8 x9 x10 b0 b1 b2 ff0 ff1 ff2 ff3 ff5 hz hzx hzb
              have hS3 := hV.set3 x.t0
              clear hV
              go_loopw [7] (fun lv V => ∃ (m : Nat) (d4 : Int), (m : Int) ≤ x.t1 - x.t0 + 1 ∧ VAt V0 V0.heap.size n0 n1 n2 (x.t0 + (m : Int)) d4 x.ls lv (A3 ++ vpart x.lo x.hi KP 1 [n0, n1, n2] m) V) (fun lv V => (x.t1 + 1 - cellI V V0.heap.size 3).toNat)
              case atStart => exact ⟨0, _, by omega, by simpa [vpart] using hS3⟩
              case round =>
                obtain ⟨m3, d4, hm3, hV⟩ := hrel
                have hM3 := cellI_eq hV.d3
                by_cases hlt3 : x.t0 + (m3 : Int) ≤ x.t1
                · obtain ⟨n3, hn3⟩ : ∃ n, n = x.t0 + (m3 : Int) := ⟨_, rfl⟩
                  rw [← hn3] at hV hlt3 hM3
                  have hge3 : x.t0 ≤ n3 := by omega
                  have hmm3 : ((m3 + 1 : Nat) : Int) ≤ x.t1 - x.t0 + 1 := by omega
                  have hnn3 := Lib.hid (show x.t0 + ((m3 + 1 : Nat) : Int) = n3 + 1 from by omega)
                  have HN3 := Lib.hid hn3; clear hn3
                  obtain ⟨A4, hA4⟩ : ∃ A, A = A3 ++ vpart x.lo x.hi KP 1 [n0, n1, n2] m3 := ⟨_, rfl⟩
                  rw [← hA4] at hV
                  have HQ4 := Lib.hid hA4; clear hA4
                  have f0 := hV.d0
                  have f1 := hV.d1
                  have f2 := hV.d2
                  have f3 := hV.d3
                  have f4 := hV.d4
                  have f5 := hV.d5
                  have x0 := kcell hV.kept X0.out
                  have x1 := kcell hV.kept X1.out
                  have x2 := kcell hV.kept X2.out
                  have x3 := kcell hV.kept X3.out
                  have x4 := kcell hV.kept X4.out
                  have x5 := kcell hV.kept X5.out
                  have x6 := kcell hV.kept X6.out
                  have x7 := kcell hV.kept X7.out
                  have x8 := kcell hV.kept X8.out
                  have x9 := kcell hV.kept X9.out
                  have x10 := kcell hV.kept X10.out
                  have b0 := kcell hV.kept HA0.out
                  have b1 := kcell hV.kept HA1.out
                  have b2 := kcell hV.kept HA2.out
                  have ff0 := hV.fr 0
                  have ff1 := hV.fr 1
                  have ff2 := hV.fr 2
                  have ff3 := hV.fr 3
                  have ff5 := hV.fr 5
                  have hz := Go.Ai.lt_of_cell f0
                  have hzx := Go.Ai.lt_of_cell x0
                  have hzb := Go.Ai.lt_of_cell b0
                  have hv3 := hV.kept
                  go_wp2_with fail
                  clear f0 f1 f2 f3 f4 f5 x0 x1 x2 x3 x4 x5 x6 x7 x8 x9 x10 b0 b1 b2 ff0 ff1 ff2 ff3 ff5 hz hzx hzb
                  have hS4 := hV.set4 x.b0
                  clear hV
                  go_loopw [7] (fun lv V => ∃ (m : Nat), (m : Int) ≤ x.b1 - x.b0 + 1 ∧ VAt V0 V0.heap.size n0 n1 n2 n3 (x.b0 + (m : Int))  x.ls lv (A4 ++ vpart x.lo x.hi KP 0 [n0, n1, n2, n3] m) V) (fun lv V => (x.b1 + 1 - cellI V V0.heap.size 5).toNat)
                  case atStart => exact ⟨0, by omega, by simpa [vpart] using hS4⟩
                  case round =>
                    obtain ⟨m4, hm4, hV⟩ := hrel
                    have hM4 := cellI_eq hV.d5
                    by_cases hlt4 : x.b0 + (m4 : Int) ≤ x.b1
                    · obtain ⟨n4, hn4⟩ : ∃ n, n = x.b0 + (m4 : Int) := ⟨_, rfl⟩
                      rw [← hn4] at hV hlt4 hM4
                      have hge4 : x.b0 ≤ n4 := by omega
                      have hmm4 : ((m4 + 1 : Nat) : Int) ≤ x.b1 - x.b0 + 1 := by omega
                      have hnn4 := Lib.hid (show x.b0 + ((m4 + 1 : Nat) : Int) = n4 + 1 from by omega)
                      have HN4 := Lib.hid hn4; clear hn4
                      obtain ⟨A5, hA5⟩ : ∃ A, A = A4 ++ vpart x.lo x.hi KP 0 [n0, n1, n2, n3] m4 := ⟨_, rfl⟩
                      rw [← hA5] at hV
                      have HQ5 := Lib.hid hA5; clear hA5
                      have f0 := hV.d0
                      have f1 := hV.d1
                      have f2 := hV.d2
                      have f3 := hV.d3
                      have f4 := hV.d4
                      have f5 := hV.d5
                      have x0 := kcell hV.kept X0.out
                      have x1 := kcell hV.kept X1.out
                      have x2 := kcell hV.kept X2.out
                      have x3 := kcell hV.kept X3.out
                      have x4 := kcell hV.kept X4.out
                      have x5 := kcell hV.kept X5.out
                      have x6 := kcell hV.kept X6.out
                      have x7 := kcell hV.kept X7.out
                      have x8 := kcell hV.kept X8.out
                      have x9 := kcell hV.kept X9.out
                      have x10 := kcell hV.kept X10.out
                      have b0 := kcell hV.kept HA0.out
                      have b1 := kcell hV.kept HA1.out
                      have b2 := kcell hV.kept HA2.out
                      have ff0 := hV.fr 0
                      have ff1 := hV.fr 1
                      have ff2 := hV.fr 2
                      have ff3 := hV.fr 3
                      have ff5 := hV.fr 5
                      have hz := Go.Ai.lt_of_cell f0
                      have hzx := Go.Ai.lt_of_cell x0
                      have hzb := Go.Ai.lt_of_cell b0
                      have hv4 := hV.kept
                      have hcall := rright_any (some ⟨b, o, none⟩) q cap capt B (boy : Int) n0 n1 n2 n3 n4 x.ls but wr (HB.out.kept (kept_trans hk0 hV.kept)) hok hbt (by omega) (by omega) (by omega) (by omega)
                      unfold Book.val at hcall
                      rw [show rightB B.trials n0 n1 n2 n3 n4 x.ls boy but = KP [n0, n1, n2, n3, n4] from by rw [← hKP]; rfl] at hcall
                      have HC := Lib.hid hcall; clear hcall
                      have HVV := Lib.hid hV
                      go_wp2_with fail
                      refine HC.out.mono ?_
                      rintro e w2 ⟨rfl, hk2⟩
                      clear HC hV f0 f1 f2 f3 f4 f5 x0 x1 x2 x3 x4 x5 x6 x7 x8 x9 x10 b0 b1 b2 ff0 ff1 ff2 ff3 ff5 hz hzx hzb
                      have hV := HVV.out.go hk2
                      cases hkp : KP [n0, n1, n2, n3, n4] with
                      | false =>
                        have f0 := hV.d0
                        have f1 := hV.d1
                        have f2 := hV.d2
                        have f3 := hV.d3
                        have f4 := hV.d4
                        have f5 := hV.d5
                        have x0 := kcell hV.kept X0.out
                        have x1 := kcell hV.kept X1.out
                        have x2 := kcell hV.kept X2.out
                        have x3 := kcell hV.kept X3.out
                        have x4 := kcell hV.kept X4.out
                        have x5 := kcell hV.kept X5.out
                        have x6 := kcell hV.kept X6.out
                        have x7 := kcell hV.kept X7.out
                        have x8 := kcell hV.kept X8.out
                        have x9 := kcell hV.kept X9.out
                        have x10 := kcell hV.kept X10.out
                        have b0 := kcell hV.kept HA0.out
                        have b1 := kcell hV.kept HA1.out
                        have b2 := kcell hV.kept HA2.out
                        have ff0 := hV.fr 0
                        have ff1 := hV.fr 1
                        have ff2 := hV.fr 2
                        have ff3 := hV.fr 3
                        have ff5 := hV.fr 5
                        have hz := Go.Ai.lt_of_cell f0
                        have hzx := Go.Ai.lt_of_cell x0
                        have hzb := Go.Ai.lt_of_cell b0
                        have HV2 := Lib.hid hV; clear hV
                        have HKQ := Lib.hid hkp; clear hkp
                        have hw5 : IntKind.i64.wrap (n4 + 1) = n4 + 1 := IntWalk.i64_in _ (by omega)
                        go_wp2_with fail
                        have hN := HV2.out.set4 (n4 + 1)
                        go_roundw
                        case rel => exact ⟨m4 + 1, hmm4, by rw [hnn4.out, ← vlast x.lo x.hi KP [n0, n1, n2, n3] n4 m4 A4 A5 HN4.out HQ5.out, show vgen x.lo x.hi KP 0 ([n0, n1, n2, n3] ++ [n4]) = [] from vgen_no HKQ.out, List.append_nil]; exact hN⟩
                        case measure => rw [hM4, cellI_eq hN.d5]; omega
                      | true =>
                        have f0 := hV.d0
                        have f1 := hV.d1
                        have f2 := hV.d2
                        have f3 := hV.d3
                        have f4 := hV.d4
                        have f5 := hV.d5
                        have x0 := kcell hV.kept X0.out
                        have x1 := kcell hV.kept X1.out
                        have x2 := kcell hV.kept X2.out
                        have x3 := kcell hV.kept X3.out
                        have x4 := kcell hV.kept X4.out
                        have x5 := kcell hV.kept X5.out
                        have x6 := kcell hV.kept X6.out
                        have x7 := kcell hV.kept X7.out
                        have x8 := kcell hV.kept X8.out
                        have x9 := kcell hV.kept X9.out
                        have x10 := kcell hV.kept X10.out
                        have b0 := kcell hV.kept HA0.out
                        have b1 := kcell hV.kept HA1.out
                        have b2 := kcell hV.kept HA2.out
                        have ff0 := hV.fr 0
                        have ff1 := hV.fr 1
                        have ff2 := hV.fr 2
                        have ff3 := hV.fr 3
                        have ff5 := hV.fr 5
                        have hz := Go.Ai.lt_of_cell f0
                        have hzx := Go.Ai.lt_of_cell x0
                        have hzb := Go.Ai.lt_of_cell b0
                        have HKQ := Lib.hid hkp; clear hkp
                        have hw5 : IntKind.i64.wrap (n4 + 1) = n4 + 1 := IntWalk.i64_in _ (by omega)
                        obtain ⟨i0, hi0, hiz, his, hib⟩ := info_parts infoVc
                        have HGA := Lib.hid (hV.go (kept_alloc (kept_refl w2) (Obj.cells #[.int .i64 n0, .int .i64 n1, .int .i64 n2, .int .i64 n3, .int .i64 x.ls, .int .i64 n4] 103)))
                        have hlen : (A5.flatMap (vC x.ls)).length = A5.length * 6 := hV.row.1
                        have hA5l : A5.length ≤ 100000 := by
                          have p0 := vpart_len (kp := KP) HW.out 4 [] m0
                          have p1 := vpart_len (kp := KP) HW.out 3 [n0] m1
                          have p2 := vpart_len (kp := KP) HW.out 2 [n0, n1] m2
                          have p3 := vpart_len (kp := KP) HW.out 1 [n0, n1, n2] m3
                          have p4 := vpart_len (kp := KP) HW.out 0 [n0, n1, n2, n3] m4
                          have q0 := congrArg List.length HQ1.out
                          have q1 := congrArg List.length HQ2.out
                          have q2 := congrArg List.length HQ3.out
                          have q3 := congrArg List.length HQ4.out
                          have q4 := congrArg List.length HQ5.out
                          simp only [List.length_append] at q1 q2 q3 q4
                          omega
                        clear hV
                        go_wp2_with (at_builtin
                                     refine wpList_append_lies _ rfl _ _ 100 rfl (V0.heap.size + 1) 103 i0 _ 6 48 Tryz.underlying100 hi0 hiz his hib rfl (by decide) u7 A5.length (A5.flatMap (vC x.ls)) rfl HGA.out.row ⟨w2.heap.size, 0, none⟩ 1 1 [.int .i64 n0, .int .i64 n1, .int .i64 n2, .int .i64 n3, .int .i64 x.ls, .int .i64 n4] rfl rfl (vc_news (by go_simp) (by go_simp) (by go_simp) (by go_simp) (by go_simp) (by go_simp)) (by simp [Value.oneCell']) (by decide) (by unfold maxLen; omega) (by omega) (by simp; omega) _ rfl ?_
                                     intro gx cap2 VE hown hgrow hat hlt3
                                     have hNV := HGA.out.grew (n := [n0, n1, n2, n3, n4]) hown hgrow
                                     have g5 := hNV.d5
                                     have gf5 := hNV.fr 5
                                     have gz := Go.Ai.lt_of_cell g5)
                        have hN := hNV.set4 (n4 + 1)
                        go_roundw
                        case rel => exact ⟨m4 + 1, hmm4, by rw [hnn4.out, ← vlast x.lo x.hi KP [n0, n1, n2, n3] n4 m4 A4 A5 HN4.out HQ5.out, show vgen x.lo x.hi KP 0 ([n0, n1, n2, n3] ++ [n4]) = [[n0, n1, n2, n3, n4]] from vgen_yes HKQ.out]; exact hN⟩
                        case measure => rw [hM4, cellI_eq hN.d5]; omega
                    · have hme4 : (m4 : Int) = x.b1 - x.b0 + 1 := by omega
                      have f0 := hV.d0
                      have f1 := hV.d1
                      have f2 := hV.d2
                      have f3 := hV.d3
                      have f4 := hV.d4
                      have f5 := hV.d5
                      have x0 := kcell hV.kept X0.out
                      have x1 := kcell hV.kept X1.out
                      have x2 := kcell hV.kept X2.out
                      have x3 := kcell hV.kept X3.out
                      have x4 := kcell hV.kept X4.out
                      have x5 := kcell hV.kept X5.out
                      have x6 := kcell hV.kept X6.out
                      have x7 := kcell hV.kept X7.out
                      have x8 := kcell hV.kept X8.out
                      have x9 := kcell hV.kept X9.out
                      have x10 := kcell hV.kept X10.out
                      have b0 := kcell hV.kept HA0.out
                      have b1 := kcell hV.kept HA1.out
                      have b2 := kcell hV.kept HA2.out
                      have ff0 := hV.fr 0
                      have ff1 := hV.fr 1
                      have ff2 := hV.fr 2
                      have ff3 := hV.fr 3
                      have ff5 := hV.fr 5
                      have hz := Go.Ai.lt_of_cell f0
                      have hzx := Go.Ai.lt_of_cell x0
                      have hzb := Go.Ai.lt_of_cell b0
                      have HV2 := Lib.hid hV; clear hV
                      have hw3 : IntKind.i64.wrap (n3 + 1) = n3 + 1 := IntWalk.i64_in _ (by omega)
                      go_wp2_with fail
                      have hN := HV2.out.set3 (n3 + 1)
                      have hL : A4 ++ vpart x.lo x.hi KP 0 [n0, n1, n2, n3] m4 = A3 ++ vpart x.lo x.hi KP 1 [n0, n1, n2] (m3 + 1) := vnest x.lo x.hi KP 0 [n0, n1, n2] n3 m3 m4 A3 A4 HN3.out HQ4.out hme4
                      rw [hL] at hN
                      go_roundw
                      case rel => exact ⟨m3 + 1, _, hmm3, by rw [hnn3.out]; exact hN⟩
                      case measure => rw [hM3, cellI_eq hN.d3]; omega
                · have hme3 : (m3 : Int) = x.t1 - x.t0 + 1 := by omega
                  have f0 := hV.d0
                  have f1 := hV.d1
                  have f2 := hV.d2
                  have f3 := hV.d3
                  have f4 := hV.d4
                  have f5 := hV.d5
                  have x0 := kcell hV.kept X0.out
                  have x1 := kcell hV.kept X1.out
                  have x2 := kcell hV.kept X2.out
                  have x3 := kcell hV.kept X3.out
                  have x4 := kcell hV.kept X4.out
                  have x5 := kcell hV.kept X5.out
                  have x6 := kcell hV.kept X6.out
                  have x7 := kcell hV.kept X7.out
                  have x8 := kcell hV.kept X8.out
                  have x9 := kcell hV.kept X9.out
                  have x10 := kcell hV.kept X10.out
                  have b0 := kcell hV.kept HA0.out
                  have b1 := kcell hV.kept HA1.out
                  have b2 := kcell hV.kept HA2.out
                  have ff0 := hV.fr 0
                  have ff1 := hV.fr 1
                  have ff2 := hV.fr 2
                  have ff3 := hV.fr 3
                  have ff5 := hV.fr 5
                  have hz := Go.Ai.lt_of_cell f0
                  have hzx := Go.Ai.lt_of_cell x0
                  have hzb := Go.Ai.lt_of_cell b0
                  have HV2 := Lib.hid hV; clear hV
                  have hw2 : IntKind.i64.wrap (n2 + 1) = n2 + 1 := IntWalk.i64_in _ (by omega)
                  go_wp2_with fail
                  have hN := HV2.out.set2 (n2 + 1)
                  have hL : A3 ++ vpart x.lo x.hi KP 1 [n0, n1, n2] m3 = A2 ++ vpart x.lo x.hi KP 2 [n0, n1] (m2 + 1) := vnest x.lo x.hi KP 1 [n0, n1] n2 m2 m3 A2 A3 HN2.out HQ3.out hme3
                  rw [hL] at hN
                  go_roundw
                  case rel => exact ⟨m2 + 1, _, _, hmm2, by rw [hnn2.out]; exact hN⟩
                  case measure => rw [hM2, cellI_eq hN.d2]; omega
            · have hme2 : (m2 : Int) = x.g1 - x.g0 + 1 := by omega
              have f0 := hV.d0
              have f1 := hV.d1
              have f2 := hV.d2
              have f3 := hV.d3
              have f4 := hV.d4
              have f5 := hV.d5
              have x0 := kcell hV.kept X0.out
              have x1 := kcell hV.kept X1.out
              have x2 := kcell hV.kept X2.out
              have x3 := kcell hV.kept X3.out
              have x4 := kcell hV.kept X4.out
              have x5 := kcell hV.kept X5.out
              have x6 := kcell hV.kept X6.out
              have x7 := kcell hV.kept X7.out
              have x8 := kcell hV.kept X8.out
              have x9 := kcell hV.kept X9.out
              have x10 := kcell hV.kept X10.out
              have b0 := kcell hV.kept HA0.out
              have b1 := kcell hV.kept HA1.out
              have b2 := kcell hV.kept HA2.out
              have ff0 := hV.fr 0
              have ff1 := hV.fr 1
              have ff2 := hV.fr 2
              have ff3 := hV.fr 3
              have ff5 := hV.fr 5
              have hz := Go.Ai.lt_of_cell f0
              have hzx := Go.Ai.lt_of_cell x0
              have hzb := Go.Ai.lt_of_cell b0
              have HV2 := Lib.hid hV; clear hV
              have hw1 : IntKind.i64.wrap (n1 + 1) = n1 + 1 := IntWalk.i64_in _ (by omega)
              go_wp2_with fail
              have hN := HV2.out.set1 (n1 + 1)
              have hL : A2 ++ vpart x.lo x.hi KP 2 [n0, n1] m2 = A1 ++ vpart x.lo x.hi KP 3 [n0] (m1 + 1) := vnest x.lo x.hi KP 2 [n0] n1 m1 m2 A1 A2 HN1.out HQ2.out hme2
              rw [hL] at hN
              go_roundw
              case rel => exact ⟨m1 + 1, _, _, _, hmm1, by rw [hnn1.out]; exact hN⟩
              case measure => rw [hM1, cellI_eq hN.d1]; omega
        · have hme1 : (m1 : Int) = x.h1 - x.h0 + 1 := by omega
          have f0 := hV.d0
          have f1 := hV.d1
          have f2 := hV.d2
          have f3 := hV.d3
          have f4 := hV.d4
          have f5 := hV.d5
          have x0 := kcell hV.kept X0.out
          have x1 := kcell hV.kept X1.out
          have x2 := kcell hV.kept X2.out
          have x3 := kcell hV.kept X3.out
          have x4 := kcell hV.kept X4.out
          have x5 := kcell hV.kept X5.out
          have x6 := kcell hV.kept X6.out
          have x7 := kcell hV.kept X7.out
          have x8 := kcell hV.kept X8.out
          have x9 := kcell hV.kept X9.out
          have x10 := kcell hV.kept X10.out
          have b0 := kcell hV.kept HA0.out
          have b1 := kcell hV.kept HA1.out
          have b2 := kcell hV.kept HA2.out
          have ff0 := hV.fr 0
          have ff1 := hV.fr 1
          have ff2 := hV.fr 2
          have ff3 := hV.fr 3
          have ff5 := hV.fr 5
          have hz := Go.Ai.lt_of_cell f0
          have hzx := Go.Ai.lt_of_cell x0
          have hzb := Go.Ai.lt_of_cell b0
          have HV2 := Lib.hid hV; clear hV
          have hw0 : IntKind.i64.wrap (n0 + 1) = n0 + 1 := IntWalk.i64_in _ (by omega)
          go_wp2_with fail
          have hN := HV2.out.set0 (n0 + 1)
          have hL : A1 ++ vpart x.lo x.hi KP 3 [n0] m1 = vpart x.lo x.hi KP 4 [] (m0 + 1) := (vnest x.lo x.hi KP 3 [] n0 m0 m1 [] A1 HN0.out (HQ1.out.trans (List.nil_append _).symm) hme1).trans (List.nil_append _)
          rw [hL] at hN
          go_roundw
          case rel => exact ⟨m0 + 1, _, _, _, _, hmm0, by rw [hnn0.out]; exact hN⟩
          case measure => rw [hM0, cellI_eq hN.d0]; omega
    · have hme0 : (m0 : Int) = x.l1 - x.l0 + 1 := by omega
      have f0 := hV.d0
      have f1 := hV.d1
      have f2 := hV.d2
      have f3 := hV.d3
      have f4 := hV.d4
      have f5 := hV.d5
      have x0 := kcell hV.kept X0.out
      have x1 := kcell hV.kept X1.out
      have x2 := kcell hV.kept X2.out
      have x3 := kcell hV.kept X3.out
      have x4 := kcell hV.kept X4.out
      have x5 := kcell hV.kept X5.out
      have x6 := kcell hV.kept X6.out
      have x7 := kcell hV.kept X7.out
      have x8 := kcell hV.kept X8.out
      have x9 := kcell hV.kept X9.out
      have x10 := kcell hV.kept X10.out
      have b0 := kcell hV.kept HA0.out
      have b1 := kcell hV.kept HA1.out
      have b2 := kcell hV.kept HA2.out
      have ff0 := hV.fr 0
      have ff1 := hV.fr 1
      have ff2 := hV.fr 2
      have ff3 := hV.fr 3
      have ff5 := hV.fr 5
      have hz := Go.Ai.lt_of_cell f0
      have hzx := Go.Ai.lt_of_cell x0
      have hzb := Go.Ai.lt_of_cell b0
      have HV2 := Lib.hid hV; clear hV
      go_wp2_with fail
      refine bodyPost_ret (v := u7) (by simp [results, Tryz.results67, go_sem]) rfl ?_
      refine ⟨_, rfl, kept_trans hk0 HV2.out.kept, ?_⟩
      have hL : vgen x.lo x.hi KP 5 [] = vpart x.lo x.hi KP 4 [] m0 := by rw [vgen_succ, show (x.hi ([] : List Int).length - x.lo ([] : List Int).length + 1).toNat = m0 from by show (x.l1 - x.l0 + 1).toNat = m0; omega]
      rw [hL]
      exact row_le HV2.out.row (by have := hk0.size; omega)
theorem vc_get (ls : Int) : ∀ (l : List (List Int)) (i k : Nat) (x : List Int), l[i]? = some x → k < 6 → (l.flatMap (vC ls))[i * 6 + k]? = (vC ls x)[k]?
  | [], i, k, x, h, _ => by simp at h
  | y :: l, 0, k, x, h, hk => by
    simp only [List.getElem?_cons_zero, Option.some.injEq] at h
    subst h
    rw [List.flatMap_cons, List.getElem?_append_left (by show 0 * 6 + k < 6; omega)]
    simp
  | y :: l, i + 1, k, x, h, hk => by
    rw [List.flatMap_cons, List.getElem?_append_right (by show 6 ≤ (i + 1) * 6 + k; omega)]
    rw [show (i + 1) * 6 + k - (vC ls y).length = i * 6 + k by show (i + 1) * 6 + k - 6 = i * 6 + k; omega]
    exact vc_get ls l i k x (by simpa using h) hk
def VoicesAt (w : World) (v : Value) (ls : Int) (L : List (List Int)) : Prop :=
  ∃ p cap, v = .slice p L.length cap ∧ (L = [] ∨ ∃ g, p = some ⟨g, 0, none⟩ ∧ ∀ (i : Nat) (n : List Int), L[i]? = some n → w.cell? ⟨g, i * 6, none⟩ = some (.int .i64 (n.getD 0 0)) ∧ w.cell? ⟨g, i * 6 + 1, none⟩ = some (.int .i64 (n.getD 1 0)) ∧ w.cell? ⟨g, i * 6 + 2, none⟩ = some (.int .i64 (n.getD 2 0)) ∧ w.cell? ⟨g, i * 6 + 3, none⟩ = some (.int .i64 (n.getD 3 0)) ∧ w.cell? ⟨g, i * 6 + 4, none⟩ = some (.int .i64 ls) ∧ w.cell? ⟨g, i * 6 + 5, none⟩ = some (.int .i64 (n.getD 4 0)))
theorem VoicesAt.kept {w w' : World} {v : Value} {ls : Int} {L : List (List Int)} (h : VoicesAt w v ls L) (k : Kept w w') : VoicesAt w' v ls L := by
  obtain ⟨p, cap, e, h⟩ := h
  refine ⟨p, cap, e, h.imp id fun ⟨g, e2, hc⟩ => ⟨g, e2, fun i n hi => ?_⟩⟩
  obtain ⟨a0, a1, a2, a3, a4, a5⟩ := hc i n hi
  exact ⟨kcell k a0, kcell k a1, kcell k a2, kcell k a3, kcell k a4, kcell k a5⟩
theorem VoicesAt.of_row {w : World} {base : Nat} {v : Value} {ls : Int} {L : List (List Int)} (h : w.ownsRow base 103 6 v L.length (L.flatMap (vC ls))) : VoicesAt w v ls L := by
  have hc := h
  rcases h.2 with ⟨rfl, h0⟩ | ⟨g, cap, cur, rfl, _, hg, _⟩
  · have : L = [] := List.length_eq_zero_iff.1 h0
    subst this
    exact ⟨none, 0, rfl, .inl rfl⟩
  · refine ⟨_, cap, rfl, .inr ⟨g, rfl, fun i n hi => ?_⟩⟩
    have hl : i < L.length := (List.getElem?_eq_some_iff.1 hi).1
    have hc2 : ∀ k v, k < 6 → (vC ls n)[k]? = some v → w.cell? ⟨g, i * 6 + k, none⟩ = some v := fun k v hk hv => by
      have h1 := hc.cellAt (i * 6 + k) (by omega)
      rw [vc_get _ _ _ _ _ hi hk, hv] at h1
      simpa using h1
    exact ⟨hc2 0 _ (by omega) rfl, hc2 1 _ (by omega) rfl, hc2 2 _ (by omega) rfl, hc2 3 _ (by omega) rfl, hc2 4 _ (by omega) rfl, hc2 5 _ (by omega) rfl⟩
def Book.fineB (B : Book) (but : Nat) : Bool := (List.range B.boys.length).all fun i => match B.boys[i]? with
  | some x => !(B.voices i x but).isEmpty
  | none => true
theorem fineB_true {B : Book} {but : Nat} (h : ∀ (i : Nat) (x : Boy), i < B.boys.length → B.boys[i]? = some x → B.voices i x but ≠ []) : B.fineB but = true := by
  unfold Book.fineB
  rw [List.all_eq_true]
  intro i hi
  have hi := List.mem_range.1 hi
  rw [List.getElem?_eq_getElem hi]
  have := h i _ hi (List.getElem?_eq_getElem hi)
  simpa [List.isEmpty_iff] using this
theorem fineB_false {B : Book} {but i : Nat} {x : Boy} (hx : B.boys[i]? = some x) (h : B.voices i x but = []) : B.fineB but = false := by
  unfold Book.fineB
  rw [List.all_eq_false]
  refine ⟨i, List.mem_range.2 (List.getElem?_eq_some_iff.1 hx).1, ?_⟩
  rw [hx]
  simp [h]
set_option maxHeartbeats 4000000 in
theorem fine_any (p q : Option Addr) (cap capt : Nat) (B : Book) (but : Nat) (W : World) (h : BookAt W p q cap capt B) (hok : B.okB = true) (hbt : but < 64) :
    Calls Tryz.prog 60 #[B.val p q cap capt, .int .i64 (but : Int)] W fun e C => e = .returned (.bool (B.fineB but)) ∧ Kept W C := by
  obtain ⟨⟨q1, q2, q3, q4, q5⟩, -, -⟩ := okB_boys hok
  unfold Book.val
  obtain ⟨hk0, a0, a1, a2⟩ := bk0 W p q cap capt B
  have HB := Lib.hid h; clear h
  go_enter Tryz.func60, Tryz.ntmps60
  go_wp2_with fail
  generalize (W.alloc (Obj.cells #[.slice p B.boys.length cap, .int .i64 B.weeks, .slice q B.trials.length capt] 25)) = W0 at *
  go_loopw [5] (fun i V => ∃ k : Nat, k ≤ B.boys.length ∧ i = .int .i64 k ∧ (∀ (j : Nat) (x : Boy), j < k → B.boys[j]? = some x → B.voices j x but ≠ []) ∧ Kept W0 V) (fun i V => B.boys.length - (intOf i).toNat)
  case atStart => exact ⟨0, by omega, rfl, fun j x hj => by omega, kept_refl _⟩
  case round =>
    obtain ⟨k, hk, rfl, hno, hkV⟩ := hrel
    replace a0 := kcell hkV a0
    replace a1 := kcell hkV a1
    replace a2 := kcell hkV a2
    have hza := Go.Ai.lt_of_cell a0
    by_cases hlt : k < B.boys.length
    · have hltI : (k : Int) < B.boys.length := by omega
      obtain ⟨x, hget⟩ : ∃ x, B.boys[k]? = some x := ⟨_, List.getElem?_eq_getElem hlt⟩
      have hcall := voices_any p q cap capt B k x but wr (HB.out.kept (kept_trans hk0 hkV)) hok hbt hget
      unfold Book.val at hcall
      have HC := Lib.hid hcall; clear hcall
      have HNO := Lib.hid (show B.voices k x but ≠ [] → ∀ (j : Nat) (u : Boy), j < k + 1 → B.boys[j]? = some u → B.voices j u but ≠ [] from fun hb j u hj hu => by
        rcases Nat.lt_or_ge j k with hjk | hjk
        · exact hno j u hjk hu
        · obtain rfl : j = k := by omega
          rw [hget] at hu; cases hu; exact hb)
      have HGT := Lib.hid hget
      clear hno hget
      go_wp2_with fail
      refine HC.out.mono ?_
      rintro e w2 ⟨v, rfl, hk2, hrow⟩
      obtain ⟨pv, capv, rfl, -⟩ := VoicesAt.of_row hrow
      clear HC hrow
      generalize hnl' : (B.voices k x but).length = nl
      have hkQ := kept_trans hkV hk2
      have hnl := hnl'.symm
      clear hnl'
      by_cases hL : nl = 0
      · subst hL
        have HL := Lib.hid (List.length_eq_zero_iff.1 hnl.symm)
        go_wp2_with fail
        refine bodyPost_ret (v := .bool false) (by simp [results, Tryz.results60, go_sem]) rfl ?_
        exact ⟨by rw [fineB_false HGT.out HL.out], kept_trans hk0 hkQ⟩
      · have hN := Lib.hid (HNO.out (fun e => hL (by rw [hnl, e]; rfl)))
        have hnI : ((nl : Int) == 0) = false := by simp; omega
        clear hL HNO HGT hnl
        go_wp2_with fail
        go_roundw
        case rel => exact ⟨k + 1, by omega, by go_num, hN.out, hkQ⟩
        case measure => simp [intOf]; omega
    · have hltI : ¬ (k : Int) < B.boys.length := by omega
      obtain rfl : k = B.boys.length := by omega
      have HNO := Lib.hid (fineB_true hno)
      clear hno
      go_wp2_with fail
      refine bodyPost_ret (v := .bool true) (by simp [results, Tryz.results60, go_sem]) rfl ?_
      exact ⟨by rw [HNO.out], kept_trans hk0 hkV⟩
set_option maxHeartbeats 2000000 in
theorem rtrial_0 (p : Option Addr) (len cap : Nat) (wk : Int) (ts : Value) (t : Trial) (w : World) (hl : len ≤ 140737488355328) (g0 : inB t.boy 0 (len - 1) = false) :
    Calls Tryz.prog 63 #[.agg #[.slice p len cap, .int .i64 wk, ts], .agg #[.int .i64 t.boy, .int .i64 t.week, .int .i64 t.note, .int .i64 t.sang]] w fun e w' => e = .returned (.bool false) ∧ Kept w w' := by
    have hk0 : Kept w ((w.alloc (Obj.cells #[.slice p len cap, .int .i64 wk, ts] 25)).alloc (Obj.cells #[.int .i64 t.boy, .int .i64 t.week, .int .i64 t.note, .int .i64 t.sang] 49)) := kept_alloc (kept_alloc (kept_refl _) _) _
    have a0 : ((w.alloc (Obj.cells #[.slice p len cap, .int .i64 wk, ts] 25)).alloc (Obj.cells #[.int .i64 t.boy, .int .i64 t.week, .int .i64 t.note, .int .i64 t.sang] 49)).cell? ⟨w.heap.size, 0, none⟩ = some (.slice p len cap) := by go_simp
    have a1 : ((w.alloc (Obj.cells #[.slice p len cap, .int .i64 wk, ts] 25)).alloc (Obj.cells #[.int .i64 t.boy, .int .i64 t.week, .int .i64 t.note, .int .i64 t.sang] 49)).cell? ⟨w.heap.size, 1, none⟩ = some (.int .i64 wk) := by go_simp
    have a2 : ((w.alloc (Obj.cells #[.slice p len cap, .int .i64 wk, ts] 25)).alloc (Obj.cells #[.int .i64 t.boy, .int .i64 t.week, .int .i64 t.note, .int .i64 t.sang] 49)).cell? ⟨w.heap.size, 2, none⟩ = some ts := by go_simp
    have y0 : ((w.alloc (Obj.cells #[.slice p len cap, .int .i64 wk, ts] 25)).alloc (Obj.cells #[.int .i64 t.boy, .int .i64 t.week, .int .i64 t.note, .int .i64 t.sang] 49)).cell? ⟨w.heap.size + 1, 0, none⟩ = some (.int .i64 t.boy) := by go_simp
    have y1 : ((w.alloc (Obj.cells #[.slice p len cap, .int .i64 wk, ts] 25)).alloc (Obj.cells #[.int .i64 t.boy, .int .i64 t.week, .int .i64 t.note, .int .i64 t.sang] 49)).cell? ⟨w.heap.size + 1, 1, none⟩ = some (.int .i64 t.week) := by go_simp
    have y2 : ((w.alloc (Obj.cells #[.slice p len cap, .int .i64 wk, ts] 25)).alloc (Obj.cells #[.int .i64 t.boy, .int .i64 t.week, .int .i64 t.note, .int .i64 t.sang] 49)).cell? ⟨w.heap.size + 1, 2, none⟩ = some (.int .i64 t.note) := by go_simp
    have y3 : ((w.alloc (Obj.cells #[.slice p len cap, .int .i64 wk, ts] 25)).alloc (Obj.cells #[.int .i64 t.boy, .int .i64 t.week, .int .i64 t.note, .int .i64 t.sang] 49)).cell? ⟨w.heap.size + 1, 3, none⟩ = some (.int .i64 t.sang) := by go_simp
    go_enter Tryz.func63, Tryz.ntmps63
    go_wp2_with fail
    generalize ((w.alloc (Obj.cells #[.slice p len cap, .int .i64 wk, ts] 25)).alloc (Obj.cells #[.int .i64 t.boy, .int .i64 t.week, .int .i64 t.note, .int .i64 t.sang] 49)) = w0 at *
    refine (rboy_any p len cap (.int .i64 wk) ts t.boy _ hl).mono ?_
    rintro e w1 ⟨rfl, hk1⟩
    rw [g0]
    replace a0 := kcell hk1 a0
    replace a1 := kcell hk1 a1
    replace a2 := kcell hk1 a2
    replace y0 := kcell hk1 y0
    replace y1 := kcell hk1 y1
    replace y2 := kcell hk1 y2
    replace y3 := kcell hk1 y3
    replace hk0 := kept_trans hk0 hk1
    clear hk1
    have hz := Go.Ai.lt_of_cell a0
    have hzy := Go.Ai.lt_of_cell y0
    go_wp2_with fail
    refine bodyPost_ret (v := .bool false) (by simp [results, Tryz.results63, go_sem]) rfl ⟨rfl, hk0⟩
set_option maxHeartbeats 2000000 in
theorem rtrial_1 (p : Option Addr) (len cap : Nat) (wk : Int) (ts : Value) (t : Trial) (w : World) (hl : len ≤ 140737488355328) (g0 : inB t.boy 0 (len - 1) = true) (g1 : inB t.week 0 (wrap64 (wk - 1)) = false) :
    Calls Tryz.prog 63 #[.agg #[.slice p len cap, .int .i64 wk, ts], .agg #[.int .i64 t.boy, .int .i64 t.week, .int .i64 t.note, .int .i64 t.sang]] w fun e w' => e = .returned (.bool false) ∧ Kept w w' := by
    have hk0 : Kept w ((w.alloc (Obj.cells #[.slice p len cap, .int .i64 wk, ts] 25)).alloc (Obj.cells #[.int .i64 t.boy, .int .i64 t.week, .int .i64 t.note, .int .i64 t.sang] 49)) := kept_alloc (kept_alloc (kept_refl _) _) _
    have a0 : ((w.alloc (Obj.cells #[.slice p len cap, .int .i64 wk, ts] 25)).alloc (Obj.cells #[.int .i64 t.boy, .int .i64 t.week, .int .i64 t.note, .int .i64 t.sang] 49)).cell? ⟨w.heap.size, 0, none⟩ = some (.slice p len cap) := by go_simp
    have a1 : ((w.alloc (Obj.cells #[.slice p len cap, .int .i64 wk, ts] 25)).alloc (Obj.cells #[.int .i64 t.boy, .int .i64 t.week, .int .i64 t.note, .int .i64 t.sang] 49)).cell? ⟨w.heap.size, 1, none⟩ = some (.int .i64 wk) := by go_simp
    have a2 : ((w.alloc (Obj.cells #[.slice p len cap, .int .i64 wk, ts] 25)).alloc (Obj.cells #[.int .i64 t.boy, .int .i64 t.week, .int .i64 t.note, .int .i64 t.sang] 49)).cell? ⟨w.heap.size, 2, none⟩ = some ts := by go_simp
    have y0 : ((w.alloc (Obj.cells #[.slice p len cap, .int .i64 wk, ts] 25)).alloc (Obj.cells #[.int .i64 t.boy, .int .i64 t.week, .int .i64 t.note, .int .i64 t.sang] 49)).cell? ⟨w.heap.size + 1, 0, none⟩ = some (.int .i64 t.boy) := by go_simp
    have y1 : ((w.alloc (Obj.cells #[.slice p len cap, .int .i64 wk, ts] 25)).alloc (Obj.cells #[.int .i64 t.boy, .int .i64 t.week, .int .i64 t.note, .int .i64 t.sang] 49)).cell? ⟨w.heap.size + 1, 1, none⟩ = some (.int .i64 t.week) := by go_simp
    have y2 : ((w.alloc (Obj.cells #[.slice p len cap, .int .i64 wk, ts] 25)).alloc (Obj.cells #[.int .i64 t.boy, .int .i64 t.week, .int .i64 t.note, .int .i64 t.sang] 49)).cell? ⟨w.heap.size + 1, 2, none⟩ = some (.int .i64 t.note) := by go_simp
    have y3 : ((w.alloc (Obj.cells #[.slice p len cap, .int .i64 wk, ts] 25)).alloc (Obj.cells #[.int .i64 t.boy, .int .i64 t.week, .int .i64 t.note, .int .i64 t.sang] 49)).cell? ⟨w.heap.size + 1, 3, none⟩ = some (.int .i64 t.sang) := by go_simp
    go_enter Tryz.func63, Tryz.ntmps63
    go_wp2_with fail
    generalize ((w.alloc (Obj.cells #[.slice p len cap, .int .i64 wk, ts] 25)).alloc (Obj.cells #[.int .i64 t.boy, .int .i64 t.week, .int .i64 t.note, .int .i64 t.sang] 49)) = w0 at *
    refine (rboy_any p len cap (.int .i64 wk) ts t.boy _ hl).mono ?_
    rintro e w1 ⟨rfl, hk1⟩
    rw [g0]
    replace a0 := kcell hk1 a0
    replace a1 := kcell hk1 a1
    replace a2 := kcell hk1 a2
    replace y0 := kcell hk1 y0
    replace y1 := kcell hk1 y1
    replace y2 := kcell hk1 y2
    replace y3 := kcell hk1 y3
    replace hk0 := kept_trans hk0 hk1
    clear hk1
    have hz := Go.Ai.lt_of_cell a0
    have hzy := Go.Ai.lt_of_cell y0
    go_wp2_with fail
    refine (rweek_any (.slice p len cap) ts wk t.week _).mono ?_
    rintro e w2 ⟨rfl, hk2⟩
    rw [g1]
    replace a0 := kcell hk2 a0
    replace a1 := kcell hk2 a1
    replace a2 := kcell hk2 a2
    replace y0 := kcell hk2 y0
    replace y1 := kcell hk2 y1
    replace y2 := kcell hk2 y2
    replace y3 := kcell hk2 y3
    replace hk0 := kept_trans hk0 hk2
    clear hk2
    have hz := Go.Ai.lt_of_cell a0
    have hzy := Go.Ai.lt_of_cell y0
    go_wp2_with fail
    refine bodyPost_ret (v := .bool false) (by simp [results, Tryz.results63, go_sem]) rfl ⟨rfl, hk0⟩
set_option maxHeartbeats 2000000 in
theorem rtrial_2 (p : Option Addr) (len cap : Nat) (wk : Int) (ts : Value) (t : Trial) (w : World) (hl : len ≤ 140737488355328) (g0 : inB t.boy 0 (len - 1) = true) (g1 : inB t.week 0 (wrap64 (wk - 1)) = true) (g2 : inB t.note 0 40 = false) :
    Calls Tryz.prog 63 #[.agg #[.slice p len cap, .int .i64 wk, ts], .agg #[.int .i64 t.boy, .int .i64 t.week, .int .i64 t.note, .int .i64 t.sang]] w fun e w' => e = .returned (.bool false) ∧ Kept w w' := by
    have hk0 : Kept w ((w.alloc (Obj.cells #[.slice p len cap, .int .i64 wk, ts] 25)).alloc (Obj.cells #[.int .i64 t.boy, .int .i64 t.week, .int .i64 t.note, .int .i64 t.sang] 49)) := kept_alloc (kept_alloc (kept_refl _) _) _
    have a0 : ((w.alloc (Obj.cells #[.slice p len cap, .int .i64 wk, ts] 25)).alloc (Obj.cells #[.int .i64 t.boy, .int .i64 t.week, .int .i64 t.note, .int .i64 t.sang] 49)).cell? ⟨w.heap.size, 0, none⟩ = some (.slice p len cap) := by go_simp
    have a1 : ((w.alloc (Obj.cells #[.slice p len cap, .int .i64 wk, ts] 25)).alloc (Obj.cells #[.int .i64 t.boy, .int .i64 t.week, .int .i64 t.note, .int .i64 t.sang] 49)).cell? ⟨w.heap.size, 1, none⟩ = some (.int .i64 wk) := by go_simp
    have a2 : ((w.alloc (Obj.cells #[.slice p len cap, .int .i64 wk, ts] 25)).alloc (Obj.cells #[.int .i64 t.boy, .int .i64 t.week, .int .i64 t.note, .int .i64 t.sang] 49)).cell? ⟨w.heap.size, 2, none⟩ = some ts := by go_simp
    have y0 : ((w.alloc (Obj.cells #[.slice p len cap, .int .i64 wk, ts] 25)).alloc (Obj.cells #[.int .i64 t.boy, .int .i64 t.week, .int .i64 t.note, .int .i64 t.sang] 49)).cell? ⟨w.heap.size + 1, 0, none⟩ = some (.int .i64 t.boy) := by go_simp
    have y1 : ((w.alloc (Obj.cells #[.slice p len cap, .int .i64 wk, ts] 25)).alloc (Obj.cells #[.int .i64 t.boy, .int .i64 t.week, .int .i64 t.note, .int .i64 t.sang] 49)).cell? ⟨w.heap.size + 1, 1, none⟩ = some (.int .i64 t.week) := by go_simp
    have y2 : ((w.alloc (Obj.cells #[.slice p len cap, .int .i64 wk, ts] 25)).alloc (Obj.cells #[.int .i64 t.boy, .int .i64 t.week, .int .i64 t.note, .int .i64 t.sang] 49)).cell? ⟨w.heap.size + 1, 2, none⟩ = some (.int .i64 t.note) := by go_simp
    have y3 : ((w.alloc (Obj.cells #[.slice p len cap, .int .i64 wk, ts] 25)).alloc (Obj.cells #[.int .i64 t.boy, .int .i64 t.week, .int .i64 t.note, .int .i64 t.sang] 49)).cell? ⟨w.heap.size + 1, 3, none⟩ = some (.int .i64 t.sang) := by go_simp
    go_enter Tryz.func63, Tryz.ntmps63
    go_wp2_with fail
    generalize ((w.alloc (Obj.cells #[.slice p len cap, .int .i64 wk, ts] 25)).alloc (Obj.cells #[.int .i64 t.boy, .int .i64 t.week, .int .i64 t.note, .int .i64 t.sang] 49)) = w0 at *
    refine (rboy_any p len cap (.int .i64 wk) ts t.boy _ hl).mono ?_
    rintro e w1 ⟨rfl, hk1⟩
    rw [g0]
    replace a0 := kcell hk1 a0
    replace a1 := kcell hk1 a1
    replace a2 := kcell hk1 a2
    replace y0 := kcell hk1 y0
    replace y1 := kcell hk1 y1
    replace y2 := kcell hk1 y2
    replace y3 := kcell hk1 y3
    replace hk0 := kept_trans hk0 hk1
    clear hk1
    have hz := Go.Ai.lt_of_cell a0
    have hzy := Go.Ai.lt_of_cell y0
    go_wp2_with fail
    refine (rweek_any (.slice p len cap) ts wk t.week _).mono ?_
    rintro e w2 ⟨rfl, hk2⟩
    rw [g1]
    replace a0 := kcell hk2 a0
    replace a1 := kcell hk2 a1
    replace a2 := kcell hk2 a2
    replace y0 := kcell hk2 y0
    replace y1 := kcell hk2 y1
    replace y2 := kcell hk2 y2
    replace y3 := kcell hk2 y3
    replace hk0 := kept_trans hk0 hk2
    clear hk2
    have hz := Go.Ai.lt_of_cell a0
    have hzy := Go.Ai.lt_of_cell y0
    go_wp2_with fail
    refine (rnote_any t.note _).mono ?_
    rintro e w3 ⟨rfl, hk3⟩
    rw [g2]
    replace a0 := kcell hk3 a0
    replace a1 := kcell hk3 a1
    replace a2 := kcell hk3 a2
    replace y0 := kcell hk3 y0
    replace y1 := kcell hk3 y1
    replace y2 := kcell hk3 y2
    replace y3 := kcell hk3 y3
    replace hk0 := kept_trans hk0 hk3
    clear hk3
    have hz := Go.Ai.lt_of_cell a0
    have hzy := Go.Ai.lt_of_cell y0
    go_wp2_with fail
    refine bodyPost_ret (v := .bool false) (by simp [results, Tryz.results63, go_sem]) rfl ⟨rfl, hk0⟩
set_option maxHeartbeats 2000000 in
theorem rtrial_3 (p : Option Addr) (len cap : Nat) (wk : Int) (ts : Value) (t : Trial) (w : World) (hl : len ≤ 140737488355328) (g0 : inB t.boy 0 (len - 1) = true) (g1 : inB t.week 0 (wrap64 (wk - 1)) = true) (g2 : inB t.note 0 40 = true) (g3 : inB t.sang 0 1 = false) :
    Calls Tryz.prog 63 #[.agg #[.slice p len cap, .int .i64 wk, ts], .agg #[.int .i64 t.boy, .int .i64 t.week, .int .i64 t.note, .int .i64 t.sang]] w fun e w' => e = .returned (.bool false) ∧ Kept w w' := by
    have hk0 : Kept w ((w.alloc (Obj.cells #[.slice p len cap, .int .i64 wk, ts] 25)).alloc (Obj.cells #[.int .i64 t.boy, .int .i64 t.week, .int .i64 t.note, .int .i64 t.sang] 49)) := kept_alloc (kept_alloc (kept_refl _) _) _
    have a0 : ((w.alloc (Obj.cells #[.slice p len cap, .int .i64 wk, ts] 25)).alloc (Obj.cells #[.int .i64 t.boy, .int .i64 t.week, .int .i64 t.note, .int .i64 t.sang] 49)).cell? ⟨w.heap.size, 0, none⟩ = some (.slice p len cap) := by go_simp
    have a1 : ((w.alloc (Obj.cells #[.slice p len cap, .int .i64 wk, ts] 25)).alloc (Obj.cells #[.int .i64 t.boy, .int .i64 t.week, .int .i64 t.note, .int .i64 t.sang] 49)).cell? ⟨w.heap.size, 1, none⟩ = some (.int .i64 wk) := by go_simp
    have a2 : ((w.alloc (Obj.cells #[.slice p len cap, .int .i64 wk, ts] 25)).alloc (Obj.cells #[.int .i64 t.boy, .int .i64 t.week, .int .i64 t.note, .int .i64 t.sang] 49)).cell? ⟨w.heap.size, 2, none⟩ = some ts := by go_simp
    have y0 : ((w.alloc (Obj.cells #[.slice p len cap, .int .i64 wk, ts] 25)).alloc (Obj.cells #[.int .i64 t.boy, .int .i64 t.week, .int .i64 t.note, .int .i64 t.sang] 49)).cell? ⟨w.heap.size + 1, 0, none⟩ = some (.int .i64 t.boy) := by go_simp
    have y1 : ((w.alloc (Obj.cells #[.slice p len cap, .int .i64 wk, ts] 25)).alloc (Obj.cells #[.int .i64 t.boy, .int .i64 t.week, .int .i64 t.note, .int .i64 t.sang] 49)).cell? ⟨w.heap.size + 1, 1, none⟩ = some (.int .i64 t.week) := by go_simp
    have y2 : ((w.alloc (Obj.cells #[.slice p len cap, .int .i64 wk, ts] 25)).alloc (Obj.cells #[.int .i64 t.boy, .int .i64 t.week, .int .i64 t.note, .int .i64 t.sang] 49)).cell? ⟨w.heap.size + 1, 2, none⟩ = some (.int .i64 t.note) := by go_simp
    have y3 : ((w.alloc (Obj.cells #[.slice p len cap, .int .i64 wk, ts] 25)).alloc (Obj.cells #[.int .i64 t.boy, .int .i64 t.week, .int .i64 t.note, .int .i64 t.sang] 49)).cell? ⟨w.heap.size + 1, 3, none⟩ = some (.int .i64 t.sang) := by go_simp
    go_enter Tryz.func63, Tryz.ntmps63
    go_wp2_with fail
    generalize ((w.alloc (Obj.cells #[.slice p len cap, .int .i64 wk, ts] 25)).alloc (Obj.cells #[.int .i64 t.boy, .int .i64 t.week, .int .i64 t.note, .int .i64 t.sang] 49)) = w0 at *
    refine (rboy_any p len cap (.int .i64 wk) ts t.boy _ hl).mono ?_
    rintro e w1 ⟨rfl, hk1⟩
    rw [g0]
    replace a0 := kcell hk1 a0
    replace a1 := kcell hk1 a1
    replace a2 := kcell hk1 a2
    replace y0 := kcell hk1 y0
    replace y1 := kcell hk1 y1
    replace y2 := kcell hk1 y2
    replace y3 := kcell hk1 y3
    replace hk0 := kept_trans hk0 hk1
    clear hk1
    have hz := Go.Ai.lt_of_cell a0
    have hzy := Go.Ai.lt_of_cell y0
    go_wp2_with fail
    refine (rweek_any (.slice p len cap) ts wk t.week _).mono ?_
    rintro e w2 ⟨rfl, hk2⟩
    rw [g1]
    replace a0 := kcell hk2 a0
    replace a1 := kcell hk2 a1
    replace a2 := kcell hk2 a2
    replace y0 := kcell hk2 y0
    replace y1 := kcell hk2 y1
    replace y2 := kcell hk2 y2
    replace y3 := kcell hk2 y3
    replace hk0 := kept_trans hk0 hk2
    clear hk2
    have hz := Go.Ai.lt_of_cell a0
    have hzy := Go.Ai.lt_of_cell y0
    go_wp2_with fail
    refine (rnote_any t.note _).mono ?_
    rintro e w3 ⟨rfl, hk3⟩
    rw [g2]
    replace a0 := kcell hk3 a0
    replace a1 := kcell hk3 a1
    replace a2 := kcell hk3 a2
    replace y0 := kcell hk3 y0
    replace y1 := kcell hk3 y1
    replace y2 := kcell hk3 y2
    replace y3 := kcell hk3 y3
    replace hk0 := kept_trans hk0 hk3
    clear hk3
    have hz := Go.Ai.lt_of_cell a0
    have hzy := Go.Ai.lt_of_cell y0
    go_wp2_with fail
    refine ((lies_any t.sang 0 1 _)).mono ?_
    rintro e w4 ⟨rfl, rfl⟩
    rw [g3]
    go_wp2_with fail
    refine bodyPost_ret (v := .bool false) (by simp [results, Tryz.results63, go_sem]) rfl ⟨rfl, hk0⟩
set_option maxHeartbeats 2000000 in
theorem rtrial_4 (p : Option Addr) (len cap : Nat) (wk : Int) (ts : Value) (t : Trial) (w : World) (hl : len ≤ 140737488355328) (g0 : inB t.boy 0 (len - 1) = true) (g1 : inB t.week 0 (wrap64 (wk - 1)) = true) (g2 : inB t.note 0 40 = true) (g3 : inB t.sang 0 1 = true) :
    Calls Tryz.prog 63 #[.agg #[.slice p len cap, .int .i64 wk, ts], .agg #[.int .i64 t.boy, .int .i64 t.week, .int .i64 t.note, .int .i64 t.sang]] w fun e w' => e = .returned (.bool true) ∧ Kept w w' := by
    have hk0 : Kept w ((w.alloc (Obj.cells #[.slice p len cap, .int .i64 wk, ts] 25)).alloc (Obj.cells #[.int .i64 t.boy, .int .i64 t.week, .int .i64 t.note, .int .i64 t.sang] 49)) := kept_alloc (kept_alloc (kept_refl _) _) _
    have a0 : ((w.alloc (Obj.cells #[.slice p len cap, .int .i64 wk, ts] 25)).alloc (Obj.cells #[.int .i64 t.boy, .int .i64 t.week, .int .i64 t.note, .int .i64 t.sang] 49)).cell? ⟨w.heap.size, 0, none⟩ = some (.slice p len cap) := by go_simp
    have a1 : ((w.alloc (Obj.cells #[.slice p len cap, .int .i64 wk, ts] 25)).alloc (Obj.cells #[.int .i64 t.boy, .int .i64 t.week, .int .i64 t.note, .int .i64 t.sang] 49)).cell? ⟨w.heap.size, 1, none⟩ = some (.int .i64 wk) := by go_simp
    have a2 : ((w.alloc (Obj.cells #[.slice p len cap, .int .i64 wk, ts] 25)).alloc (Obj.cells #[.int .i64 t.boy, .int .i64 t.week, .int .i64 t.note, .int .i64 t.sang] 49)).cell? ⟨w.heap.size, 2, none⟩ = some ts := by go_simp
    have y0 : ((w.alloc (Obj.cells #[.slice p len cap, .int .i64 wk, ts] 25)).alloc (Obj.cells #[.int .i64 t.boy, .int .i64 t.week, .int .i64 t.note, .int .i64 t.sang] 49)).cell? ⟨w.heap.size + 1, 0, none⟩ = some (.int .i64 t.boy) := by go_simp
    have y1 : ((w.alloc (Obj.cells #[.slice p len cap, .int .i64 wk, ts] 25)).alloc (Obj.cells #[.int .i64 t.boy, .int .i64 t.week, .int .i64 t.note, .int .i64 t.sang] 49)).cell? ⟨w.heap.size + 1, 1, none⟩ = some (.int .i64 t.week) := by go_simp
    have y2 : ((w.alloc (Obj.cells #[.slice p len cap, .int .i64 wk, ts] 25)).alloc (Obj.cells #[.int .i64 t.boy, .int .i64 t.week, .int .i64 t.note, .int .i64 t.sang] 49)).cell? ⟨w.heap.size + 1, 2, none⟩ = some (.int .i64 t.note) := by go_simp
    have y3 : ((w.alloc (Obj.cells #[.slice p len cap, .int .i64 wk, ts] 25)).alloc (Obj.cells #[.int .i64 t.boy, .int .i64 t.week, .int .i64 t.note, .int .i64 t.sang] 49)).cell? ⟨w.heap.size + 1, 3, none⟩ = some (.int .i64 t.sang) := by go_simp
    go_enter Tryz.func63, Tryz.ntmps63
    go_wp2_with fail
    generalize ((w.alloc (Obj.cells #[.slice p len cap, .int .i64 wk, ts] 25)).alloc (Obj.cells #[.int .i64 t.boy, .int .i64 t.week, .int .i64 t.note, .int .i64 t.sang] 49)) = w0 at *
    refine (rboy_any p len cap (.int .i64 wk) ts t.boy _ hl).mono ?_
    rintro e w1 ⟨rfl, hk1⟩
    rw [g0]
    replace a0 := kcell hk1 a0
    replace a1 := kcell hk1 a1
    replace a2 := kcell hk1 a2
    replace y0 := kcell hk1 y0
    replace y1 := kcell hk1 y1
    replace y2 := kcell hk1 y2
    replace y3 := kcell hk1 y3
    replace hk0 := kept_trans hk0 hk1
    clear hk1
    have hz := Go.Ai.lt_of_cell a0
    have hzy := Go.Ai.lt_of_cell y0
    go_wp2_with fail
    refine (rweek_any (.slice p len cap) ts wk t.week _).mono ?_
    rintro e w2 ⟨rfl, hk2⟩
    rw [g1]
    replace a0 := kcell hk2 a0
    replace a1 := kcell hk2 a1
    replace a2 := kcell hk2 a2
    replace y0 := kcell hk2 y0
    replace y1 := kcell hk2 y1
    replace y2 := kcell hk2 y2
    replace y3 := kcell hk2 y3
    replace hk0 := kept_trans hk0 hk2
    clear hk2
    have hz := Go.Ai.lt_of_cell a0
    have hzy := Go.Ai.lt_of_cell y0
    go_wp2_with fail
    refine (rnote_any t.note _).mono ?_
    rintro e w3 ⟨rfl, hk3⟩
    rw [g2]
    replace a0 := kcell hk3 a0
    replace a1 := kcell hk3 a1
    replace a2 := kcell hk3 a2
    replace y0 := kcell hk3 y0
    replace y1 := kcell hk3 y1
    replace y2 := kcell hk3 y2
    replace y3 := kcell hk3 y3
    replace hk0 := kept_trans hk0 hk3
    clear hk3
    have hz := Go.Ai.lt_of_cell a0
    have hzy := Go.Ai.lt_of_cell y0
    go_wp2_with fail
    refine ((lies_any t.sang 0 1 _)).mono ?_
    rintro e w4 ⟨rfl, rfl⟩
    rw [g3]
    go_wp2_with fail
    refine bodyPost_ret (v := .bool true) (by simp [results, Tryz.results63, go_sem]) rfl ⟨rfl, hk0⟩
def rtrialB (len : Nat) (wk : Int) (t : Trial) : Bool := inB t.boy 0 (len - 1) && inB t.week 0 (wrap64 (wk - 1)) && inB t.note 0 40 && inB t.sang 0 1
theorem rtrial_any (p : Option Addr) (len cap : Nat) (wk : Int) (ts : Value) (t : Trial) (w : World) (hl : len ≤ 140737488355328) :
    Calls Tryz.prog 63 #[.agg #[.slice p len cap, .int .i64 wk, ts], .agg #[.int .i64 t.boy, .int .i64 t.week, .int .i64 t.note, .int .i64 t.sang]] w fun e w' => e = .returned (.bool (rtrialB len wk t)) ∧ Kept w w' := by
  unfold rtrialB
  cases g0 : inB t.boy 0 (len - 1) with
  | false => exact rtrial_0 p len cap wk ts t w hl g0
  | true =>
    cases g1 : inB t.week 0 (wrap64 (wk - 1)) with
    | false => exact rtrial_1 p len cap wk ts t w hl g0 g1
    | true =>
      cases g2 : inB t.note 0 40 with
      | false => exact rtrial_2 p len cap wk ts t w hl g0 g1 g2
      | true =>
        cases g3 : inB t.sang 0 1 with
        | false => exact rtrial_3 p len cap wk ts t w hl g0 g1 g2 g3
        | true => exact rtrial_4 p len cap wk ts t w hl g0 g1 g2 g3
end Go.Proofs.YthkcgengohoboaaGreatDoor
