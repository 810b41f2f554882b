/- A part of the proof: contracts of the program's functions for every input. No conditions. -/
import Derived.Test.YthkcgengohoboaaGreatDoorGJ
import Derived.Test.YthkcgengohoboaaGreatDoorGF
import Derived.Test.YthkcgengohoboaaGreatDoorGG
set_option linter.all false
set_option linter.all false
namespace Go.Proofs.YthkcgengohoboaaGreatDoor
open Go.RowKit Go.Sort Go.Rg
set_option maxRecDepth 100000

theorem lowest_e0 (p q : Option Addr) (cap capt : Nat) (B : Book) (boy : Int) (W : World) (h : BookAt W p q cap capt B) (hg : Nothing W) (hboyT : inB boy 0 (B.boys.length - 1) = false) :
    Calls Tryz.prog 12 #[B.val p q cap capt, .int .i64 boy] W (ErrQ B (.agg #[.int .i64 0, .int .i64 0]) false W) := by
  have hk0 : Kept W ((W.alloc (Obj.cells #[.slice p B.boys.length cap, .int .i64 B.weeks, .slice q B.trials.length capt] 25)).alloc (Obj.cells #[.int .i64 0, .int .i64 0] 32)) := kept_alloc (kept_alloc (kept_refl _) _) _
  have hcall := bothEnds_e0 p q cap capt B boy 0 (by omega) _ (h.kept hk0) (hg.kept hk0) hboyT
  have HC := Lib.hid hcall; clear hcall
  unfold Book.val at HC ⊢
  have s0 : ((W.alloc (Obj.cells #[.slice p B.boys.length cap, .int .i64 B.weeks, .slice q B.trials.length capt] 25)).alloc (Obj.cells #[.int .i64 0, .int .i64 0] 32)).cell? ⟨W.heap.size + 1, 0, none⟩ = some (.int .i64 0) := by go_simp
  have s1 : ((W.alloc (Obj.cells #[.slice p B.boys.length cap, .int .i64 B.weeks, .slice q B.trials.length capt] 25)).alloc (Obj.cells #[.int .i64 0, .int .i64 0] 32)).cell? ⟨W.heap.size + 1, 1, none⟩ = some (.int .i64 0) := by go_simp
  have sf : ∀ i, ((W.alloc (Obj.cells #[.slice p B.boys.length cap, .int .i64 B.weeks, .slice q B.trials.length capt] 25)).alloc (Obj.cells #[.int .i64 0, .int .i64 0] 32)).frozen? ⟨W.heap.size + 1, i, none⟩ = false := by intro i; go_simp
  go_enter Tryz.func12, Tryz.ntmps12
  generalize hBP : ErrQ B (.agg #[.int .i64 0, .int .i64 0]) false W = PP at *
  go_wp2_with fail
  generalize ((W.alloc (Obj.cells #[.slice p B.boys.length cap, .int .i64 B.weeks, .slice q B.trials.length capt] 25)).alloc (Obj.cells #[.int .i64 0, .int .i64 0] 32)) = W0 at *
  refine HC.out.mono ?_
  rintro e w2 ⟨err, rfl, hk2, hr⟩
  have t0 := kcell hk2 s0
  have t1 := kcell hk2 s1
  have tf0 : w2.frozen? ⟨W.heap.size + 1, 0, none⟩ = false := ((kturns hk2 (fun _ => False)).frozen (Go.Ai.lt_of_cell s0) (fun h => h)).trans (sf 0)
  have tf1 : w2.frozen? ⟨W.heap.size + 1, 1, none⟩ = false := ((kturns hk2 (fun _ => False)).frozen (Go.Ai.lt_of_cell s0) (fun h => h)).trans (sf 1)
  have hzs := Go.Ai.lt_of_cell t0
  have HRR := Lib.hid hr; clear hr
  go_wp2_with fail
  have hT := Turns.setCell (T := fun b => b = W.heap.size + 1) (Turns.setCell (T := fun b => b = W.heap.size + 1) (Turns.refl _ w2) rfl 0 (.int .i64 0)) rfl 1 (.int .i64 0)
  have v0 := (cell_set_ne (W := w2.setCell ⟨W.heap.size + 1, 0, none⟩ (.int .i64 0)) (b := W.heap.size + 1) (o := 1) (o' := 0) (v := .int .i64 0) (by omega)).trans (cell_set_eq t0)
  have v1 := cell_set_eq (v := .int .i64 0) ((cell_set_ne (W := w2) (b := W.heap.size + 1) (o := 0) (o' := 1) (v := .int .i64 0) (by omega)).trans t1)
  refine bodyPost_ret (v := .tuple #[.agg #[.int .i64 0, .int .i64 0], .int .i64 err]) (by simp [results, Tryz.results12, go_sem, v0, v1]) rfl ?_
  rw [← hBP]
  refine ⟨err, rfl, ?_, by simpa using HRR.out⟩
  exact Below.trans (kept_trans hk0 hk2) (hT.toBelow (n := W.heap.size) (by rintro b rfl; omega) (by have := (kept_trans hk0 hk2).size; omega))
theorem lowest_e1 (p q : Option Addr) (cap capt : Nat) (B : Book) (boy : Int) (W : World) (h : BookAt W p q cap capt B) (hg : Nothing W) (hboyT : inB boy 0 (B.boys.length - 1) = true) (hok0 : B.okB = false) :
    Calls Tryz.prog 12 #[B.val p q cap capt, .int .i64 boy] W (ErrQ B (.agg #[.int .i64 0, .int .i64 0]) true W) := by
  have hk0 : Kept W ((W.alloc (Obj.cells #[.slice p B.boys.length cap, .int .i64 B.weeks, .slice q B.trials.length capt] 25)).alloc (Obj.cells #[.int .i64 0, .int .i64 0] 32)) := kept_alloc (kept_alloc (kept_refl _) _) _
  have hcall := bothEnds_e1 p q cap capt B boy 0 (by omega) _ (h.kept hk0) (hg.kept hk0) hboyT hok0
  have HC := Lib.hid hcall; clear hcall
  unfold Book.val at HC ⊢
  have s0 : ((W.alloc (Obj.cells #[.slice p B.boys.length cap, .int .i64 B.weeks, .slice q B.trials.length capt] 25)).alloc (Obj.cells #[.int .i64 0, .int .i64 0] 32)).cell? ⟨W.heap.size + 1, 0, none⟩ = some (.int .i64 0) := by go_simp
  have s1 : ((W.alloc (Obj.cells #[.slice p B.boys.length cap, .int .i64 B.weeks, .slice q B.trials.length capt] 25)).alloc (Obj.cells #[.int .i64 0, .int .i64 0] 32)).cell? ⟨W.heap.size + 1, 1, none⟩ = some (.int .i64 0) := by go_simp
  have sf : ∀ i, ((W.alloc (Obj.cells #[.slice p B.boys.length cap, .int .i64 B.weeks, .slice q B.trials.length capt] 25)).alloc (Obj.cells #[.int .i64 0, .int .i64 0] 32)).frozen? ⟨W.heap.size + 1, i, none⟩ = false := by intro i; go_simp
  go_enter Tryz.func12, Tryz.ntmps12
  generalize hBP : ErrQ B (.agg #[.int .i64 0, .int .i64 0]) true W = PP at *
  go_wp2_with fail
  generalize ((W.alloc (Obj.cells #[.slice p B.boys.length cap, .int .i64 B.weeks, .slice q B.trials.length capt] 25)).alloc (Obj.cells #[.int .i64 0, .int .i64 0] 32)) = W0 at *
  refine HC.out.mono ?_
  rintro e w2 ⟨err, rfl, hk2, hr⟩
  have t0 := kcell hk2 s0
  have t1 := kcell hk2 s1
  have tf0 : w2.frozen? ⟨W.heap.size + 1, 0, none⟩ = false := ((kturns hk2 (fun _ => False)).frozen (Go.Ai.lt_of_cell s0) (fun h => h)).trans (sf 0)
  have tf1 : w2.frozen? ⟨W.heap.size + 1, 1, none⟩ = false := ((kturns hk2 (fun _ => False)).frozen (Go.Ai.lt_of_cell s0) (fun h => h)).trans (sf 1)
  have hzs := Go.Ai.lt_of_cell t0
  have HRR := Lib.hid hr; clear hr
  go_wp2_with fail
  have hT := Turns.setCell (T := fun b => b = W.heap.size + 1) (Turns.setCell (T := fun b => b = W.heap.size + 1) (Turns.refl _ w2) rfl 0 (.int .i64 0)) rfl 1 (.int .i64 0)
  have v0 := (cell_set_ne (W := w2.setCell ⟨W.heap.size + 1, 0, none⟩ (.int .i64 0)) (b := W.heap.size + 1) (o := 1) (o' := 0) (v := .int .i64 0) (by omega)).trans (cell_set_eq t0)
  have v1 := cell_set_eq (v := .int .i64 0) ((cell_set_ne (W := w2) (b := W.heap.size + 1) (o := 0) (o' := 1) (v := .int .i64 0) (by omega)).trans t1)
  refine bodyPost_ret (v := .tuple #[.agg #[.int .i64 0, .int .i64 0], .int .i64 err]) (by simp [results, Tryz.results12, go_sem, v0, v1]) rfl ?_
  rw [← hBP]
  refine ⟨err, rfl, ?_, by simpa using HRR.out⟩
  exact Below.trans (kept_trans hk0 hk2) (hT.toBelow (n := W.heap.size) (by rintro b rfl; omega) (by have := (kept_trans hk0 hk2).size; omega))
theorem breaks_e0 (p q : Option Addr) (cap capt : Nat) (B : Book) (boy : Int) (W : World) (h : BookAt W p q cap capt B) (hg : Nothing W) (hboyT : inB boy 0 (B.boys.length - 1) = false) :
    Calls Tryz.prog 14 #[B.val p q cap capt, .int .i64 boy] W (ErrQ B (.agg #[.int .i64 0, .int .i64 0]) false W) := by
  have hk0 : Kept W ((W.alloc (Obj.cells #[.slice p B.boys.length cap, .int .i64 B.weeks, .slice q B.trials.length capt] 25)).alloc (Obj.cells #[.int .i64 0, .int .i64 0] 32)) := kept_alloc (kept_alloc (kept_refl _) _) _
  have hcall := bothEnds_e0 p q cap capt B boy 4 (by omega) _ (h.kept hk0) (hg.kept hk0) hboyT
  have HC := Lib.hid hcall; clear hcall
  unfold Book.val at HC ⊢
  have s0 : ((W.alloc (Obj.cells #[.slice p B.boys.length cap, .int .i64 B.weeks, .slice q B.trials.length capt] 25)).alloc (Obj.cells #[.int .i64 0, .int .i64 0] 32)).cell? ⟨W.heap.size + 1, 0, none⟩ = some (.int .i64 0) := by go_simp
  have s1 : ((W.alloc (Obj.cells #[.slice p B.boys.length cap, .int .i64 B.weeks, .slice q B.trials.length capt] 25)).alloc (Obj.cells #[.int .i64 0, .int .i64 0] 32)).cell? ⟨W.heap.size + 1, 1, none⟩ = some (.int .i64 0) := by go_simp
  have sf : ∀ i, ((W.alloc (Obj.cells #[.slice p B.boys.length cap, .int .i64 B.weeks, .slice q B.trials.length capt] 25)).alloc (Obj.cells #[.int .i64 0, .int .i64 0] 32)).frozen? ⟨W.heap.size + 1, i, none⟩ = false := by intro i; go_simp
  go_enter Tryz.func14, Tryz.ntmps14
  generalize hBP : ErrQ B (.agg #[.int .i64 0, .int .i64 0]) false W = PP at *
  go_wp2_with fail
  generalize ((W.alloc (Obj.cells #[.slice p B.boys.length cap, .int .i64 B.weeks, .slice q B.trials.length capt] 25)).alloc (Obj.cells #[.int .i64 0, .int .i64 0] 32)) = W0 at *
  refine HC.out.mono ?_
  rintro e w2 ⟨err, rfl, hk2, hr⟩
  have t0 := kcell hk2 s0
  have t1 := kcell hk2 s1
  have tf0 : w2.frozen? ⟨W.heap.size + 1, 0, none⟩ = false := ((kturns hk2 (fun _ => False)).frozen (Go.Ai.lt_of_cell s0) (fun h => h)).trans (sf 0)
  have tf1 : w2.frozen? ⟨W.heap.size + 1, 1, none⟩ = false := ((kturns hk2 (fun _ => False)).frozen (Go.Ai.lt_of_cell s0) (fun h => h)).trans (sf 1)
  have hzs := Go.Ai.lt_of_cell t0
  have HRR := Lib.hid hr; clear hr
  go_wp2_with fail
  have hT := Turns.setCell (T := fun b => b = W.heap.size + 1) (Turns.setCell (T := fun b => b = W.heap.size + 1) (Turns.refl _ w2) rfl 0 (.int .i64 0)) rfl 1 (.int .i64 0)
  have v0 := (cell_set_ne (W := w2.setCell ⟨W.heap.size + 1, 0, none⟩ (.int .i64 0)) (b := W.heap.size + 1) (o := 1) (o' := 0) (v := .int .i64 0) (by omega)).trans (cell_set_eq t0)
  have v1 := cell_set_eq (v := .int .i64 0) ((cell_set_ne (W := w2) (b := W.heap.size + 1) (o := 0) (o' := 1) (v := .int .i64 0) (by omega)).trans t1)
  refine bodyPost_ret (v := .tuple #[.agg #[.int .i64 0, .int .i64 0], .int .i64 err]) (by simp [results, Tryz.results14, go_sem, v0, v1]) rfl ?_
  rw [← hBP]
  refine ⟨err, rfl, ?_, by simpa using HRR.out⟩
  exact Below.trans (kept_trans hk0 hk2) (hT.toBelow (n := W.heap.size) (by rintro b rfl; omega) (by have := (kept_trans hk0 hk2).size; omega))
theorem breaks_e1 (p q : Option Addr) (cap capt : Nat) (B : Book) (boy : Int) (W : World) (h : BookAt W p q cap capt B) (hg : Nothing W) (hboyT : inB boy 0 (B.boys.length - 1) = true) (hok0 : B.okB = false) :
    Calls Tryz.prog 14 #[B.val p q cap capt, .int .i64 boy] W (ErrQ B (.agg #[.int .i64 0, .int .i64 0]) true W) := by
  have hk0 : Kept W ((W.alloc (Obj.cells #[.slice p B.boys.length cap, .int .i64 B.weeks, .slice q B.trials.length capt] 25)).alloc (Obj.cells #[.int .i64 0, .int .i64 0] 32)) := kept_alloc (kept_alloc (kept_refl _) _) _
  have hcall := bothEnds_e1 p q cap capt B boy 4 (by omega) _ (h.kept hk0) (hg.kept hk0) hboyT hok0
  have HC := Lib.hid hcall; clear hcall
  unfold Book.val at HC ⊢
  have s0 : ((W.alloc (Obj.cells #[.slice p B.boys.length cap, .int .i64 B.weeks, .slice q B.trials.length capt] 25)).alloc (Obj.cells #[.int .i64 0, .int .i64 0] 32)).cell? ⟨W.heap.size + 1, 0, none⟩ = some (.int .i64 0) := by go_simp
  have s1 : ((W.alloc (Obj.cells #[.slice p B.boys.length cap, .int .i64 B.weeks, .slice q B.trials.length capt] 25)).alloc (Obj.cells #[.int .i64 0, .int .i64 0] 32)).cell? ⟨W.heap.size + 1, 1, none⟩ = some (.int .i64 0) := by go_simp
  have sf : ∀ i, ((W.alloc (Obj.cells #[.slice p B.boys.length cap, .int .i64 B.weeks, .slice q B.trials.length capt] 25)).alloc (Obj.cells #[.int .i64 0, .int .i64 0] 32)).frozen? ⟨W.heap.size + 1, i, none⟩ = false := by intro i; go_simp
  go_enter Tryz.func14, Tryz.ntmps14
  generalize hBP : ErrQ B (.agg #[.int .i64 0, .int .i64 0]) true W = PP at *
  go_wp2_with fail
  generalize ((W.alloc (Obj.cells #[.slice p B.boys.length cap, .int .i64 B.weeks, .slice q B.trials.length capt] 25)).alloc (Obj.cells #[.int .i64 0, .int .i64 0] 32)) = W0 at *
  refine HC.out.mono ?_
  rintro e w2 ⟨err, rfl, hk2, hr⟩
  have t0 := kcell hk2 s0
  have t1 := kcell hk2 s1
  have tf0 : w2.frozen? ⟨W.heap.size + 1, 0, none⟩ = false := ((kturns hk2 (fun _ => False)).frozen (Go.Ai.lt_of_cell s0) (fun h => h)).trans (sf 0)
  have tf1 : w2.frozen? ⟨W.heap.size + 1, 1, none⟩ = false := ((kturns hk2 (fun _ => False)).frozen (Go.Ai.lt_of_cell s0) (fun h => h)).trans (sf 1)
  have hzs := Go.Ai.lt_of_cell t0
  have HRR := Lib.hid hr; clear hr
  go_wp2_with fail
  have hT := Turns.setCell (T := fun b => b = W.heap.size + 1) (Turns.setCell (T := fun b => b = W.heap.size + 1) (Turns.refl _ w2) rfl 0 (.int .i64 0)) rfl 1 (.int .i64 0)
  have v0 := (cell_set_ne (W := w2.setCell ⟨W.heap.size + 1, 0, none⟩ (.int .i64 0)) (b := W.heap.size + 1) (o := 1) (o' := 0) (v := .int .i64 0) (by omega)).trans (cell_set_eq t0)
  have v1 := cell_set_eq (v := .int .i64 0) ((cell_set_ne (W := w2) (b := W.heap.size + 1) (o := 0) (o' := 1) (v := .int .i64 0) (by omega)).trans t1)
  refine bodyPost_ret (v := .tuple #[.agg #[.int .i64 0, .int .i64 0], .int .i64 err]) (by simp [results, Tryz.results14, go_sem, v0, v1]) rfl ?_
  rw [← hBP]
  refine ⟨err, rfl, ?_, by simpa using HRR.out⟩
  exact Below.trans (kept_trans hk0 hk2) (hT.toBelow (n := W.heap.size) (by rintro b rfl; omega) (by have := (kept_trans hk0 hk2).size; omega))
end Go.Proofs.YthkcgengohoboaaGreatDoor
set_option linter.all false
namespace Go.Proofs.YthkcgengohoboaaGreatDoor
open Go.RowKit Go.Sort Go.Rg
set_option maxRecDepth 100000
attribute [local go_sem] Oper.semAt_some

set_option maxHeartbeats 4000000 in
theorem highest_e0 (p q : Option Addr) (cap capt : Nat) (B : Book) (boy week : Int) (W : World) (h : BookAt W p q cap capt B) (hg : Nothing W) (hboyT : inB boy 0 (B.boys.length - 1) = false) :
    Calls Tryz.prog 16 #[B.val p q cap capt, .int .i64 boy, .int .i64 week] W (ErrQ B (.agg #[.int .i64 0, .int .i64 0]) false W) := by
  have hnb := h.nb
  refine callsIn_wide.1 (callsIn_of_wp (n := 0) Tryz.func16 rfl trivial ?_ rfl)
  simp only [Tryz.ntmps16, List.size_toArray, List.length_cons, List.length_nil, Nat.reduceAdd, Nat.reduceSub, Array.replicate_succ, Array.replicate_zero, List.push_toArray, List.append_toArray, List.nil_append, List.cons_append]
  unfold Book.val
  gi_wp2_with fail
  have hk0 : Kept W (((W.alloc (Obj.cells #[.slice p B.boys.length cap, .int .i64 B.weeks, .slice q B.trials.length capt] 25)).alloc (Obj.cells #[.int .i64 week] 3)).alloc (Obj.cells #[.int .i64 0, .int .i64 0] 32)) := kept_alloc (kept_alloc (kept_alloc (kept_refl _) _) _) _
  have a0c : (((W.alloc (Obj.cells #[.slice p B.boys.length cap, .int .i64 B.weeks, .slice q B.trials.length capt] 25)).alloc (Obj.cells #[.int .i64 week] 3)).alloc (Obj.cells #[.int .i64 0, .int .i64 0] 32)).cell? ⟨W.heap.size, 0, none⟩ = some (.slice p B.boys.length cap) := by go_simp
  have a1c : (((W.alloc (Obj.cells #[.slice p B.boys.length cap, .int .i64 B.weeks, .slice q B.trials.length capt] 25)).alloc (Obj.cells #[.int .i64 week] 3)).alloc (Obj.cells #[.int .i64 0, .int .i64 0] 32)).cell? ⟨W.heap.size, 1, none⟩ = some (.int .i64 B.weeks) := by go_simp
  have a2c : (((W.alloc (Obj.cells #[.slice p B.boys.length cap, .int .i64 B.weeks, .slice q B.trials.length capt] 25)).alloc (Obj.cells #[.int .i64 week] 3)).alloc (Obj.cells #[.int .i64 0, .int .i64 0] 32)).cell? ⟨W.heap.size, 2, none⟩ = some (.slice q B.trials.length capt) := by go_simp
  have wc : (((W.alloc (Obj.cells #[.slice p B.boys.length cap, .int .i64 B.weeks, .slice q B.trials.length capt] 25)).alloc (Obj.cells #[.int .i64 week] 3)).alloc (Obj.cells #[.int .i64 0, .int .i64 0] 32)).cell? ⟨W.heap.size + 1, 0, none⟩ = some (.int .i64 week) := by go_simp
  have s0c : (((W.alloc (Obj.cells #[.slice p B.boys.length cap, .int .i64 B.weeks, .slice q B.trials.length capt] 25)).alloc (Obj.cells #[.int .i64 week] 3)).alloc (Obj.cells #[.int .i64 0, .int .i64 0] 32)).cell? ⟨W.heap.size + 1 + 1, 0, none⟩ = some (.int .i64 0) := by go_simp
  have s1c : (((W.alloc (Obj.cells #[.slice p B.boys.length cap, .int .i64 B.weeks, .slice q B.trials.length capt] 25)).alloc (Obj.cells #[.int .i64 week] 3)).alloc (Obj.cells #[.int .i64 0, .int .i64 0] 32)).cell? ⟨W.heap.size + 1 + 1, 1, none⟩ = some (.int .i64 0) := by go_simp
  have sf : ∀ i, (((W.alloc (Obj.cells #[.slice p B.boys.length cap, .int .i64 B.weeks, .slice q B.trials.length capt] 25)).alloc (Obj.cells #[.int .i64 week] 3)).alloc (Obj.cells #[.int .i64 0, .int .i64 0] 32)).frozen? ⟨W.heap.size + 1 + 1, i, none⟩ = false := by intro i; go_simp
  generalize (((W.alloc (Obj.cells #[.slice p B.boys.length cap, .int .i64 B.weeks, .slice q B.trials.length capt] 25)).alloc (Obj.cells #[.int .i64 week] 3)).alloc (Obj.cells #[.int .i64 0, .int .i64 0] 32)) = W0 at *
  refine wpIn_region_invL (StO 9 (fun j => match j with | 0 => (.agg #[.slice p B.boys.length cap, .int .i64 B.weeks, .slice q B.trials.length capt]) | 1 => (.agg #[.slice p B.boys.length cap, .int .i64 B.weeks, .slice q B.trials.length capt]) | 2 => .int .i64 boy | 3 => .bool false | 4 => .bool false | 5 => undef | 6 => undef | 7 => undef | 8 => .bool false | _ => undef) W0 B false) (by kernel_rfl) (by kernel_rfl) StO.start ?hop ?hend
  case hop =>
    rintro i o listed a w hl ho h1 h2 hcl ⟨v, err, pp, ha, hw⟩
    have hi11 : i < 16 := (List.getElem?_eq_some_iff.1 ho).1
    match i, ho with
    | 0, ho =>
      have st := StO.same (by kernel_rfl) ha hw ho h1 (by omega) (by omega) (by omega) (kept_refl w)
      have ST := Lib.hid st; clear st
      cases ho
      rw [if_pos (by rfl)]
      have t3 := ha.old 3 (by kernel_rfl)
      simp at t3
      have r0 := kcell hw.kept a0c
      have r1 := kcell hw.kept a1c
      have r2 := kcell hw.kept a2c
      go_simp
      exact ST.out
    | 1, ho =>
      have st := StO.same (by kernel_rfl) ha hw ho h1 (by omega) (by omega) (by omega) (kept_refl w)
      have ST := Lib.hid st; clear st
      cases ho
      rw [if_pos (by rfl)]
      have t3 := ha.old 3 (by kernel_rfl)
      simp at t3
      have r0 := kcell hw.kept a0c
      have r1 := kcell hw.kept a1c
      have r2 := kcell hw.kept a2c
      go_simp
      exact ST.out
    | 2, ho =>
      have st := StO.same (by kernel_rfl) ha hw ho h1 (by omega) (by omega) (by omega) (kept_refl w)
      have ST := Lib.hid st; clear st
      cases ho
      rw [if_pos (by rfl)]
      have t1 := ha.old 1 (by kernel_rfl)
      simp at t1
      go_simp
      exact ST.out
    | 3, ho =>
      have st := fun w' (k : Kept w w') => StO.same (by kernel_rfl) ha hw ho h1 (by omega) (by omega) (by omega) k
      have ST := Lib.hid st; clear st
      cases ho
      rw [if_pos (by rfl)]
      have t15 := ha.new 1 (h2 ⟨1, .data⟩ (by simp) rfl) (d := 15) rfl rfl (by simp)
      simp [openVs] at t15
      have t16 := ha.new 2 (h2 ⟨2, .data⟩ (by simp) rfl) (d := 16) rfl rfl (by simp)
      simp [openVs] at t16
      have hcall := isBoy_any p B.boys.length cap (.int .i64 B.weeks) (.slice q B.trials.length capt) boy w hnb
      rw [hboyT] at hcall
      go_simp
      refine ⟨trivial, rfl, (callsIn_wide.2 hcall).mono ?_⟩
      rintro e w' ⟨rfl, hk⟩
      exact ST.out _ hk
    | 4, ho =>
      have st := StO.same (by kernel_rfl) ha hw ho h1 (by omega) (by omega) (by omega) (kept_refl w)
      have ST := Lib.hid st; clear st
      cases ho
      rw [if_pos (by rfl)]
      have t17 := ha.new 3 (h2 ⟨3, .data⟩ (by simp) rfl) (d := 17) rfl rfl (by simp)
      simp [openVs] at t17
      go_simp
      exact ST.out
    | 5, ho =>
      have st := StO.same (by kernel_rfl) ha hw ho h1 (by omega) (by omega) (by omega) (kept_refl w)
      have ST := Lib.hid st; clear st
      cases ho
      have t18 := ha.new 4 (h2 ⟨4, .guard⟩ (by simp) rfl) (d := 18) rfl rfl (by simp)
      simp [openVs] at t18
      rw [if_neg (by simp [Region.wanted, yielded, getD_bool t18])]
      exact ⟨fun _ _ => trivial, ST.out⟩
    | 6, ho =>
      have st := StO.same (by kernel_rfl) ha hw ho h1 (by omega) (by omega) (by omega) (kept_refl w)
      have ST := Lib.hid st; clear st
      cases ho
      have t18 := ha.new 4 (h2 ⟨4, .guard⟩ (by simp) rfl) (d := 18) rfl rfl (by simp)
      simp [openVs] at t18
      rw [if_neg (by simp [Region.wanted, yielded, getD_bool t18])]
      exact ⟨fun _ _ => trivial, ST.out⟩
    | 7, ho =>
      have st := StO.same (by kernel_rfl) ha hw ho h1 (by omega) (by omega) (by omega) (kept_refl w)
      have ST := Lib.hid st; clear st
      cases ho
      have t18 := ha.new 4 (h2 ⟨4, .guard⟩ (by simp) rfl) (d := 18) rfl rfl (by simp)
      simp [openVs] at t18
      rw [if_neg (by simp [Region.wanted, yielded, getD_bool t18])]
      exact ⟨fun _ _ => trivial, ST.out⟩
    | 8, ho =>
      have st := StO.same (by kernel_rfl) ha hw ho h1 (by omega) (by omega) (by omega) (kept_refl w)
      have ST := Lib.hid st; clear st
      cases ho
      rw [if_pos (by rfl)]
      have t18 := ha.new 4 (h2 ⟨4, .data⟩ (by simp) rfl) (d := 18) rfl rfl (by simp)
      simp [openVs] at t18
      have t21 := ha.new 7 (h2 ⟨7, .data⟩ (by simp) rfl) (d := 21) rfl rfl (by simp)
      simp [openVs] at t21
      go_simp
      exact ST.out
    | 9, ho =>
      obtain ⟨n5, n6, n7, n9, n10⟩ := open_first hcl h1 ⟨_, rfl, ⟨9, .data⟩, by simp, rfl, rfl⟩ ⟨_, rfl, ⟨10, .data⟩, by simp, rfl, rfl⟩ ⟨_, rfl, ⟨10, .data⟩, by simp, rfl, rfl⟩ ⟨_, rfl, ⟨11, .data⟩, by simp, rfl, rfl⟩ ⟨_, rfl, ⟨12, .data⟩, by simp, rfl, rfl⟩
      have st := fun v' err' w' (k : OpenReg W0 B false v' err' pp true (on listed 13) (on listed 14) w') => StO.opened (by kernel_rfl) ha hl ho h1 n5 n6 n7 n9 n10 k
      have ST := Lib.hid st; clear st
      cases ho
      rw [if_pos (by rfl)]
      have t14 := ha.new 0 (h2 ⟨0, .data⟩ (by simp) rfl) (d := 14) rfl rfl (by simp)
      simp [openVs] at t14
      have t22 := ha.new 8 (h2 ⟨8, .data⟩ (by simp) rfl) (d := 22) rfl rfl (by simp)
      simp [openVs] at t22
      have hcall := open_any p q cap capt B false W w h (kept_trans hk0 hw.kept) (hg.kept (kept_trans hk0 hw.kept))
      unfold Book.val at hcall
      have HOP := Lib.hid (fun e w' => hw.opened (e := e) (w' := w') W.heap.size hk0.size n9)
      go_simp
      refine ⟨trivial, rfl, (callsIn_wide.2 hcall).mono ?_⟩
      intro e w' hop
      obtain ⟨v', err', rfl, hr⟩ := HOP.out e w' hop
      exact ST.out v' err' w' hr
    | 10, ho =>
      have st := StO.same (by kernel_rfl) ha hw ho h1 (by omega) (by omega) (by omega) (kept_refl w)
      have ST := Lib.hid st; clear st
      cases ho
      rw [if_pos (by rfl)]
      have t23 := ha.new 9 (h2 ⟨9, .data⟩ (by simp) rfl) (d := 23) rfl rfl (by simp)
      simp [openVs] at t23
      go_simp
      exact ST.out
    | 11, ho =>
      have st := StO.same (by kernel_rfl) ha hw ho h1 (by omega) (by omega) (by omega) (kept_refl w)
      have ST := Lib.hid st; clear st
      cases ho
      rw [if_pos (by rfl)]
      have t13 := ha.new 10 (h2 ⟨10, .data⟩ (by simp) rfl) (d := 13) rfl rfl (by simp)
      simp [openVs] at t13
      go_simp
      exact ST.out
    | 12, ho =>
      have st := StO.same (by kernel_rfl) ha hw ho h1 (by omega) (by omega) (by omega) (kept_refl w)
      have ST := Lib.hid st; clear st
      cases ho
      rw [if_pos (by rfl)]
      have t13 := ha.new 10 (h2 ⟨10, .data⟩ (by simp) rfl) (d := 13) rfl rfl (by simp)
      simp [openVs] at t13
      go_simp
      exact ST.out
    | 13, ho =>
      have n9 : on listed 14 = false := by
        cases hb : on listed 14 with
        | false => rfl
        | true => have := hcl 14 _ rfl hb ⟨13, .data⟩ (by simp) rfl; rw [on_no h1] at this; cases this
      have st := StO.boxed (by kernel_rfl) ha hw hl ho h1 n9
      have ST := Lib.hid st; clear st
      cases ho
      rw [if_pos (by rfl)]
      go_simp
      exact ST.out
    | 14, ho =>
      have y8 : on listed 13 = true := h2 ⟨13, .data⟩ (by cases ho; simp) rfl
      have y4 : on listed 9 = true := h2 ⟨9, .chain⟩ (by cases ho; simp) rfl
      have t8 := ha.new 13 y8 (d := 8) rfl rfl (by simp)
      simp [openVs] at t8
      have t24 := ha.new 11 (h2 ⟨11, .data⟩ (by cases ho; simp) rfl) (d := 24) rfl rfl (by simp)
      simp [openVs] at t24
      obtain ⟨hbp, ⟨f0, f1, f2, f3, b0, b1, b2, b3⟩, hbf⟩ := hw.box y8
      have bf0 := hbf 0
      have bf1 := hbf 1
      have bf2 := hbf 2
      have bf3 := hbf 3
      rcases hw.res y4 with ⟨_, _, he, _⟩ | ⟨rfl, _⟩
      · cases he
      · have st := StO.stored (by kernel_rfl) ha hw hl ho (by cases ho; rfl) h1 y8 (show zeroChoir = _ from rfl)
        have ST := Lib.hid st; clear st
        cases ho
        rw [if_pos (by rfl)]
        unfold zeroChoir at t24
        clear hbf
        go_simp
        exact ST.out
    | 15, ho =>
      have st := StO.same (by kernel_rfl) ha hw ho h1 (by omega) (by omega) (by omega) (kept_refl w)
      have ST := Lib.hid st; clear st
      cases ho
      rw [if_pos (by rfl)]
      have t25 := ha.new 12 (h2 ⟨12, .data⟩ (by simp) rfl) (d := 25) rfl rfl (by simp)
      simp [openVs] at t25
      go_simp
      exact ST.out

  case hend =>
    rintro listed a w hall ⟨v, err, pp, ha, hw⟩
    rw [show on listed 9 = true from hall 9 (by simp), show on listed 13 = true from hall 13 (by simp), show on listed 14 = true from hall 14 (by simp)] at hw
    obtain ⟨y, hy, hae⟩ := ha.lit (n := 43) rfl
    have y1 := (hy 1).symm.trans (ha.old 1 (by kernel_rfl))
    have y5 := (hy 5).symm.trans (ha.old 5 (by kernel_rfl))
    have y6 := (hy 6).symm.trans (ha.old 6 (by kernel_rfl))
    have y7 := (hy 7).symm.trans (ha.old 7 (by kernel_rfl))
    have y8 := (hy 8).symm.trans (ha.new 13 (hall 13 (by simp)) (d := 8) rfl rfl (by simp))
    have y9 := (hy 9).symm.trans (ha.new 15 (hall 15 (by simp)) (d := 9) rfl rfl (by simp))
    simp at y1 y5 y6 y7
    simp [openVs] at y8 y9
    simp only [List.range, List.range.loop, List.map] at hae
    rw [y1, y5, y6, y7, y8, y9] at hae
    subst hae
    clear ha hy y1 y5 y6 y7 y8 y9
    refine (by assumption : ∀ a w, Code.wpIn _ _ _ _ _ a w → _) _ w ?_
    have wk := kcell hw.kept wc
    have s0 := kcell hw.kept s0c
    have s1 := kcell hw.kept s1c
    have sf0 : w.frozen? ⟨W.heap.size + 1 + 1, 0, none⟩ = false := ((kturns hw.kept (fun _ => False)).frozen (Go.Ai.lt_of_cell s0c) (fun h => h)).trans (sf 0)
    have sf1 : w.frozen? ⟨W.heap.size + 1 + 1, 1, none⟩ = false := ((kturns hw.kept (fun _ => False)).frozen (Go.Ai.lt_of_cell s0c) (fun h => h)).trans (sf 1)
    obtain ⟨_, x0, x1, x2, x3, hv, b0, b1, b2, b3⟩ := hw.put rfl
    rcases hw.res rfl with ⟨_, _, he, _⟩ | ⟨rfl, herr⟩
    · cases he
    · rcases herr with ⟨rfl, he⟩ | ⟨rfl, he, he2⟩ | ⟨_, _, he, _⟩
      · 
        gi_wp2_with fail
        have hT := Turns.setCell (T := fun b => b = W.heap.size + 1 + 1) (Turns.setCell (T := fun b => b = W.heap.size + 1 + 1) (Turns.refl _ w) rfl 0 (.int .i64 0)) rfl 1 (.int .i64 0)
        have v0 := (cell_set_ne (W := w.setCell ⟨W.heap.size + 1 + 1, 0, none⟩ (.int .i64 0)) (b := W.heap.size + 1 + 1) (o := 1) (o' := 0) (v := .int .i64 0) (by omega)).trans (cell_set_eq s0)
        have v1 := cell_set_eq (v := .int .i64 0) ((cell_set_ne (W := w) (b := W.heap.size + 1 + 1) (o := 0) (o' := 1) (v := .int .i64 0) (by omega)).trans s1)
        refine bodyPost_ret (v := .tuple #[.agg #[.int .i64 0, .int .i64 0], .int .i64 20]) (by simp [results, Tryz.results16, go_sem, v0, v1]) rfl ?_
        refine ⟨20, rfl, ?_, .inl ⟨rfl, he⟩⟩
        exact Below.trans (kept_trans hk0 hw.kept) (hT.toBelow (n := W.heap.size) (by rintro b rfl; omega) (by have := (kept_trans hk0 hw.kept).size; omega))
      · 
        gi_wp2_with fail
        have hT := Turns.setCell (T := fun b => b = W.heap.size + 1 + 1) (Turns.setCell (T := fun b => b = W.heap.size + 1 + 1) (Turns.refl _ w) rfl 0 (.int .i64 0)) rfl 1 (.int .i64 0)
        have v0 := (cell_set_ne (W := w.setCell ⟨W.heap.size + 1 + 1, 0, none⟩ (.int .i64 0)) (b := W.heap.size + 1 + 1) (o := 1) (o' := 0) (v := .int .i64 0) (by omega)).trans (cell_set_eq s0)
        have v1 := cell_set_eq (v := .int .i64 0) ((cell_set_ne (W := w) (b := W.heap.size + 1 + 1) (o := 0) (o' := 1) (v := .int .i64 0) (by omega)).trans s1)
        refine bodyPost_ret (v := .tuple #[.agg #[.int .i64 0, .int .i64 0], .int .i64 21]) (by simp [results, Tryz.results16, go_sem, v0, v1]) rfl ?_
        refine ⟨21, rfl, ?_, .inr ⟨rfl, he, rfl⟩⟩
        exact Below.trans (kept_trans hk0 hw.kept) (hT.toBelow (n := W.heap.size) (by rintro b rfl; omega) (by have := (kept_trans hk0 hw.kept).size; omega))
      · cases he

set_option maxHeartbeats 4000000 in
theorem highest_e1 (p q : Option Addr) (cap capt : Nat) (B : Book) (boy week : Int) (W : World) (h : BookAt W p q cap capt B) (hg : Nothing W) (hboyT : inB boy 0 (B.boys.length - 1) = true) (hweekT : inB week 0 (wrap64 (B.weeks - 1)) = false) :
    Calls Tryz.prog 16 #[B.val p q cap capt, .int .i64 boy, .int .i64 week] W (ErrQ B (.agg #[.int .i64 0, .int .i64 0]) false W) := by
  have hnb := h.nb
  refine callsIn_wide.1 (callsIn_of_wp (n := 0) Tryz.func16 rfl trivial ?_ rfl)
  simp only [Tryz.ntmps16, List.size_toArray, List.length_cons, List.length_nil, Nat.reduceAdd, Nat.reduceSub, Array.replicate_succ, Array.replicate_zero, List.push_toArray, List.append_toArray, List.nil_append, List.cons_append]
  unfold Book.val
  gi_wp2_with fail
  have hk0 : Kept W (((W.alloc (Obj.cells #[.slice p B.boys.length cap, .int .i64 B.weeks, .slice q B.trials.length capt] 25)).alloc (Obj.cells #[.int .i64 week] 3)).alloc (Obj.cells #[.int .i64 0, .int .i64 0] 32)) := kept_alloc (kept_alloc (kept_alloc (kept_refl _) _) _) _
  have a0c : (((W.alloc (Obj.cells #[.slice p B.boys.length cap, .int .i64 B.weeks, .slice q B.trials.length capt] 25)).alloc (Obj.cells #[.int .i64 week] 3)).alloc (Obj.cells #[.int .i64 0, .int .i64 0] 32)).cell? ⟨W.heap.size, 0, none⟩ = some (.slice p B.boys.length cap) := by go_simp
  have a1c : (((W.alloc (Obj.cells #[.slice p B.boys.length cap, .int .i64 B.weeks, .slice q B.trials.length capt] 25)).alloc (Obj.cells #[.int .i64 week] 3)).alloc (Obj.cells #[.int .i64 0, .int .i64 0] 32)).cell? ⟨W.heap.size, 1, none⟩ = some (.int .i64 B.weeks) := by go_simp
  have a2c : (((W.alloc (Obj.cells #[.slice p B.boys.length cap, .int .i64 B.weeks, .slice q B.trials.length capt] 25)).alloc (Obj.cells #[.int .i64 week] 3)).alloc (Obj.cells #[.int .i64 0, .int .i64 0] 32)).cell? ⟨W.heap.size, 2, none⟩ = some (.slice q B.trials.length capt) := by go_simp
  have wc : (((W.alloc (Obj.cells #[.slice p B.boys.length cap, .int .i64 B.weeks, .slice q B.trials.length capt] 25)).alloc (Obj.cells #[.int .i64 week] 3)).alloc (Obj.cells #[.int .i64 0, .int .i64 0] 32)).cell? ⟨W.heap.size + 1, 0, none⟩ = some (.int .i64 week) := by go_simp
  have s0c : (((W.alloc (Obj.cells #[.slice p B.boys.length cap, .int .i64 B.weeks, .slice q B.trials.length capt] 25)).alloc (Obj.cells #[.int .i64 week] 3)).alloc (Obj.cells #[.int .i64 0, .int .i64 0] 32)).cell? ⟨W.heap.size + 1 + 1, 0, none⟩ = some (.int .i64 0) := by go_simp
  have s1c : (((W.alloc (Obj.cells #[.slice p B.boys.length cap, .int .i64 B.weeks, .slice q B.trials.length capt] 25)).alloc (Obj.cells #[.int .i64 week] 3)).alloc (Obj.cells #[.int .i64 0, .int .i64 0] 32)).cell? ⟨W.heap.size + 1 + 1, 1, none⟩ = some (.int .i64 0) := by go_simp
  have sf : ∀ i, (((W.alloc (Obj.cells #[.slice p B.boys.length cap, .int .i64 B.weeks, .slice q B.trials.length capt] 25)).alloc (Obj.cells #[.int .i64 week] 3)).alloc (Obj.cells #[.int .i64 0, .int .i64 0] 32)).frozen? ⟨W.heap.size + 1 + 1, i, none⟩ = false := by intro i; go_simp
  generalize (((W.alloc (Obj.cells #[.slice p B.boys.length cap, .int .i64 B.weeks, .slice q B.trials.length capt] 25)).alloc (Obj.cells #[.int .i64 week] 3)).alloc (Obj.cells #[.int .i64 0, .int .i64 0] 32)) = W0 at *
  refine wpIn_region_invL (StO 9 (fun j => match j with | 0 => (.agg #[.slice p B.boys.length cap, .int .i64 B.weeks, .slice q B.trials.length capt]) | 1 => (.agg #[.slice p B.boys.length cap, .int .i64 B.weeks, .slice q B.trials.length capt]) | 2 => .int .i64 boy | 3 => .bool true | 4 => .bool true | 5 => (.agg #[.slice p B.boys.length cap, .int .i64 B.weeks, .slice q B.trials.length capt]) | 6 => .int .i64 week | 7 => .bool false | 8 => .bool false | _ => undef) W0 B false) (by kernel_rfl) (by kernel_rfl) StO.start ?hop ?hend
  case hop =>
    rintro i o listed a w hl ho h1 h2 hcl ⟨v, err, pp, ha, hw⟩
    have hi11 : i < 16 := (List.getElem?_eq_some_iff.1 ho).1
    match i, ho with
    | 0, ho =>
      have st := StO.same (by kernel_rfl) ha hw ho h1 (by omega) (by omega) (by omega) (kept_refl w)
      have ST := Lib.hid st; clear st
      cases ho
      rw [if_pos (by rfl)]
      have t3 := ha.old 3 (by kernel_rfl)
      simp at t3
      have r0 := kcell hw.kept a0c
      have r1 := kcell hw.kept a1c
      have r2 := kcell hw.kept a2c
      go_simp
      exact ST.out
    | 1, ho =>
      have st := StO.same (by kernel_rfl) ha hw ho h1 (by omega) (by omega) (by omega) (kept_refl w)
      have ST := Lib.hid st; clear st
      cases ho
      rw [if_pos (by rfl)]
      have t3 := ha.old 3 (by kernel_rfl)
      simp at t3
      have r0 := kcell hw.kept a0c
      have r1 := kcell hw.kept a1c
      have r2 := kcell hw.kept a2c
      go_simp
      exact ST.out
    | 2, ho =>
      have st := StO.same (by kernel_rfl) ha hw ho h1 (by omega) (by omega) (by omega) (kept_refl w)
      have ST := Lib.hid st; clear st
      cases ho
      rw [if_pos (by rfl)]
      have t1 := ha.old 1 (by kernel_rfl)
      simp at t1
      go_simp
      exact ST.out
    | 3, ho =>
      have st := fun w' (k : Kept w w') => StO.same (by kernel_rfl) ha hw ho h1 (by omega) (by omega) (by omega) k
      have ST := Lib.hid st; clear st
      cases ho
      rw [if_pos (by rfl)]
      have t15 := ha.new 1 (h2 ⟨1, .data⟩ (by simp) rfl) (d := 15) rfl rfl (by simp)
      simp [openVs] at t15
      have t16 := ha.new 2 (h2 ⟨2, .data⟩ (by simp) rfl) (d := 16) rfl rfl (by simp)
      simp [openVs] at t16
      have hcall := isBoy_any p B.boys.length cap (.int .i64 B.weeks) (.slice q B.trials.length capt) boy w hnb
      rw [hboyT] at hcall
      go_simp
      refine ⟨trivial, rfl, (callsIn_wide.2 hcall).mono ?_⟩
      rintro e w' ⟨rfl, hk⟩
      exact ST.out _ hk
    | 4, ho =>
      have st := StO.same (by kernel_rfl) ha hw ho h1 (by omega) (by omega) (by omega) (kept_refl w)
      have ST := Lib.hid st; clear st
      cases ho
      rw [if_pos (by rfl)]
      have t17 := ha.new 3 (h2 ⟨3, .data⟩ (by simp) rfl) (d := 17) rfl rfl (by simp)
      simp [openVs] at t17
      go_simp
      exact ST.out
    | 5, ho =>
      have st := StO.same (by kernel_rfl) ha hw ho h1 (by omega) (by omega) (by omega) (kept_refl w)
      have ST := Lib.hid st; clear st
      cases ho
      have t18 := ha.new 4 (h2 ⟨4, .guard⟩ (by simp) rfl) (d := 18) rfl rfl (by simp)
      simp [openVs] at t18
      rw [if_pos (by simp [Region.wanted, yielded, getD_bool t18])]
      have t3 := ha.old 3 (by kernel_rfl)
      simp at t3
      have r0 := kcell hw.kept a0c
      have r1 := kcell hw.kept a1c
      have r2 := kcell hw.kept a2c
      go_simp
      exact ST.out
    | 6, ho =>
      have st := StO.same (by kernel_rfl) ha hw ho h1 (by omega) (by omega) (by omega) (kept_refl w)
      have ST := Lib.hid st; clear st
      cases ho
      have t18 := ha.new 4 (h2 ⟨4, .guard⟩ (by simp) rfl) (d := 18) rfl rfl (by simp)
      simp [openVs] at t18
      rw [if_pos (by simp [Region.wanted, yielded, getD_bool t18])]
      have t5 := ha.old 5 (by kernel_rfl)
      simp at t5
      have rw0 := kcell hw.kept wc
      go_simp
      exact ST.out
    | 7, ho =>
      have st := fun w' (k : Kept w w') => StO.same (by kernel_rfl) ha hw ho h1 (by omega) (by omega) (by omega) k
      have ST := Lib.hid st; clear st
      cases ho
      have t18 := ha.new 4 (h2 ⟨4, .guard⟩ (by simp) rfl) (d := 18) rfl rfl (by simp)
      simp [openVs] at t18
      rw [if_pos (by simp [Region.wanted, yielded, getD_bool t18])]
      have t19 := ha.new 5 (h2 ⟨5, .data⟩ (by simp) rfl) (d := 19) rfl rfl (by simp)
      simp [openVs] at t19
      have t20 := ha.new 6 (h2 ⟨6, .data⟩ (by simp) rfl) (d := 20) rfl rfl (by simp)
      simp [openVs] at t20
      have hcall := isWeek_gen (.slice p B.boys.length cap) (.slice q B.trials.length capt) B.weeks week w
      rw [hweekT] at hcall
      go_simp
      refine ⟨trivial, rfl, (callsIn_wide.2 hcall).mono ?_⟩
      rintro e w' ⟨rfl, hk⟩
      exact ST.out _ hk
    | 8, ho =>
      have st := StO.same (by kernel_rfl) ha hw ho h1 (by omega) (by omega) (by omega) (kept_refl w)
      have ST := Lib.hid st; clear st
      cases ho
      rw [if_pos (by rfl)]
      have t18 := ha.new 4 (h2 ⟨4, .data⟩ (by simp) rfl) (d := 18) rfl rfl (by simp)
      simp [openVs] at t18
      have t21 := ha.new 7 (h2 ⟨7, .data⟩ (by simp) rfl) (d := 21) rfl rfl (by simp)
      simp [openVs] at t21
      go_simp
      exact ST.out
    | 9, ho =>
      obtain ⟨n5, n6, n7, n9, n10⟩ := open_first hcl h1 ⟨_, rfl, ⟨9, .data⟩, by simp, rfl, rfl⟩ ⟨_, rfl, ⟨10, .data⟩, by simp, rfl, rfl⟩ ⟨_, rfl, ⟨10, .data⟩, by simp, rfl, rfl⟩ ⟨_, rfl, ⟨11, .data⟩, by simp, rfl, rfl⟩ ⟨_, rfl, ⟨12, .data⟩, by simp, rfl, rfl⟩
      have st := fun v' err' w' (k : OpenReg W0 B false v' err' pp true (on listed 13) (on listed 14) w') => StO.opened (by kernel_rfl) ha hl ho h1 n5 n6 n7 n9 n10 k
      have ST := Lib.hid st; clear st
      cases ho
      rw [if_pos (by rfl)]
      have t14 := ha.new 0 (h2 ⟨0, .data⟩ (by simp) rfl) (d := 14) rfl rfl (by simp)
      simp [openVs] at t14
      have t22 := ha.new 8 (h2 ⟨8, .data⟩ (by simp) rfl) (d := 22) rfl rfl (by simp)
      simp [openVs] at t22
      have hcall := open_any p q cap capt B false W w h (kept_trans hk0 hw.kept) (hg.kept (kept_trans hk0 hw.kept))
      unfold Book.val at hcall
      have HOP := Lib.hid (fun e w' => hw.opened (e := e) (w' := w') W.heap.size hk0.size n9)
      go_simp
      refine ⟨trivial, rfl, (callsIn_wide.2 hcall).mono ?_⟩
      intro e w' hop
      obtain ⟨v', err', rfl, hr⟩ := HOP.out e w' hop
      exact ST.out v' err' w' hr
    | 10, ho =>
      have st := StO.same (by kernel_rfl) ha hw ho h1 (by omega) (by omega) (by omega) (kept_refl w)
      have ST := Lib.hid st; clear st
      cases ho
      rw [if_pos (by rfl)]
      have t23 := ha.new 9 (h2 ⟨9, .data⟩ (by simp) rfl) (d := 23) rfl rfl (by simp)
      simp [openVs] at t23
      go_simp
      exact ST.out
    | 11, ho =>
      have st := StO.same (by kernel_rfl) ha hw ho h1 (by omega) (by omega) (by omega) (kept_refl w)
      have ST := Lib.hid st; clear st
      cases ho
      rw [if_pos (by rfl)]
      have t13 := ha.new 10 (h2 ⟨10, .data⟩ (by simp) rfl) (d := 13) rfl rfl (by simp)
      simp [openVs] at t13
      go_simp
      exact ST.out
    | 12, ho =>
      have st := StO.same (by kernel_rfl) ha hw ho h1 (by omega) (by omega) (by omega) (kept_refl w)
      have ST := Lib.hid st; clear st
      cases ho
      rw [if_pos (by rfl)]
      have t13 := ha.new 10 (h2 ⟨10, .data⟩ (by simp) rfl) (d := 13) rfl rfl (by simp)
      simp [openVs] at t13
      go_simp
      exact ST.out
    | 13, ho =>
      have n9 : on listed 14 = false := by
        cases hb : on listed 14 with
        | false => rfl
        | true => have := hcl 14 _ rfl hb ⟨13, .data⟩ (by simp) rfl; rw [on_no h1] at this; cases this
      have st := StO.boxed (by kernel_rfl) ha hw hl ho h1 n9
      have ST := Lib.hid st; clear st
      cases ho
      rw [if_pos (by rfl)]
      go_simp
      exact ST.out
    | 14, ho =>
      have y8 : on listed 13 = true := h2 ⟨13, .data⟩ (by cases ho; simp) rfl
      have y4 : on listed 9 = true := h2 ⟨9, .chain⟩ (by cases ho; simp) rfl
      have t8 := ha.new 13 y8 (d := 8) rfl rfl (by simp)
      simp [openVs] at t8
      have t24 := ha.new 11 (h2 ⟨11, .data⟩ (by cases ho; simp) rfl) (d := 24) rfl rfl (by simp)
      simp [openVs] at t24
      obtain ⟨hbp, ⟨f0, f1, f2, f3, b0, b1, b2, b3⟩, hbf⟩ := hw.box y8
      have bf0 := hbf 0
      have bf1 := hbf 1
      have bf2 := hbf 2
      have bf3 := hbf 3
      rcases hw.res y4 with ⟨_, _, he, _⟩ | ⟨rfl, _⟩
      · cases he
      · have st := StO.stored (by kernel_rfl) ha hw hl ho (by cases ho; rfl) h1 y8 (show zeroChoir = _ from rfl)
        have ST := Lib.hid st; clear st
        cases ho
        rw [if_pos (by rfl)]
        unfold zeroChoir at t24
        clear hbf
        go_simp
        exact ST.out
    | 15, ho =>
      have st := StO.same (by kernel_rfl) ha hw ho h1 (by omega) (by omega) (by omega) (kept_refl w)
      have ST := Lib.hid st; clear st
      cases ho
      rw [if_pos (by rfl)]
      have t25 := ha.new 12 (h2 ⟨12, .data⟩ (by simp) rfl) (d := 25) rfl rfl (by simp)
      simp [openVs] at t25
      go_simp
      exact ST.out

  case hend =>
    rintro listed a w hall ⟨v, err, pp, ha, hw⟩
    rw [show on listed 9 = true from hall 9 (by simp), show on listed 13 = true from hall 13 (by simp), show on listed 14 = true from hall 14 (by simp)] at hw
    obtain ⟨y, hy, hae⟩ := ha.lit (n := 43) rfl
    have y1 := (hy 1).symm.trans (ha.old 1 (by kernel_rfl))
    have y5 := (hy 5).symm.trans (ha.old 5 (by kernel_rfl))
    have y6 := (hy 6).symm.trans (ha.old 6 (by kernel_rfl))
    have y7 := (hy 7).symm.trans (ha.old 7 (by kernel_rfl))
    have y8 := (hy 8).symm.trans (ha.new 13 (hall 13 (by simp)) (d := 8) rfl rfl (by simp))
    have y9 := (hy 9).symm.trans (ha.new 15 (hall 15 (by simp)) (d := 9) rfl rfl (by simp))
    simp at y1 y5 y6 y7
    simp [openVs] at y8 y9
    simp only [List.range, List.range.loop, List.map] at hae
    rw [y1, y5, y6, y7, y8, y9] at hae
    subst hae
    clear ha hy y1 y5 y6 y7 y8 y9
    refine (by assumption : ∀ a w, Code.wpIn _ _ _ _ _ a w → _) _ w ?_
    have wk := kcell hw.kept wc
    have s0 := kcell hw.kept s0c
    have s1 := kcell hw.kept s1c
    have sf0 : w.frozen? ⟨W.heap.size + 1 + 1, 0, none⟩ = false := ((kturns hw.kept (fun _ => False)).frozen (Go.Ai.lt_of_cell s0c) (fun h => h)).trans (sf 0)
    have sf1 : w.frozen? ⟨W.heap.size + 1 + 1, 1, none⟩ = false := ((kturns hw.kept (fun _ => False)).frozen (Go.Ai.lt_of_cell s0c) (fun h => h)).trans (sf 1)
    obtain ⟨_, x0, x1, x2, x3, hv, b0, b1, b2, b3⟩ := hw.put rfl
    rcases hw.res rfl with ⟨_, _, he, _⟩ | ⟨rfl, herr⟩
    · cases he
    · rcases herr with ⟨rfl, he⟩ | ⟨rfl, he, he2⟩ | ⟨_, _, he, _⟩
      · 
        gi_wp2_with fail
        have hT := Turns.setCell (T := fun b => b = W.heap.size + 1 + 1) (Turns.setCell (T := fun b => b = W.heap.size + 1 + 1) (Turns.refl _ w) rfl 0 (.int .i64 0)) rfl 1 (.int .i64 0)
        have v0 := (cell_set_ne (W := w.setCell ⟨W.heap.size + 1 + 1, 0, none⟩ (.int .i64 0)) (b := W.heap.size + 1 + 1) (o := 1) (o' := 0) (v := .int .i64 0) (by omega)).trans (cell_set_eq s0)
        have v1 := cell_set_eq (v := .int .i64 0) ((cell_set_ne (W := w) (b := W.heap.size + 1 + 1) (o := 0) (o' := 1) (v := .int .i64 0) (by omega)).trans s1)
        refine bodyPost_ret (v := .tuple #[.agg #[.int .i64 0, .int .i64 0], .int .i64 20]) (by simp [results, Tryz.results16, go_sem, v0, v1]) rfl ?_
        refine ⟨20, rfl, ?_, .inl ⟨rfl, he⟩⟩
        exact Below.trans (kept_trans hk0 hw.kept) (hT.toBelow (n := W.heap.size) (by rintro b rfl; omega) (by have := (kept_trans hk0 hw.kept).size; omega))
      · 
        gi_wp2_with fail
        have hT := Turns.setCell (T := fun b => b = W.heap.size + 1 + 1) (Turns.setCell (T := fun b => b = W.heap.size + 1 + 1) (Turns.refl _ w) rfl 0 (.int .i64 0)) rfl 1 (.int .i64 0)
        have v0 := (cell_set_ne (W := w.setCell ⟨W.heap.size + 1 + 1, 0, none⟩ (.int .i64 0)) (b := W.heap.size + 1 + 1) (o := 1) (o' := 0) (v := .int .i64 0) (by omega)).trans (cell_set_eq s0)
        have v1 := cell_set_eq (v := .int .i64 0) ((cell_set_ne (W := w) (b := W.heap.size + 1 + 1) (o := 0) (o' := 1) (v := .int .i64 0) (by omega)).trans s1)
        refine bodyPost_ret (v := .tuple #[.agg #[.int .i64 0, .int .i64 0], .int .i64 21]) (by simp [results, Tryz.results16, go_sem, v0, v1]) rfl ?_
        refine ⟨21, rfl, ?_, .inr ⟨rfl, he, rfl⟩⟩
        exact Below.trans (kept_trans hk0 hw.kept) (hT.toBelow (n := W.heap.size) (by rintro b rfl; omega) (by have := (kept_trans hk0 hw.kept).size; omega))
      · cases he

set_option maxHeartbeats 4000000 in
theorem highest_e2 (p q : Option Addr) (cap capt : Nat) (B : Book) (boy week : Int) (W : World) (h : BookAt W p q cap capt B) (hg : Nothing W) (hboyT : inB boy 0 (B.boys.length - 1) = true) (hweekT : inB week 0 (wrap64 (B.weeks - 1)) = true) (hok0 : B.okB = false) :
    Calls Tryz.prog 16 #[B.val p q cap capt, .int .i64 boy, .int .i64 week] W (ErrQ B (.agg #[.int .i64 0, .int .i64 0]) true W) := by
  have hnb := h.nb
  refine callsIn_wide.1 (callsIn_of_wp (n := 0) Tryz.func16 rfl trivial ?_ rfl)
  simp only [Tryz.ntmps16, List.size_toArray, List.length_cons, List.length_nil, Nat.reduceAdd, Nat.reduceSub, Array.replicate_succ, Array.replicate_zero, List.push_toArray, List.append_toArray, List.nil_append, List.cons_append]
  unfold Book.val
  gi_wp2_with fail
  have hk0 : Kept W (((W.alloc (Obj.cells #[.slice p B.boys.length cap, .int .i64 B.weeks, .slice q B.trials.length capt] 25)).alloc (Obj.cells #[.int .i64 week] 3)).alloc (Obj.cells #[.int .i64 0, .int .i64 0] 32)) := kept_alloc (kept_alloc (kept_alloc (kept_refl _) _) _) _
  have a0c : (((W.alloc (Obj.cells #[.slice p B.boys.length cap, .int .i64 B.weeks, .slice q B.trials.length capt] 25)).alloc (Obj.cells #[.int .i64 week] 3)).alloc (Obj.cells #[.int .i64 0, .int .i64 0] 32)).cell? ⟨W.heap.size, 0, none⟩ = some (.slice p B.boys.length cap) := by go_simp
  have a1c : (((W.alloc (Obj.cells #[.slice p B.boys.length cap, .int .i64 B.weeks, .slice q B.trials.length capt] 25)).alloc (Obj.cells #[.int .i64 week] 3)).alloc (Obj.cells #[.int .i64 0, .int .i64 0] 32)).cell? ⟨W.heap.size, 1, none⟩ = some (.int .i64 B.weeks) := by go_simp
  have a2c : (((W.alloc (Obj.cells #[.slice p B.boys.length cap, .int .i64 B.weeks, .slice q B.trials.length capt] 25)).alloc (Obj.cells #[.int .i64 week] 3)).alloc (Obj.cells #[.int .i64 0, .int .i64 0] 32)).cell? ⟨W.heap.size, 2, none⟩ = some (.slice q B.trials.length capt) := by go_simp
  have wc : (((W.alloc (Obj.cells #[.slice p B.boys.length cap, .int .i64 B.weeks, .slice q B.trials.length capt] 25)).alloc (Obj.cells #[.int .i64 week] 3)).alloc (Obj.cells #[.int .i64 0, .int .i64 0] 32)).cell? ⟨W.heap.size + 1, 0, none⟩ = some (.int .i64 week) := by go_simp
  have s0c : (((W.alloc (Obj.cells #[.slice p B.boys.length cap, .int .i64 B.weeks, .slice q B.trials.length capt] 25)).alloc (Obj.cells #[.int .i64 week] 3)).alloc (Obj.cells #[.int .i64 0, .int .i64 0] 32)).cell? ⟨W.heap.size + 1 + 1, 0, none⟩ = some (.int .i64 0) := by go_simp
  have s1c : (((W.alloc (Obj.cells #[.slice p B.boys.length cap, .int .i64 B.weeks, .slice q B.trials.length capt] 25)).alloc (Obj.cells #[.int .i64 week] 3)).alloc (Obj.cells #[.int .i64 0, .int .i64 0] 32)).cell? ⟨W.heap.size + 1 + 1, 1, none⟩ = some (.int .i64 0) := by go_simp
  have sf : ∀ i, (((W.alloc (Obj.cells #[.slice p B.boys.length cap, .int .i64 B.weeks, .slice q B.trials.length capt] 25)).alloc (Obj.cells #[.int .i64 week] 3)).alloc (Obj.cells #[.int .i64 0, .int .i64 0] 32)).frozen? ⟨W.heap.size + 1 + 1, i, none⟩ = false := by intro i; go_simp
  generalize (((W.alloc (Obj.cells #[.slice p B.boys.length cap, .int .i64 B.weeks, .slice q B.trials.length capt] 25)).alloc (Obj.cells #[.int .i64 week] 3)).alloc (Obj.cells #[.int .i64 0, .int .i64 0] 32)) = W0 at *
  refine wpIn_region_invL (StO 9 (fun j => match j with | 0 => (.agg #[.slice p B.boys.length cap, .int .i64 B.weeks, .slice q B.trials.length capt]) | 1 => (.agg #[.slice p B.boys.length cap, .int .i64 B.weeks, .slice q B.trials.length capt]) | 2 => .int .i64 boy | 3 => .bool true | 4 => .bool true | 5 => (.agg #[.slice p B.boys.length cap, .int .i64 B.weeks, .slice q B.trials.length capt]) | 6 => .int .i64 week | 7 => .bool true | 8 => .bool true | _ => undef) W0 B true) (by kernel_rfl) (by kernel_rfl) StO.start ?hop ?hend
  case hop =>
    rintro i o listed a w hl ho h1 h2 hcl ⟨v, err, pp, ha, hw⟩
    have hi11 : i < 16 := (List.getElem?_eq_some_iff.1 ho).1
    match i, ho with
    | 0, ho =>
      have st := StO.same (by kernel_rfl) ha hw ho h1 (by omega) (by omega) (by omega) (kept_refl w)
      have ST := Lib.hid st; clear st
      cases ho
      rw [if_pos (by rfl)]
      have t3 := ha.old 3 (by kernel_rfl)
      simp at t3
      have r0 := kcell hw.kept a0c
      have r1 := kcell hw.kept a1c
      have r2 := kcell hw.kept a2c
      go_simp
      exact ST.out
    | 1, ho =>
      have st := StO.same (by kernel_rfl) ha hw ho h1 (by omega) (by omega) (by omega) (kept_refl w)
      have ST := Lib.hid st; clear st
      cases ho
      rw [if_pos (by rfl)]
      have t3 := ha.old 3 (by kernel_rfl)
      simp at t3
      have r0 := kcell hw.kept a0c
      have r1 := kcell hw.kept a1c
      have r2 := kcell hw.kept a2c
      go_simp
      exact ST.out
    | 2, ho =>
      have st := StO.same (by kernel_rfl) ha hw ho h1 (by omega) (by omega) (by omega) (kept_refl w)
      have ST := Lib.hid st; clear st
      cases ho
      rw [if_pos (by rfl)]
      have t1 := ha.old 1 (by kernel_rfl)
      simp at t1
      go_simp
      exact ST.out
    | 3, ho =>
      have st := fun w' (k : Kept w w') => StO.same (by kernel_rfl) ha hw ho h1 (by omega) (by omega) (by omega) k
      have ST := Lib.hid st; clear st
      cases ho
      rw [if_pos (by rfl)]
      have t15 := ha.new 1 (h2 ⟨1, .data⟩ (by simp) rfl) (d := 15) rfl rfl (by simp)
      simp [openVs] at t15
      have t16 := ha.new 2 (h2 ⟨2, .data⟩ (by simp) rfl) (d := 16) rfl rfl (by simp)
      simp [openVs] at t16
      have hcall := isBoy_any p B.boys.length cap (.int .i64 B.weeks) (.slice q B.trials.length capt) boy w hnb
      rw [hboyT] at hcall
      go_simp
      refine ⟨trivial, rfl, (callsIn_wide.2 hcall).mono ?_⟩
      rintro e w' ⟨rfl, hk⟩
      exact ST.out _ hk
    | 4, ho =>
      have st := StO.same (by kernel_rfl) ha hw ho h1 (by omega) (by omega) (by omega) (kept_refl w)
      have ST := Lib.hid st; clear st
      cases ho
      rw [if_pos (by rfl)]
      have t17 := ha.new 3 (h2 ⟨3, .data⟩ (by simp) rfl) (d := 17) rfl rfl (by simp)
      simp [openVs] at t17
      go_simp
      exact ST.out
    | 5, ho =>
      have st := StO.same (by kernel_rfl) ha hw ho h1 (by omega) (by omega) (by omega) (kept_refl w)
      have ST := Lib.hid st; clear st
      cases ho
      have t18 := ha.new 4 (h2 ⟨4, .guard⟩ (by simp) rfl) (d := 18) rfl rfl (by simp)
      simp [openVs] at t18
      rw [if_pos (by simp [Region.wanted, yielded, getD_bool t18])]
      have t3 := ha.old 3 (by kernel_rfl)
      simp at t3
      have r0 := kcell hw.kept a0c
      have r1 := kcell hw.kept a1c
      have r2 := kcell hw.kept a2c
      go_simp
      exact ST.out
    | 6, ho =>
      have st := StO.same (by kernel_rfl) ha hw ho h1 (by omega) (by omega) (by omega) (kept_refl w)
      have ST := Lib.hid st; clear st
      cases ho
      have t18 := ha.new 4 (h2 ⟨4, .guard⟩ (by simp) rfl) (d := 18) rfl rfl (by simp)
      simp [openVs] at t18
      rw [if_pos (by simp [Region.wanted, yielded, getD_bool t18])]
      have t5 := ha.old 5 (by kernel_rfl)
      simp at t5
      have rw0 := kcell hw.kept wc
      go_simp
      exact ST.out
    | 7, ho =>
      have st := fun w' (k : Kept w w') => StO.same (by kernel_rfl) ha hw ho h1 (by omega) (by omega) (by omega) k
      have ST := Lib.hid st; clear st
      cases ho
      have t18 := ha.new 4 (h2 ⟨4, .guard⟩ (by simp) rfl) (d := 18) rfl rfl (by simp)
      simp [openVs] at t18
      rw [if_pos (by simp [Region.wanted, yielded, getD_bool t18])]
      have t19 := ha.new 5 (h2 ⟨5, .data⟩ (by simp) rfl) (d := 19) rfl rfl (by simp)
      simp [openVs] at t19
      have t20 := ha.new 6 (h2 ⟨6, .data⟩ (by simp) rfl) (d := 20) rfl rfl (by simp)
      simp [openVs] at t20
      have hcall := isWeek_gen (.slice p B.boys.length cap) (.slice q B.trials.length capt) B.weeks week w
      rw [hweekT] at hcall
      go_simp
      refine ⟨trivial, rfl, (callsIn_wide.2 hcall).mono ?_⟩
      rintro e w' ⟨rfl, hk⟩
      exact ST.out _ hk
    | 8, ho =>
      have st := StO.same (by kernel_rfl) ha hw ho h1 (by omega) (by omega) (by omega) (kept_refl w)
      have ST := Lib.hid st; clear st
      cases ho
      rw [if_pos (by rfl)]
      have t18 := ha.new 4 (h2 ⟨4, .data⟩ (by simp) rfl) (d := 18) rfl rfl (by simp)
      simp [openVs] at t18
      have t21 := ha.new 7 (h2 ⟨7, .data⟩ (by simp) rfl) (d := 21) rfl rfl (by simp)
      simp [openVs] at t21
      go_simp
      exact ST.out
    | 9, ho =>
      obtain ⟨n5, n6, n7, n9, n10⟩ := open_first hcl h1 ⟨_, rfl, ⟨9, .data⟩, by simp, rfl, rfl⟩ ⟨_, rfl, ⟨10, .data⟩, by simp, rfl, rfl⟩ ⟨_, rfl, ⟨10, .data⟩, by simp, rfl, rfl⟩ ⟨_, rfl, ⟨11, .data⟩, by simp, rfl, rfl⟩ ⟨_, rfl, ⟨12, .data⟩, by simp, rfl, rfl⟩
      have st := fun v' err' w' (k : OpenReg W0 B true v' err' pp true (on listed 13) (on listed 14) w') => StO.opened (by kernel_rfl) ha hl ho h1 n5 n6 n7 n9 n10 k
      have ST := Lib.hid st; clear st
      cases ho
      rw [if_pos (by rfl)]
      have t14 := ha.new 0 (h2 ⟨0, .data⟩ (by simp) rfl) (d := 14) rfl rfl (by simp)
      simp [openVs] at t14
      have t22 := ha.new 8 (h2 ⟨8, .data⟩ (by simp) rfl) (d := 22) rfl rfl (by simp)
      simp [openVs] at t22
      have hcall := open_any p q cap capt B true W w h (kept_trans hk0 hw.kept) (hg.kept (kept_trans hk0 hw.kept))
      unfold Book.val at hcall
      have HOP := Lib.hid (fun e w' => hw.opened (e := e) (w' := w') W.heap.size hk0.size n9)
      go_simp
      refine ⟨trivial, rfl, (callsIn_wide.2 hcall).mono ?_⟩
      intro e w' hop
      obtain ⟨v', err', rfl, hr⟩ := HOP.out e w' hop
      exact ST.out v' err' w' hr
    | 10, ho =>
      have st := StO.same (by kernel_rfl) ha hw ho h1 (by omega) (by omega) (by omega) (kept_refl w)
      have ST := Lib.hid st; clear st
      cases ho
      rw [if_pos (by rfl)]
      have t23 := ha.new 9 (h2 ⟨9, .data⟩ (by simp) rfl) (d := 23) rfl rfl (by simp)
      simp [openVs] at t23
      go_simp
      exact ST.out
    | 11, ho =>
      have st := StO.same (by kernel_rfl) ha hw ho h1 (by omega) (by omega) (by omega) (kept_refl w)
      have ST := Lib.hid st; clear st
      cases ho
      rw [if_pos (by rfl)]
      have t13 := ha.new 10 (h2 ⟨10, .data⟩ (by simp) rfl) (d := 13) rfl rfl (by simp)
      simp [openVs] at t13
      go_simp
      exact ST.out
    | 12, ho =>
      have st := StO.same (by kernel_rfl) ha hw ho h1 (by omega) (by omega) (by omega) (kept_refl w)
      have ST := Lib.hid st; clear st
      cases ho
      rw [if_pos (by rfl)]
      have t13 := ha.new 10 (h2 ⟨10, .data⟩ (by simp) rfl) (d := 13) rfl rfl (by simp)
      simp [openVs] at t13
      go_simp
      exact ST.out
    | 13, ho =>
      have n9 : on listed 14 = false := by
        cases hb : on listed 14 with
        | false => rfl
        | true => have := hcl 14 _ rfl hb ⟨13, .data⟩ (by simp) rfl; rw [on_no h1] at this; cases this
      have st := StO.boxed (by kernel_rfl) ha hw hl ho h1 n9
      have ST := Lib.hid st; clear st
      cases ho
      rw [if_pos (by rfl)]
      go_simp
      exact ST.out
    | 14, ho =>
      have y8 : on listed 13 = true := h2 ⟨13, .data⟩ (by cases ho; simp) rfl
      have y4 : on listed 9 = true := h2 ⟨9, .chain⟩ (by cases ho; simp) rfl
      have t8 := ha.new 13 y8 (d := 8) rfl rfl (by simp)
      simp [openVs] at t8
      have t24 := ha.new 11 (h2 ⟨11, .data⟩ (by cases ho; simp) rfl) (d := 24) rfl rfl (by simp)
      simp [openVs] at t24
      obtain ⟨hbp, ⟨f0, f1, f2, f3, b0, b1, b2, b3⟩, hbf⟩ := hw.box y8
      have bf0 := hbf 0
      have bf1 := hbf 1
      have bf2 := hbf 2
      have bf3 := hbf 3
      rcases hw.res y4 with ⟨_, _, _, _, c, S, hcB, rfl, _⟩ | ⟨rfl, _⟩
      · clear hcB
        have st := StO.stored (by kernel_rfl) ha hw hl ho (by cases ho; rfl) h1 y8 (show c.val = _ from rfl)
        have ST := Lib.hid st; clear st
        cases ho
        rw [if_pos (by rfl)]
        unfold Choir.val at t24
        clear hbf
        go_simp
        exact ST.out
      · have st := StO.stored (by kernel_rfl) ha hw hl ho (by cases ho; rfl) h1 y8 (show zeroChoir = _ from rfl)
        have ST := Lib.hid st; clear st
        cases ho
        rw [if_pos (by rfl)]
        unfold zeroChoir at t24
        clear hbf
        go_simp
        exact ST.out
    | 15, ho =>
      have st := StO.same (by kernel_rfl) ha hw ho h1 (by omega) (by omega) (by omega) (kept_refl w)
      have ST := Lib.hid st; clear st
      cases ho
      rw [if_pos (by rfl)]
      have t25 := ha.new 12 (h2 ⟨12, .data⟩ (by simp) rfl) (d := 25) rfl rfl (by simp)
      simp [openVs] at t25
      go_simp
      exact ST.out

  case hend =>
    rintro listed a w hall ⟨v, err, pp, ha, hw⟩
    rw [show on listed 9 = true from hall 9 (by simp), show on listed 13 = true from hall 13 (by simp), show on listed 14 = true from hall 14 (by simp)] at hw
    obtain ⟨y, hy, hae⟩ := ha.lit (n := 43) rfl
    have y1 := (hy 1).symm.trans (ha.old 1 (by kernel_rfl))
    have y5 := (hy 5).symm.trans (ha.old 5 (by kernel_rfl))
    have y6 := (hy 6).symm.trans (ha.old 6 (by kernel_rfl))
    have y7 := (hy 7).symm.trans (ha.old 7 (by kernel_rfl))
    have y8 := (hy 8).symm.trans (ha.new 13 (hall 13 (by simp)) (d := 8) rfl rfl (by simp))
    have y9 := (hy 9).symm.trans (ha.new 15 (hall 15 (by simp)) (d := 9) rfl rfl (by simp))
    simp at y1 y5 y6 y7
    simp [openVs] at y8 y9
    simp only [List.range, List.range.loop, List.map] at hae
    rw [y1, y5, y6, y7, y8, y9] at hae
    subst hae
    clear ha hy y1 y5 y6 y7 y8 y9
    refine (by assumption : ∀ a w, Code.wpIn _ _ _ _ _ a w → _) _ w ?_
    have wk := kcell hw.kept wc
    have s0 := kcell hw.kept s0c
    have s1 := kcell hw.kept s1c
    have sf0 : w.frozen? ⟨W.heap.size + 1 + 1, 0, none⟩ = false := ((kturns hw.kept (fun _ => False)).frozen (Go.Ai.lt_of_cell s0c) (fun h => h)).trans (sf 0)
    have sf1 : w.frozen? ⟨W.heap.size + 1 + 1, 1, none⟩ = false := ((kturns hw.kept (fun _ => False)).frozen (Go.Ai.lt_of_cell s0c) (fun h => h)).trans (sf 1)
    obtain ⟨_, x0, x1, x2, x3, hv, b0, b1, b2, b3⟩ := hw.put rfl
    rcases hw.res rfl with ⟨_, hok, _⟩ | ⟨rfl, herr⟩
    · rw [hok0] at hok; cases hok
    · rcases herr with ⟨rfl, he⟩ | ⟨_, he, _⟩ | ⟨_, he, _⟩
      · 
        gi_wp2_with fail
        have hT := Turns.setCell (T := fun b => b = W.heap.size + 1 + 1) (Turns.setCell (T := fun b => b = W.heap.size + 1 + 1) (Turns.refl _ w) rfl 0 (.int .i64 0)) rfl 1 (.int .i64 0)
        have v0 := (cell_set_ne (W := w.setCell ⟨W.heap.size + 1 + 1, 0, none⟩ (.int .i64 0)) (b := W.heap.size + 1 + 1) (o := 1) (o' := 0) (v := .int .i64 0) (by omega)).trans (cell_set_eq s0)
        have v1 := cell_set_eq (v := .int .i64 0) ((cell_set_ne (W := w) (b := W.heap.size + 1 + 1) (o := 0) (o' := 1) (v := .int .i64 0) (by omega)).trans s1)
        refine bodyPost_ret (v := .tuple #[.agg #[.int .i64 0, .int .i64 0], .int .i64 20]) (by simp [results, Tryz.results16, go_sem, v0, v1]) rfl ?_
        refine ⟨20, rfl, ?_, .inl ⟨rfl, he⟩⟩
        exact Below.trans (kept_trans hk0 hw.kept) (hT.toBelow (n := W.heap.size) (by rintro b rfl; omega) (by have := (kept_trans hk0 hw.kept).size; omega))
      · rw [hok0] at he; cases he
      · rw [hok0] at he; cases he

end Go.Proofs.YthkcgengohoboaaGreatDoor
set_option linter.all false
namespace Go.Proofs.YthkcgengohoboaaGreatDoor
open Go.RowKit Go.Sort Go.Rg
set_option maxRecDepth 100000

/-- what is known while a region is carried out, in whatever order, of which one operation (b) makes memory and another one, behind it, (s) writes to that memory -/
def StM (b s : Nat) (vs : Nat → Value) (V WB WS : World) (l : List Oper) (a0 : Act) (listed : Array Bool) (a : Act) (w : World) : Prop :=
  AtSt l.toArray vs a0 listed a ∧ (on listed s = true → on listed b = true) ∧ w = if on listed s then WS else if on listed b then WB else V.drew
section
variable {l : List Oper} {a0 a : Act} {b s : Nat} {vs : Nat → Value} {V WB WS w : World} {listed : Array Bool} {i : Nat} {o : Oper}
theorem StM.start : StM b s vs V WB WS l a0 (Array.replicate l.length false) a0 V.drew := by
  have no : ∀ j, on (Array.replicate l.length false) j = false := fun j => by
    unfold on
    simp only [Array.getD_eq_getD_getElem?, Array.getElem?_replicate]
    split <;> simp
  refine ⟨⟨rfl, rfl, fun j o d hj => ?_, fun t _ => rfl⟩, (fun h => by rw [no] at h; cases h), by rw [no, no]; rfl⟩
  have := no j
  unfold on at this
  rw [this] at hj; cases hj
theorem StM.pure (hd : distFrom l = true) (ha : AtSt l.toArray vs a0 listed a) (hbs : on listed s = true → on listed b = true) (hw : w = if on listed s then WS else if on listed b then WB else V.drew) (ho : l[i]? = some o) (h1 : listed.getD i true = false) (ib : i ≠ b) (is : i ≠ s) :
    StM b s vs V WB WS l a0 (listed.setIfInBounds i true) (a.put o.dst (vs i)) w :=
  ⟨ha.put (by simpa using ho) h1 (dist_arr hd), by rw [on_set (Ne.symm is), on_set (Ne.symm ib)]; exact hbs, by rw [on_set (Ne.symm is), on_set (Ne.symm ib)]; exact hw⟩
theorem StM.stored (hd : distFrom l = true) (ha : AtSt l.toArray vs a0 listed a) (hw : w = if on listed s then WS else if on listed b then WB else V.drew) (hl : listed.size = l.length) (ho : l[s]? = some o) (h1 : listed.getD s true = false) (hn : o.dst = none) (hb : on listed b = true) :
    w = WB ∧ StM b s vs V WB WS l a0 (listed.setIfInBounds s true) a WS := by
  have hz : s < listed.size := by rw [hl]; exact (List.getElem?_eq_some_iff.1 ho).1
  rw [on_no h1, hb] at hw
  have := ha.put (i := s) (by simpa using ho) h1 (dist_arr hd)
  rw [hn] at this
  exact ⟨hw, this, fun _ => on_set_mono hb, by rw [on_self hz]; rfl⟩
end

end Go.Proofs.YthkcgengohoboaaGreatDoor
set_option linter.all false
namespace Go.Proofs.YthkcgengohoboaaGreatDoor
open Go.RowKit Go.Sort Go.Rg
set_option maxRecDepth 100000

/-- the book with one trial more -/
def Book.more (B : Book) (t : Trial) : Book := ⟨B.boys, B.weeks, B.trials ++ [t]⟩
end Go.Proofs.YthkcgengohoboaaGreatDoor
set_option linter.all false
namespace Go.Proofs.YthkcgengohoboaaGreatDoor
open Go.RowKit Go.Sort Go.Rg
set_option maxRecDepth 100000

set_option maxHeartbeats 4000000 in
theorem right_bad (p q : Option Addr) (cap capt : Nat) (B : Book) (W : World) (h : BookAt W p q cap capt B) (hok : B.okB = false) :
    Calls Tryz.prog 8 #[B.val p q cap capt] W fun e C => e = .returned (.tuple #[.bool false, .int .i64 20]) ∧ Kept W C := by
  unfold Book.val
  have hk0 : Kept W (W.alloc (Obj.cells #[.slice p B.boys.length cap, .int .i64 B.weeks, .slice q B.trials.length capt] 25)) := kept_alloc (kept_refl _) _
  have a0 : (W.alloc (Obj.cells #[.slice p B.boys.length cap, .int .i64 B.weeks, .slice q B.trials.length capt] 25)).cell? ⟨W.heap.size, 0, none⟩ = some (.slice p B.boys.length cap) := by go_simp
  have a1 : (W.alloc (Obj.cells #[.slice p B.boys.length cap, .int .i64 B.weeks, .slice q B.trials.length capt] 25)).cell? ⟨W.heap.size, 1, none⟩ = some (.int .i64 B.weeks) := by go_simp
  have a2 : (W.alloc (Obj.cells #[.slice p B.boys.length cap, .int .i64 B.weeks, .slice q B.trials.length capt] 25)).cell? ⟨W.heap.size, 2, none⟩ = some (.slice q B.trials.length capt) := by go_simp
  go_enter Tryz.func8, Tryz.ntmps8
  go_wp2_with fail
  generalize W.alloc (Obj.cells #[.slice p B.boys.length cap, .int .i64 B.weeks, .slice q B.trials.length capt] 25) = W1 at *
  refine (check_any p q cap capt B _ (h.kept hk0)).mono ?_
  rintro e W2 ⟨rfl, hk2⟩
  have hkW2 := kept_trans hk0 hk2
  simp only [hok, if_false, Bool.false_eq_true]
  go_wp2_with fail
  refine bodyPost_ret (v := .tuple #[.bool false, .int .i64 20]) (by simp [results, Tryz.results8, go_sem]) rfl ?_
  exact ⟨rfl, hkW2⟩


end Go.Proofs.YthkcgengohoboaaGreatDoor
