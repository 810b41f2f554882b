import Derived.Test.YtbhgicggpkibeaaDoorVX18
set_option linter.all false
set_option linter.all false
namespace Go.Proofs.YtbhgicggpkibeaaDoor
open Go.RowKit Go.Sort Go.Rg
set_option maxRecDepth 100000

set_option maxHeartbeats 2000000 in
theorem breaks_any (p q : Option Addr) (cap capt : Nat) (B : Book) (boy : Nat) (W : World) (h : BookAt W p q cap capt B) (hg : Nothing W) (hok0 : B.okB = true) (hb : boy < B.boys.length) :
    Calls Tryd.prog 9 #[B.val p q cap capt, .int .i64 (boy : Int)] W (BothP B boy (fun n => (n.getD 4 0, true)) W) := by
  have hk0 : Kept W ((W.alloc (Obj.cells #[.slice p B.boys.length cap, .int .i64 B.weeks, .slice q B.trials.length capt] 25)).alloc (Obj.cells #[.int .i64 0, .int .i64 0] 35)) := kept_alloc (kept_alloc (kept_refl _) _) _
  have hcall := bothEnds_any p q cap capt B boy 4 (by omega) _ (h.kept hk0) (hg.kept hk0) hok0 hb
  have HC := Lib.hid hcall; clear hcall
  unfold Book.val at HC ⊢
  have s0 : ((W.alloc (Obj.cells #[.slice p B.boys.length cap, .int .i64 B.weeks, .slice q B.trials.length capt] 25)).alloc (Obj.cells #[.int .i64 0, .int .i64 0] 35)).cell? ⟨W.heap.size + 1, 0, none⟩ = some (.int .i64 0) := by go_simp
  have s1 : ((W.alloc (Obj.cells #[.slice p B.boys.length cap, .int .i64 B.weeks, .slice q B.trials.length capt] 25)).alloc (Obj.cells #[.int .i64 0, .int .i64 0] 35)).cell? ⟨W.heap.size + 1, 1, none⟩ = some (.int .i64 0) := by go_simp
  have sf : ∀ i, ((W.alloc (Obj.cells #[.slice p B.boys.length cap, .int .i64 B.weeks, .slice q B.trials.length capt] 25)).alloc (Obj.cells #[.int .i64 0, .int .i64 0] 35)).frozen? ⟨W.heap.size + 1, i, none⟩ = false := by intro i; go_simp
  go_enter Tryd.func9, Tryd.ntmps9
  generalize hBP : BothP B boy (fun n => (n.getD 4 0, true)) W = PP at *
  go_wp2_with fail
  generalize (W.alloc (Obj.cells #[.slice p B.boys.length cap, .int .i64 B.weeks, .slice q B.trials.length capt] 25)).alloc (Obj.cells #[.int .i64 0, .int .i64 0] 35) = W0 at *
  refine HC.out.mono ?_
  rintro e w2 ⟨lo, hi, err, rfl, hk2, hr⟩
  have t0 := kcell hk2 s0
  have t1 := kcell hk2 s1
  have tf0 : w2.frozen? ⟨W.heap.size + 1, 0, none⟩ = false := ((kturns hk2 (fun _ => False)).frozen (Go.Ai.lt_of_cell s0) (fun h => h)).trans (sf 0)
  have tf1 : w2.frozen? ⟨W.heap.size + 1, 1, none⟩ = false := ((kturns hk2 (fun _ => False)).frozen (Go.Ai.lt_of_cell s0) (fun h => h)).trans (sf 1)
  have hzs := Go.Ai.lt_of_cell t0
  go_wp2_with fail
  have hT := Turns.setCell (T := fun b => b = W.heap.size + 1) (Turns.setCell (T := fun b => b = W.heap.size + 1) (Turns.refl _ w2) rfl 0 (.int .i64 lo)) rfl 1 (.int .i64 hi)
  have v0 := (cell_set_ne (W := w2.setCell ⟨W.heap.size + 1, 0, none⟩ (.int .i64 lo)) (b := W.heap.size + 1) (o := 1) (o' := 0) (v := .int .i64 hi) (by omega)).trans (cell_set_eq t0)
  have v1 := cell_set_eq (v := .int .i64 hi) ((cell_set_ne (W := w2) (b := W.heap.size + 1) (o := 0) (o' := 1) (v := .int .i64 lo) (by omega)).trans t1)
  refine bodyPost_ret (v := .tuple #[.agg #[.int .i64 lo, .int .i64 hi], .int .i64 err]) (by simp [results, Tryd.results9, go_sem, v0, v1]) rfl ?_
  rw [← hBP]
  refine ⟨lo, hi, err, rfl, ?_, hr⟩
  exact Below.trans (kept_trans hk0 hk2) (hT.toBelow (n := W.heap.size) (by rintro b rfl; omega) (by have := (kept_trans hk0 hk2).size; omega))
end Go.Proofs.YtbhgicggpkibeaaDoor
