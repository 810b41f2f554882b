import Derived.Test.YtbhgicggpkibeaaDoorVW2
import Derived.Deep.RegionHeld3
import Derived.Deep.DeepCutAuto
import Derived.Lib.QuietBelow
set_option linter.all false
set_option linter.all false
namespace Go.Proofs.YtbhgicggpkibeaaDoor
open Go.RowKit Go.Sort
set_option maxRecDepth 100000
set_option maxHeartbeats 400000

theorem bcell {W w1 : World} (hb : Kept W w1) : (∀ b o, b < W.heap.size → w1.cell? ⟨b, o, none⟩ = W.cell? ⟨b, o, none⟩) ∧ (∀ b o, b < W.heap.size → w1.frozen? ⟨b, o, none⟩ = W.frozen? ⟨b, o, none⟩) ∧ W.heap.size ≤ w1.heap.size :=
  ⟨fun b o h => hb.cell (p := ⟨b, o, none⟩) h, fun b o h => hb.frozen (p := ⟨b, o, none⟩) h, hb.size⟩

theorem kept_drew {a w : World} (h : Kept a w) : Kept a w.drew := by unfold Kept at *; exact ⟨h.os, h.tape, h.output, h.size, h.block⟩
theorem kept_alloc {a w : World} (h : Kept a w) (x : Obj) : Kept a (w.alloc x) := by unfold Kept at *; exact Below.alloc h h.size x
theorem kept_refl (a : World) : Kept a a := Below.refl _ _
theorem kept_trans {a b c : World} (h : Kept a b) (k : Kept b c) : Kept a c := by unfold Kept at *; exact h.trans (k.mono h.size)


/-- a truth broken in the week does not sing -/
theorem sings_broken (k0 k1 ts m by' : Value) (n0 n1 n2 n3 : Value) (n4 lo hi wk : Int) (w : World) (hbr : n4 ≤ wk) :
   Calls Tryd.prog 56 #[.agg #[k0, k1, ts, m, by', n0, n1, n2, n3, .int .i64 n4], .int .i64 wk, .agg #[.int .i64 lo, .int .i64 hi]] w fun e w' => e = .returned (.bool false) ∧ Kept w w' := by
  have hd : decide (n4 ≤ wk) = true := by simpa using hbr
  have c0 : ∀ d os, (grow (redrawn ((w.alloc (Obj.cells #[k0, k1, ts, m, by', n0, n1, n2, n3, Value.int IntKind.i64 n4] 92)).alloc (Obj.cells #[Value.int IntKind.i64 lo, Value.int IntKind.i64 hi] 35)) d) os).cell? ⟨w.heap.size, 0, none⟩ = some (k0) := cell_regrown (by go_simp)
  have c1 : ∀ d os, (grow (redrawn ((w.alloc (Obj.cells #[k0, k1, ts, m, by', n0, n1, n2, n3, Value.int IntKind.i64 n4] 92)).alloc (Obj.cells #[Value.int IntKind.i64 lo, Value.int IntKind.i64 hi] 35)) d) os).cell? ⟨w.heap.size, 1, none⟩ = some (k1) := cell_regrown (by go_simp)
  have c2 : ∀ d os, (grow (redrawn ((w.alloc (Obj.cells #[k0, k1, ts, m, by', n0, n1, n2, n3, Value.int IntKind.i64 n4] 92)).alloc (Obj.cells #[Value.int IntKind.i64 lo, Value.int IntKind.i64 hi] 35)) d) os).cell? ⟨w.heap.size, 2, none⟩ = some (ts) := cell_regrown (by go_simp)
  have c3 : ∀ d os, (grow (redrawn ((w.alloc (Obj.cells #[k0, k1, ts, m, by', n0, n1, n2, n3, Value.int IntKind.i64 n4] 92)).alloc (Obj.cells #[Value.int IntKind.i64 lo, Value.int IntKind.i64 hi] 35)) d) os).cell? ⟨w.heap.size, 3, none⟩ = some (m) := cell_regrown (by go_simp)
  have c4 : ∀ d os, (grow (redrawn ((w.alloc (Obj.cells #[k0, k1, ts, m, by', n0, n1, n2, n3, Value.int IntKind.i64 n4] 92)).alloc (Obj.cells #[Value.int IntKind.i64 lo, Value.int IntKind.i64 hi] 35)) d) os).cell? ⟨w.heap.size, 4, none⟩ = some (by') := cell_regrown (by go_simp)
  have c5 : ∀ d os, (grow (redrawn ((w.alloc (Obj.cells #[k0, k1, ts, m, by', n0, n1, n2, n3, Value.int IntKind.i64 n4] 92)).alloc (Obj.cells #[Value.int IntKind.i64 lo, Value.int IntKind.i64 hi] 35)) d) os).cell? ⟨w.heap.size, 5, none⟩ = some (n0) := cell_regrown (by go_simp)
  have c6 : ∀ d os, (grow (redrawn ((w.alloc (Obj.cells #[k0, k1, ts, m, by', n0, n1, n2, n3, Value.int IntKind.i64 n4] 92)).alloc (Obj.cells #[Value.int IntKind.i64 lo, Value.int IntKind.i64 hi] 35)) d) os).cell? ⟨w.heap.size, 6, none⟩ = some (n1) := cell_regrown (by go_simp)
  have c7 : ∀ d os, (grow (redrawn ((w.alloc (Obj.cells #[k0, k1, ts, m, by', n0, n1, n2, n3, Value.int IntKind.i64 n4] 92)).alloc (Obj.cells #[Value.int IntKind.i64 lo, Value.int IntKind.i64 hi] 35)) d) os).cell? ⟨w.heap.size, 7, none⟩ = some (n2) := cell_regrown (by go_simp)
  have c8 : ∀ d os, (grow (redrawn ((w.alloc (Obj.cells #[k0, k1, ts, m, by', n0, n1, n2, n3, Value.int IntKind.i64 n4] 92)).alloc (Obj.cells #[Value.int IntKind.i64 lo, Value.int IntKind.i64 hi] 35)) d) os).cell? ⟨w.heap.size, 8, none⟩ = some (n3) := cell_regrown (by go_simp)
  have c9 : ∀ d os, (grow (redrawn ((w.alloc (Obj.cells #[k0, k1, ts, m, by', n0, n1, n2, n3, Value.int IntKind.i64 n4] 92)).alloc (Obj.cells #[Value.int IntKind.i64 lo, Value.int IntKind.i64 hi] 35)) d) os).cell? ⟨w.heap.size, 9, none⟩ = some (.int .i64 n4) := cell_regrown (by go_simp)
  have c10 : ∀ d os, (grow (redrawn ((w.alloc (Obj.cells #[k0, k1, ts, m, by', n0, n1, n2, n3, Value.int IntKind.i64 n4] 92)).alloc (Obj.cells #[Value.int IntKind.i64 lo, Value.int IntKind.i64 hi] 35)) d) os).cell? ⟨w.heap.size + 1, 0, none⟩ = some (.int .i64 lo) := cell_regrown (by go_simp)
  have c11 : ∀ d os, (grow (redrawn ((w.alloc (Obj.cells #[k0, k1, ts, m, by', n0, n1, n2, n3, Value.int IntKind.i64 n4] 92)).alloc (Obj.cells #[Value.int IntKind.i64 lo, Value.int IntKind.i64 hi] 35)) d) os).cell? ⟨w.heap.size + 1, 1, none⟩ = some (.int .i64 hi) := cell_regrown (by go_simp)
  have kW : Kept w ((w.alloc (Obj.cells #[k0, k1, ts, m, by', n0, n1, n2, n3, Value.int IntKind.i64 n4] 92)).alloc (Obj.cells #[Value.int IntKind.i64 lo, Value.int IntKind.i64 hi] 35)) := kept_alloc (kept_alloc (kept_refl _) _) _
  go_enter Tryd.func56, Tryd.ntmps56
  go_wp2_with fail
  generalize (w.alloc (Obj.cells #[k0, k1, ts, m, by', n0, n1, n2, n3, Value.int IntKind.i64 n4] 92)).alloc (Obj.cells #[Value.int IntKind.i64 lo, Value.int IntKind.i64 hi] 35) = W at *
  refine wp_region_quiet_below (by kernel_rfl) (by kernel_rfl) ?_
  repeat (any_goals (quiet_step (first | exact Calls.regrown_of (isBroken_any _ _ _ _ _ _ _ _ _ _ _ _))))
  trace_state
  refine wpQuiet_nil ?_
  intro _ hw'
  obtain ⟨⟨dq, osq⟩, hw''⟩ := hw'
  subst hw''
  have kW2 := kept_trans kW (below_regrown W dq osq)
  go_wp2_with fail
  go_ret
  exact ⟨rfl, kW2⟩
end Go.Proofs.YtbhgicggpkibeaaDoor
