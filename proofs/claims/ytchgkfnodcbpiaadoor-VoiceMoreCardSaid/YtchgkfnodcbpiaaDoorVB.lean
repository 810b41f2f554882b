/- A part of the proof: contracts of the program's functions for every input. No conditions. -/
import Derived.Test.YtchgkfnodcbpiaaDoorVA
set_option linter.all false
set_option linter.all false
namespace Go.Proofs.YtchgkfnodcbpiaaDoor
open Go.RowKit Go.Sort
set_option maxRecDepth 100000
attribute [local go_sem] idx0 idx1 idx2 idx3 idx4

theorem isSpan_eq (l h m : Int) {g : Bool} (w : World) (hg : (inB l 0 h && decide (h ≤ m)) = g) : Calls Tryd.prog 51 #[.agg #[.int .i64 l, .int .i64 h], .int .i64 m] w fun e w' => e = .returned (.bool g) ∧ Kept w w' := by
  subst hg; exact isSpan_any l h m w

def spanB (l h m a : Int) : Bool := (inB l 0 h && decide (h ≤ m)) && !decide (a < h - l)
def spanAt (l0 l1 h0 h1 g0 g1 t0 t1 ls b0 b1 : Int) : Nat → Bool
  | 0 => spanB l0 l1 40 2
  | 1 => spanB h0 h1 40 2
  | 2 => spanB g0 g1 2 1
  | 3 => spanB t0 t1 6 2
  | 4 => spanB b0 b1 9 3
  | _ => true

def ValidP (f : Nat → Bool) (g : Bool) (r : Bool) : Prop := r = true ↔ (∀ j, j < 5 → f j = true) ∧ g = true

set_option maxHeartbeats 6000000 in
theorem validBoy_any (l0 l1 h0 h1 g0 g1 t0 t1 ls b0 b1 : Int) (w : World) (hz : 1 < w.heap.size) (hG : w.cell? ⟨1, 0, none⟩ = some (.int .i64 40) ∧ w.cell? ⟨1, 1, none⟩ = some (.int .i64 2) ∧ w.cell? ⟨1, 2, none⟩ = some (.int .i64 40) ∧ w.cell? ⟨1, 3, none⟩ = some (.int .i64 2) ∧ w.cell? ⟨1, 4, none⟩ = some (.int .i64 2) ∧ w.cell? ⟨1, 5, none⟩ = some (.int .i64 1) ∧ w.cell? ⟨1, 6, none⟩ = some (.int .i64 6) ∧ w.cell? ⟨1, 7, none⟩ = some (.int .i64 2) ∧ w.cell? ⟨1, 8, none⟩ = some (.int .i64 9) ∧ w.cell? ⟨1, 9, none⟩ = some (.int .i64 3)) : Calls Tryd.prog 61 #[.agg #[.int .i64 l0, .int .i64 l1, .int .i64 h0, .int .i64 h1, .int .i64 g0, .int .i64 g1, .int .i64 t0, .int .i64 t1, .int .i64 ls, .int .i64 b0, .int .i64 b1]] w (ToldB (ValidP (spanAt l0 l1 h0 h1 g0 g1 t0 t1 ls b0 b1) (inB ls 0 2)) w) := by
  obtain ⟨G0, G1, G2, G3, G4, G5, G6, G7, G8, G9⟩ := hG
  have HG0 := Lib.hid G0; clear G0
  have HG1 := Lib.hid G1; clear G1
  have HG2 := Lib.hid G2; clear G2
  have HG3 := Lib.hid G3; clear G3
  have HG4 := Lib.hid G4; clear G4
  have HG5 := Lib.hid G5; clear G5
  have HG6 := Lib.hid G6; clear G6
  have HG7 := Lib.hid G7; clear G7
  have HG8 := Lib.hid G8; clear G8
  have HG9 := Lib.hid G9; clear G9
  have hk0 : Kept w (w.alloc (Obj.cells #[.int .i64 l0, .int .i64 l1, .int .i64 h0, .int .i64 h1, .int .i64 g0, .int .i64 g1, .int .i64 t0, .int .i64 t1, .int .i64 ls, .int .i64 b0, .int .i64 b1] 53)) := kept_alloc (kept_refl _) _
  go_enter Tryd.func61, Tryd.ntmps61
  go_wp2_with fail
  refine (known_any _ _ _ _ _ _ _ _ _ _ _ _).mono ?_
  rintro e w1 ⟨rfl, hk1'⟩
  have hk1 := kept_trans hk0 hk1'
  have hls : w1.cell? ⟨w.heap.size, 8, none⟩ = some (.int .i64 ls) := ((bcell hk1').1 _ _ (by simp)).trans (by go_simp)
  have hlz : w.heap.size < w1.heap.size := by have := (bcell hk1').2.2; simp at this; omega
  clear hk1'
  have HLS := Lib.hid hls; clear hls
  go_wp2_with fail
  go_loopw [7] (fun i W => ∃ k : Nat, k ≤ 5 ∧ i = .int .i64 k ∧ (∀ j, j < k → spanAt l0 l1 h0 h1 g0 g1 t0 t1 ls b0 b1 j = true) ∧ Kept w1 W) (fun i W => 5 - (intOf i).toNat)
  case atStart => exact ⟨0, by omega, rfl, fun j hj => by omega, kept_refl _⟩
  case round =>
    obtain ⟨k, hk, rfl, hno, hkW⟩ := hrel
    have HNO := Lib.hid hno; clear hno
    rcases (show k = 0 ∨ k = 1 ∨ k = 2 ∨ k = 3 ∨ k = 4 ∨ k = 5 by omega) with rfl | rfl | rfl | rfl | rfl | rfl

    · have kA : Kept wr (wr.alloc (Obj.cells #[Value.int IntKind.i64 l0, Value.int IntKind.i64 l1] 38)) := kept_alloc (kept_refl _) _
      have kA1 := kept_trans hkW kA
      have kA2 := kept_trans hk1 kA1
      have c0 : ∀ d os, (grow (redrawn (wr.alloc (Obj.cells #[Value.int IntKind.i64 l0, Value.int IntKind.i64 l1] 38)) d) os).cell? ⟨wr.heap.size, 0, none⟩ = some (.int .i64 l0) := cell_regrown (by go_simp)
      have c1 : ∀ d os, (grow (redrawn (wr.alloc (Obj.cells #[Value.int IntKind.i64 l0, Value.int IntKind.i64 l1] 38)) d) os).cell? ⟨wr.heap.size, 1, none⟩ = some (.int .i64 l1) := cell_regrown (by go_simp)
      have c2 : ∀ d os, (grow (redrawn (wr.alloc (Obj.cells #[Value.int IntKind.i64 l0, Value.int IntKind.i64 l1] 38)) d) os).cell? ⟨1, 0, none⟩ = some (.int .i64 40) := cell_regrown (((bcell kA2).1 1 _ (by omega)).trans HG0.out)
      have c3 : ∀ d os, (grow (redrawn (wr.alloc (Obj.cells #[Value.int IntKind.i64 l0, Value.int IntKind.i64 l1] 38)) d) os).cell? ⟨1, 1, none⟩ = some (.int .i64 2) := cell_regrown (((bcell kA2).1 1 _ (by omega)).trans HG1.out)
      rcases hs : (inB l0 0 l1 && decide (l1 ≤ 40)) with _ | _
      · have HS := Lib.hid hs; clear hs
        have HF : Hid (spanAt l0 l1 h0 h1 g0 g1 t0 t1 ls b0 b1 0 = false) := Lib.hid (by have := HS.out; simp only [spanAt, spanB, this, Bool.false_and])
        go_wp2_with fail
        generalize wr.alloc (Obj.cells #[Value.int IntKind.i64 l0, Value.int IntKind.i64 l1] 38) = W at *
        have hca : ∀ d os, Calls Tryd.prog 51 #[.agg #[.int .i64 l0, .int .i64 l1], .int .i64 40] (grow (redrawn W d) os) fun e w'' => e = .returned (.bool false) ∧ ∃ p : Regrown, w'' = grow (redrawn W p.d) p.os := fun d os => Calls.regrown_of (isSpan_eq l0 l1 40 _ HS.out)
        have HCA := Lib.hid hca; clear hca
        refine wp_region_quiet_below (by kernel_rfl) (by kernel_rfl) ?_
        repeat (any_goals (first | go_big_quiet_skip | quiet_step (first | exact HCA.out _ _)))
        refine wpQuiet_nil ?_
        intro _ hw'
        obtain ⟨⟨dq, osq⟩, hw''⟩ := hw'
        subst hw''
        have kW2 := kept_trans kA2 (below_regrown W dq osq)
        clear c0 c1 c2 c3
        go_wp2_with fail
        go_ret
        exact ⟨false, (show ValidP _ _ _ from ⟨(fun h => by cases h), (fun h => by have := h.1 0 (by omega); rw [HF.out] at this; cases this)⟩), rfl, kW2⟩
      · have hb2 : 0 ≤ l0 ∧ l0 ≤ l1 ∧ l1 ≤ 40 := by simpa [inB, and_assoc] using hs
        have HS := Lib.hid hs; clear hs
        have e1 : IntKind.i64.wrap (l1 - l0) = l1 - l0 := IntWalk.i64_in _ (by omega)
        rcases hq : decide (2 < l1 - l0) with _ | _
        · have HF : Hid (spanAt l0 l1 h0 h1 g0 g1 t0 t1 ls b0 b1 0 = true) := Lib.hid (by have h1 := HS.out; have h2 := hq; simp only [spanAt, spanB, h1, h2, Bool.true_and, Bool.not_false])
          go_wp2_with fail
          generalize wr.alloc (Obj.cells #[Value.int IntKind.i64 l0, Value.int IntKind.i64 l1] 38) = W at *
          have hca : ∀ d os, Calls Tryd.prog 51 #[.agg #[.int .i64 l0, .int .i64 l1], .int .i64 40] (grow (redrawn W d) os) fun e w'' => e = .returned (.bool true) ∧ ∃ p : Regrown, w'' = grow (redrawn W p.d) p.os := fun d os => Calls.regrown_of (isSpan_eq l0 l1 40 _ HS.out)
          have HCA := Lib.hid hca; clear hca
          refine wp_region_quiet_below (by kernel_rfl) (by kernel_rfl) ?_
          repeat (any_goals (first | go_big_quiet_skip | quiet_step (first | exact HCA.out _ _)))
          refine wpQuiet_nil ?_
          intro _ hw'
          obtain ⟨⟨dq, osq⟩, hw''⟩ := hw'
          subst hw''
          have kW2 := kept_trans kA1 (below_regrown W dq osq)
          clear c0 c1 c2 c3 e1 hq
          have HNEW : Hid (∀ j, j < 0 + 1 → spanAt l0 l1 h0 h1 g0 g1 t0 t1 ls b0 b1 j = true) := Lib.hid (by
            intro j hj
            by_cases e : j = 0
            · subst e; exact HF.out
            · exact HNO.out j (by omega))
          go_wp2_with fail
          go_roundw
          case rel => exact ⟨0 + 1, by omega, by go_num, HNEW.out, kW2⟩
          case measure => simp [intOf]
        · have HF : Hid (spanAt l0 l1 h0 h1 g0 g1 t0 t1 ls b0 b1 0 = false) := Lib.hid (by have h1 := HS.out; have h2 := hq; simp only [spanAt, spanB, h1, h2, Bool.true_and, Bool.not_true])
          go_wp2_with fail
          generalize wr.alloc (Obj.cells #[Value.int IntKind.i64 l0, Value.int IntKind.i64 l1] 38) = W at *
          have hca : ∀ d os, Calls Tryd.prog 51 #[.agg #[.int .i64 l0, .int .i64 l1], .int .i64 40] (grow (redrawn W d) os) fun e w'' => e = .returned (.bool true) ∧ ∃ p : Regrown, w'' = grow (redrawn W p.d) p.os := fun d os => Calls.regrown_of (isSpan_eq l0 l1 40 _ HS.out)
          have HCA := Lib.hid hca; clear hca
          refine wp_region_quiet_below (by kernel_rfl) (by kernel_rfl) ?_
          repeat (any_goals (first | go_big_quiet_skip | quiet_step (first | exact HCA.out _ _)))
          refine wpQuiet_nil ?_
          intro _ hw'
          obtain ⟨⟨dq, osq⟩, hw''⟩ := hw'
          subst hw''
          have kW2 := kept_trans kA2 (below_regrown W dq osq)
          clear c0 c1 c2 c3 e1 hq
          go_wp2_with fail
          go_ret
          exact ⟨false, (show ValidP _ _ _ from ⟨(fun h => by cases h), (fun h => by have := h.1 0 (by omega); rw [HF.out] at this; cases this)⟩), rfl, kW2⟩
    · have kA : Kept wr (wr.alloc (Obj.cells #[Value.int IntKind.i64 h0, Value.int IntKind.i64 h1] 38)) := kept_alloc (kept_refl _) _
      have kA1 := kept_trans hkW kA
      have kA2 := kept_trans hk1 kA1
      have c0 : ∀ d os, (grow (redrawn (wr.alloc (Obj.cells #[Value.int IntKind.i64 h0, Value.int IntKind.i64 h1] 38)) d) os).cell? ⟨wr.heap.size, 0, none⟩ = some (.int .i64 h0) := cell_regrown (by go_simp)
      have c1 : ∀ d os, (grow (redrawn (wr.alloc (Obj.cells #[Value.int IntKind.i64 h0, Value.int IntKind.i64 h1] 38)) d) os).cell? ⟨wr.heap.size, 1, none⟩ = some (.int .i64 h1) := cell_regrown (by go_simp)
      have c2 : ∀ d os, (grow (redrawn (wr.alloc (Obj.cells #[Value.int IntKind.i64 h0, Value.int IntKind.i64 h1] 38)) d) os).cell? ⟨1, 2, none⟩ = some (.int .i64 40) := cell_regrown (((bcell kA2).1 1 _ (by omega)).trans HG2.out)
      have c3 : ∀ d os, (grow (redrawn (wr.alloc (Obj.cells #[Value.int IntKind.i64 h0, Value.int IntKind.i64 h1] 38)) d) os).cell? ⟨1, 3, none⟩ = some (.int .i64 2) := cell_regrown (((bcell kA2).1 1 _ (by omega)).trans HG3.out)
      rcases hs : (inB h0 0 h1 && decide (h1 ≤ 40)) with _ | _
      · have HS := Lib.hid hs; clear hs
        have HF : Hid (spanAt l0 l1 h0 h1 g0 g1 t0 t1 ls b0 b1 1 = false) := Lib.hid (by have := HS.out; simp only [spanAt, spanB, this, Bool.false_and])
        go_wp2_with fail
        generalize wr.alloc (Obj.cells #[Value.int IntKind.i64 h0, Value.int IntKind.i64 h1] 38) = W at *
        have hca : ∀ d os, Calls Tryd.prog 51 #[.agg #[.int .i64 h0, .int .i64 h1], .int .i64 40] (grow (redrawn W d) os) fun e w'' => e = .returned (.bool false) ∧ ∃ p : Regrown, w'' = grow (redrawn W p.d) p.os := fun d os => Calls.regrown_of (isSpan_eq h0 h1 40 _ HS.out)
        have HCA := Lib.hid hca; clear hca
        refine wp_region_quiet_below (by kernel_rfl) (by kernel_rfl) ?_
        repeat (any_goals (first | go_big_quiet_skip | quiet_step (first | exact HCA.out _ _)))
        refine wpQuiet_nil ?_
        intro _ hw'
        obtain ⟨⟨dq, osq⟩, hw''⟩ := hw'
        subst hw''
        have kW2 := kept_trans kA2 (below_regrown W dq osq)
        clear c0 c1 c2 c3
        go_wp2_with fail
        go_ret
        exact ⟨false, (show ValidP _ _ _ from ⟨(fun h => by cases h), (fun h => by have := h.1 1 (by omega); rw [HF.out] at this; cases this)⟩), rfl, kW2⟩
      · have hb2 : 0 ≤ h0 ∧ h0 ≤ h1 ∧ h1 ≤ 40 := by simpa [inB, and_assoc] using hs
        have HS := Lib.hid hs; clear hs
        have e1 : IntKind.i64.wrap (h1 - h0) = h1 - h0 := IntWalk.i64_in _ (by omega)
        rcases hq : decide (2 < h1 - h0) with _ | _
        · have HF : Hid (spanAt l0 l1 h0 h1 g0 g1 t0 t1 ls b0 b1 1 = true) := Lib.hid (by have h1 := HS.out; have h2 := hq; simp only [spanAt, spanB, h1, h2, Bool.true_and, Bool.not_false])
          go_wp2_with fail
          generalize wr.alloc (Obj.cells #[Value.int IntKind.i64 h0, Value.int IntKind.i64 h1] 38) = W at *
          have hca : ∀ d os, Calls Tryd.prog 51 #[.agg #[.int .i64 h0, .int .i64 h1], .int .i64 40] (grow (redrawn W d) os) fun e w'' => e = .returned (.bool true) ∧ ∃ p : Regrown, w'' = grow (redrawn W p.d) p.os := fun d os => Calls.regrown_of (isSpan_eq h0 h1 40 _ HS.out)
          have HCA := Lib.hid hca; clear hca
          refine wp_region_quiet_below (by kernel_rfl) (by kernel_rfl) ?_
          repeat (any_goals (first | go_big_quiet_skip | quiet_step (first | exact HCA.out _ _)))
          refine wpQuiet_nil ?_
          intro _ hw'
          obtain ⟨⟨dq, osq⟩, hw''⟩ := hw'
          subst hw''
          have kW2 := kept_trans kA1 (below_regrown W dq osq)
          clear c0 c1 c2 c3 e1 hq
          have HNEW : Hid (∀ j, j < 1 + 1 → spanAt l0 l1 h0 h1 g0 g1 t0 t1 ls b0 b1 j = true) := Lib.hid (by
            intro j hj
            by_cases e : j = 1
            · subst e; exact HF.out
            · exact HNO.out j (by omega))
          go_wp2_with fail
          go_roundw
          case rel => exact ⟨1 + 1, by omega, by go_num, HNEW.out, kW2⟩
          case measure => simp [intOf]
        · have HF : Hid (spanAt l0 l1 h0 h1 g0 g1 t0 t1 ls b0 b1 1 = false) := Lib.hid (by have h1 := HS.out; have h2 := hq; simp only [spanAt, spanB, h1, h2, Bool.true_and, Bool.not_true])
          go_wp2_with fail
          generalize wr.alloc (Obj.cells #[Value.int IntKind.i64 h0, Value.int IntKind.i64 h1] 38) = W at *
          have hca : ∀ d os, Calls Tryd.prog 51 #[.agg #[.int .i64 h0, .int .i64 h1], .int .i64 40] (grow (redrawn W d) os) fun e w'' => e = .returned (.bool true) ∧ ∃ p : Regrown, w'' = grow (redrawn W p.d) p.os := fun d os => Calls.regrown_of (isSpan_eq h0 h1 40 _ HS.out)
          have HCA := Lib.hid hca; clear hca
          refine wp_region_quiet_below (by kernel_rfl) (by kernel_rfl) ?_
          repeat (any_goals (first | go_big_quiet_skip | quiet_step (first | exact HCA.out _ _)))
          refine wpQuiet_nil ?_
          intro _ hw'
          obtain ⟨⟨dq, osq⟩, hw''⟩ := hw'
          subst hw''
          have kW2 := kept_trans kA2 (below_regrown W dq osq)
          clear c0 c1 c2 c3 e1 hq
          go_wp2_with fail
          go_ret
          exact ⟨false, (show ValidP _ _ _ from ⟨(fun h => by cases h), (fun h => by have := h.1 1 (by omega); rw [HF.out] at this; cases this)⟩), rfl, kW2⟩
    · have kA : Kept wr (wr.alloc (Obj.cells #[Value.int IntKind.i64 g0, Value.int IntKind.i64 g1] 38)) := kept_alloc (kept_refl _) _
      have kA1 := kept_trans hkW kA
      have kA2 := kept_trans hk1 kA1
      have c0 : ∀ d os, (grow (redrawn (wr.alloc (Obj.cells #[Value.int IntKind.i64 g0, Value.int IntKind.i64 g1] 38)) d) os).cell? ⟨wr.heap.size, 0, none⟩ = some (.int .i64 g0) := cell_regrown (by go_simp)
      have c1 : ∀ d os, (grow (redrawn (wr.alloc (Obj.cells #[Value.int IntKind.i64 g0, Value.int IntKind.i64 g1] 38)) d) os).cell? ⟨wr.heap.size, 1, none⟩ = some (.int .i64 g1) := cell_regrown (by go_simp)
      have c2 : ∀ d os, (grow (redrawn (wr.alloc (Obj.cells #[Value.int IntKind.i64 g0, Value.int IntKind.i64 g1] 38)) d) os).cell? ⟨1, 4, none⟩ = some (.int .i64 2) := cell_regrown (((bcell kA2).1 1 _ (by omega)).trans HG4.out)
      have c3 : ∀ d os, (grow (redrawn (wr.alloc (Obj.cells #[Value.int IntKind.i64 g0, Value.int IntKind.i64 g1] 38)) d) os).cell? ⟨1, 5, none⟩ = some (.int .i64 1) := cell_regrown (((bcell kA2).1 1 _ (by omega)).trans HG5.out)
      rcases hs : (inB g0 0 g1 && decide (g1 ≤ 2)) with _ | _
      · have HS := Lib.hid hs; clear hs
        have HF : Hid (spanAt l0 l1 h0 h1 g0 g1 t0 t1 ls b0 b1 2 = false) := Lib.hid (by have := HS.out; simp only [spanAt, spanB, this, Bool.false_and])
        go_wp2_with fail
        generalize wr.alloc (Obj.cells #[Value.int IntKind.i64 g0, Value.int IntKind.i64 g1] 38) = W at *
        have hca : ∀ d os, Calls Tryd.prog 51 #[.agg #[.int .i64 g0, .int .i64 g1], .int .i64 2] (grow (redrawn W d) os) fun e w'' => e = .returned (.bool false) ∧ ∃ p : Regrown, w'' = grow (redrawn W p.d) p.os := fun d os => Calls.regrown_of (isSpan_eq g0 g1 2 _ HS.out)
        have HCA := Lib.hid hca; clear hca
        refine wp_region_quiet_below (by kernel_rfl) (by kernel_rfl) ?_
        repeat (any_goals (first | go_big_quiet_skip | quiet_step (first | exact HCA.out _ _)))
        refine wpQuiet_nil ?_
        intro _ hw'
        obtain ⟨⟨dq, osq⟩, hw''⟩ := hw'
        subst hw''
        have kW2 := kept_trans kA2 (below_regrown W dq osq)
        clear c0 c1 c2 c3
        go_wp2_with fail
        go_ret
        exact ⟨false, (show ValidP _ _ _ from ⟨(fun h => by cases h), (fun h => by have := h.1 2 (by omega); rw [HF.out] at this; cases this)⟩), rfl, kW2⟩
      · have hb2 : 0 ≤ g0 ∧ g0 ≤ g1 ∧ g1 ≤ 2 := by simpa [inB, and_assoc] using hs
        have HS := Lib.hid hs; clear hs
        have e1 : IntKind.i64.wrap (g1 - g0) = g1 - g0 := IntWalk.i64_in _ (by omega)
        rcases hq : decide (1 < g1 - g0) with _ | _
        · have HF : Hid (spanAt l0 l1 h0 h1 g0 g1 t0 t1 ls b0 b1 2 = true) := Lib.hid (by have h1 := HS.out; have h2 := hq; simp only [spanAt, spanB, h1, h2, Bool.true_and, Bool.not_false])
          go_wp2_with fail
          generalize wr.alloc (Obj.cells #[Value.int IntKind.i64 g0, Value.int IntKind.i64 g1] 38) = W at *
          have hca : ∀ d os, Calls Tryd.prog 51 #[.agg #[.int .i64 g0, .int .i64 g1], .int .i64 2] (grow (redrawn W d) os) fun e w'' => e = .returned (.bool true) ∧ ∃ p : Regrown, w'' = grow (redrawn W p.d) p.os := fun d os => Calls.regrown_of (isSpan_eq g0 g1 2 _ HS.out)
          have HCA := Lib.hid hca; clear hca
          refine wp_region_quiet_below (by kernel_rfl) (by kernel_rfl) ?_
          repeat (any_goals (first | go_big_quiet_skip | quiet_step (first | exact HCA.out _ _)))
          refine wpQuiet_nil ?_
          intro _ hw'
          obtain ⟨⟨dq, osq⟩, hw''⟩ := hw'
          subst hw''
          have kW2 := kept_trans kA1 (below_regrown W dq osq)
          clear c0 c1 c2 c3 e1 hq
          have HNEW : Hid (∀ j, j < 2 + 1 → spanAt l0 l1 h0 h1 g0 g1 t0 t1 ls b0 b1 j = true) := Lib.hid (by
            intro j hj
            by_cases e : j = 2
            · subst e; exact HF.out
            · exact HNO.out j (by omega))
          go_wp2_with fail
          go_roundw
          case rel => exact ⟨2 + 1, by omega, by go_num, HNEW.out, kW2⟩
          case measure => simp [intOf]
        · have HF : Hid (spanAt l0 l1 h0 h1 g0 g1 t0 t1 ls b0 b1 2 = false) := Lib.hid (by have h1 := HS.out; have h2 := hq; simp only [spanAt, spanB, h1, h2, Bool.true_and, Bool.not_true])
          go_wp2_with fail
          generalize wr.alloc (Obj.cells #[Value.int IntKind.i64 g0, Value.int IntKind.i64 g1] 38) = W at *
          have hca : ∀ d os, Calls Tryd.prog 51 #[.agg #[.int .i64 g0, .int .i64 g1], .int .i64 2] (grow (redrawn W d) os) fun e w'' => e = .returned (.bool true) ∧ ∃ p : Regrown, w'' = grow (redrawn W p.d) p.os := fun d os => Calls.regrown_of (isSpan_eq g0 g1 2 _ HS.out)
          have HCA := Lib.hid hca; clear hca
          refine wp_region_quiet_below (by kernel_rfl) (by kernel_rfl) ?_
          repeat (any_goals (first | go_big_quiet_skip | quiet_step (first | exact HCA.out _ _)))
          refine wpQuiet_nil ?_
          intro _ hw'
          obtain ⟨⟨dq, osq⟩, hw''⟩ := hw'
          subst hw''
          have kW2 := kept_trans kA2 (below_regrown W dq osq)
          clear c0 c1 c2 c3 e1 hq
          go_wp2_with fail
          go_ret
          exact ⟨false, (show ValidP _ _ _ from ⟨(fun h => by cases h), (fun h => by have := h.1 2 (by omega); rw [HF.out] at this; cases this)⟩), rfl, kW2⟩
    · have kA : Kept wr (wr.alloc (Obj.cells #[Value.int IntKind.i64 t0, Value.int IntKind.i64 t1] 38)) := kept_alloc (kept_refl _) _
      have kA1 := kept_trans hkW kA
      have kA2 := kept_trans hk1 kA1
      have c0 : ∀ d os, (grow (redrawn (wr.alloc (Obj.cells #[Value.int IntKind.i64 t0, Value.int IntKind.i64 t1] 38)) d) os).cell? ⟨wr.heap.size, 0, none⟩ = some (.int .i64 t0) := cell_regrown (by go_simp)
      have c1 : ∀ d os, (grow (redrawn (wr.alloc (Obj.cells #[Value.int IntKind.i64 t0, Value.int IntKind.i64 t1] 38)) d) os).cell? ⟨wr.heap.size, 1, none⟩ = some (.int .i64 t1) := cell_regrown (by go_simp)
      have c2 : ∀ d os, (grow (redrawn (wr.alloc (Obj.cells #[Value.int IntKind.i64 t0, Value.int IntKind.i64 t1] 38)) d) os).cell? ⟨1, 6, none⟩ = some (.int .i64 6) := cell_regrown (((bcell kA2).1 1 _ (by omega)).trans HG6.out)
      have c3 : ∀ d os, (grow (redrawn (wr.alloc (Obj.cells #[Value.int IntKind.i64 t0, Value.int IntKind.i64 t1] 38)) d) os).cell? ⟨1, 7, none⟩ = some (.int .i64 2) := cell_regrown (((bcell kA2).1 1 _ (by omega)).trans HG7.out)
      rcases hs : (inB t0 0 t1 && decide (t1 ≤ 6)) with _ | _
      · have HS := Lib.hid hs; clear hs
        have HF : Hid (spanAt l0 l1 h0 h1 g0 g1 t0 t1 ls b0 b1 3 = false) := Lib.hid (by have := HS.out; simp only [spanAt, spanB, this, Bool.false_and])
        go_wp2_with fail
        generalize wr.alloc (Obj.cells #[Value.int IntKind.i64 t0, Value.int IntKind.i64 t1] 38) = W at *
        have hca : ∀ d os, Calls Tryd.prog 51 #[.agg #[.int .i64 t0, .int .i64 t1], .int .i64 6] (grow (redrawn W d) os) fun e w'' => e = .returned (.bool false) ∧ ∃ p : Regrown, w'' = grow (redrawn W p.d) p.os := fun d os => Calls.regrown_of (isSpan_eq t0 t1 6 _ HS.out)
        have HCA := Lib.hid hca; clear hca
        refine wp_region_quiet_below (by kernel_rfl) (by kernel_rfl) ?_
        repeat (any_goals (first | go_big_quiet_skip | quiet_step (first | exact HCA.out _ _)))
        refine wpQuiet_nil ?_
        intro _ hw'
        obtain ⟨⟨dq, osq⟩, hw''⟩ := hw'
        subst hw''
        have kW2 := kept_trans kA2 (below_regrown W dq osq)
        clear c0 c1 c2 c3
        go_wp2_with fail
        go_ret
        exact ⟨false, (show ValidP _ _ _ from ⟨(fun h => by cases h), (fun h => by have := h.1 3 (by omega); rw [HF.out] at this; cases this)⟩), rfl, kW2⟩
      · have hb2 : 0 ≤ t0 ∧ t0 ≤ t1 ∧ t1 ≤ 6 := by simpa [inB, and_assoc] using hs
        have HS := Lib.hid hs; clear hs
        have e1 : IntKind.i64.wrap (t1 - t0) = t1 - t0 := IntWalk.i64_in _ (by omega)
        rcases hq : decide (2 < t1 - t0) with _ | _
        · have HF : Hid (spanAt l0 l1 h0 h1 g0 g1 t0 t1 ls b0 b1 3 = true) := Lib.hid (by have h1 := HS.out; have h2 := hq; simp only [spanAt, spanB, h1, h2, Bool.true_and, Bool.not_false])
          go_wp2_with fail
          generalize wr.alloc (Obj.cells #[Value.int IntKind.i64 t0, Value.int IntKind.i64 t1] 38) = W at *
          have hca : ∀ d os, Calls Tryd.prog 51 #[.agg #[.int .i64 t0, .int .i64 t1], .int .i64 6] (grow (redrawn W d) os) fun e w'' => e = .returned (.bool true) ∧ ∃ p : Regrown, w'' = grow (redrawn W p.d) p.os := fun d os => Calls.regrown_of (isSpan_eq t0 t1 6 _ HS.out)
          have HCA := Lib.hid hca; clear hca
          refine wp_region_quiet_below (by kernel_rfl) (by kernel_rfl) ?_
          repeat (any_goals (first | go_big_quiet_skip | quiet_step (first | exact HCA.out _ _)))
          refine wpQuiet_nil ?_
          intro _ hw'
          obtain ⟨⟨dq, osq⟩, hw''⟩ := hw'
          subst hw''
          have kW2 := kept_trans kA1 (below_regrown W dq osq)
          clear c0 c1 c2 c3 e1 hq
          have HNEW : Hid (∀ j, j < 3 + 1 → spanAt l0 l1 h0 h1 g0 g1 t0 t1 ls b0 b1 j = true) := Lib.hid (by
            intro j hj
            by_cases e : j = 3
            · subst e; exact HF.out
            · exact HNO.out j (by omega))
          go_wp2_with fail
          go_roundw
          case rel => exact ⟨3 + 1, by omega, by go_num, HNEW.out, kW2⟩
          case measure => simp [intOf]
        · have HF : Hid (spanAt l0 l1 h0 h1 g0 g1 t0 t1 ls b0 b1 3 = false) := Lib.hid (by have h1 := HS.out; have h2 := hq; simp only [spanAt, spanB, h1, h2, Bool.true_and, Bool.not_true])
          go_wp2_with fail
          generalize wr.alloc (Obj.cells #[Value.int IntKind.i64 t0, Value.int IntKind.i64 t1] 38) = W at *
          have hca : ∀ d os, Calls Tryd.prog 51 #[.agg #[.int .i64 t0, .int .i64 t1], .int .i64 6] (grow (redrawn W d) os) fun e w'' => e = .returned (.bool true) ∧ ∃ p : Regrown, w'' = grow (redrawn W p.d) p.os := fun d os => Calls.regrown_of (isSpan_eq t0 t1 6 _ HS.out)
          have HCA := Lib.hid hca; clear hca
          refine wp_region_quiet_below (by kernel_rfl) (by kernel_rfl) ?_
          repeat (any_goals (first | go_big_quiet_skip | quiet_step (first | exact HCA.out _ _)))
          refine wpQuiet_nil ?_
          intro _ hw'
          obtain ⟨⟨dq, osq⟩, hw''⟩ := hw'
          subst hw''
          have kW2 := kept_trans kA2 (below_regrown W dq osq)
          clear c0 c1 c2 c3 e1 hq
          go_wp2_with fail
          go_ret
          exact ⟨false, (show ValidP _ _ _ from ⟨(fun h => by cases h), (fun h => by have := h.1 3 (by omega); rw [HF.out] at this; cases this)⟩), rfl, kW2⟩
    · have kA : Kept wr (wr.alloc (Obj.cells #[Value.int IntKind.i64 b0, Value.int IntKind.i64 b1] 38)) := kept_alloc (kept_refl _) _
      have kA1 := kept_trans hkW kA
      have kA2 := kept_trans hk1 kA1
      have c0 : ∀ d os, (grow (redrawn (wr.alloc (Obj.cells #[Value.int IntKind.i64 b0, Value.int IntKind.i64 b1] 38)) d) os).cell? ⟨wr.heap.size, 0, none⟩ = some (.int .i64 b0) := cell_regrown (by go_simp)
      have c1 : ∀ d os, (grow (redrawn (wr.alloc (Obj.cells #[Value.int IntKind.i64 b0, Value.int IntKind.i64 b1] 38)) d) os).cell? ⟨wr.heap.size, 1, none⟩ = some (.int .i64 b1) := cell_regrown (by go_simp)
      have c2 : ∀ d os, (grow (redrawn (wr.alloc (Obj.cells #[Value.int IntKind.i64 b0, Value.int IntKind.i64 b1] 38)) d) os).cell? ⟨1, 8, none⟩ = some (.int .i64 9) := cell_regrown (((bcell kA2).1 1 _ (by omega)).trans HG8.out)
      have c3 : ∀ d os, (grow (redrawn (wr.alloc (Obj.cells #[Value.int IntKind.i64 b0, Value.int IntKind.i64 b1] 38)) d) os).cell? ⟨1, 9, none⟩ = some (.int .i64 3) := cell_regrown (((bcell kA2).1 1 _ (by omega)).trans HG9.out)
      rcases hs : (inB b0 0 b1 && decide (b1 ≤ 9)) with _ | _
      · have HS := Lib.hid hs; clear hs
        have HF : Hid (spanAt l0 l1 h0 h1 g0 g1 t0 t1 ls b0 b1 4 = false) := Lib.hid (by have := HS.out; simp only [spanAt, spanB, this, Bool.false_and])
        go_wp2_with fail
        generalize wr.alloc (Obj.cells #[Value.int IntKind.i64 b0, Value.int IntKind.i64 b1] 38) = W at *
        have hca : ∀ d os, Calls Tryd.prog 51 #[.agg #[.int .i64 b0, .int .i64 b1], .int .i64 9] (grow (redrawn W d) os) fun e w'' => e = .returned (.bool false) ∧ ∃ p : Regrown, w'' = grow (redrawn W p.d) p.os := fun d os => Calls.regrown_of (isSpan_eq b0 b1 9 _ HS.out)
        have HCA := Lib.hid hca; clear hca
        refine wp_region_quiet_below (by kernel_rfl) (by kernel_rfl) ?_
        repeat (any_goals (first | go_big_quiet_skip | quiet_step (first | exact HCA.out _ _)))
        refine wpQuiet_nil ?_
        intro _ hw'
        obtain ⟨⟨dq, osq⟩, hw''⟩ := hw'
        subst hw''
        have kW2 := kept_trans kA2 (below_regrown W dq osq)
        clear c0 c1 c2 c3
        go_wp2_with fail
        go_ret
        exact ⟨false, (show ValidP _ _ _ from ⟨(fun h => by cases h), (fun h => by have := h.1 4 (by omega); rw [HF.out] at this; cases this)⟩), rfl, kW2⟩
      · have hb2 : 0 ≤ b0 ∧ b0 ≤ b1 ∧ b1 ≤ 9 := by simpa [inB, and_assoc] using hs
        have HS := Lib.hid hs; clear hs
        have e1 : IntKind.i64.wrap (b1 - b0) = b1 - b0 := IntWalk.i64_in _ (by omega)
        rcases hq : decide (3 < b1 - b0) with _ | _
        · have HF : Hid (spanAt l0 l1 h0 h1 g0 g1 t0 t1 ls b0 b1 4 = true) := Lib.hid (by have h1 := HS.out; have h2 := hq; simp only [spanAt, spanB, h1, h2, Bool.true_and, Bool.not_false])
          go_wp2_with fail
          generalize wr.alloc (Obj.cells #[Value.int IntKind.i64 b0, Value.int IntKind.i64 b1] 38) = W at *
          have hca : ∀ d os, Calls Tryd.prog 51 #[.agg #[.int .i64 b0, .int .i64 b1], .int .i64 9] (grow (redrawn W d) os) fun e w'' => e = .returned (.bool true) ∧ ∃ p : Regrown, w'' = grow (redrawn W p.d) p.os := fun d os => Calls.regrown_of (isSpan_eq b0 b1 9 _ HS.out)
          have HCA := Lib.hid hca; clear hca
          refine wp_region_quiet_below (by kernel_rfl) (by kernel_rfl) ?_
          repeat (any_goals (first | go_big_quiet_skip | quiet_step (first | exact HCA.out _ _)))
          refine wpQuiet_nil ?_
          intro _ hw'
          obtain ⟨⟨dq, osq⟩, hw''⟩ := hw'
          subst hw''
          have kW2 := kept_trans kA1 (below_regrown W dq osq)
          clear c0 c1 c2 c3 e1 hq
          have HNEW : Hid (∀ j, j < 4 + 1 → spanAt l0 l1 h0 h1 g0 g1 t0 t1 ls b0 b1 j = true) := Lib.hid (by
            intro j hj
            by_cases e : j = 4
            · subst e; exact HF.out
            · exact HNO.out j (by omega))
          go_wp2_with fail
          go_roundw
          case rel => exact ⟨4 + 1, by omega, by go_num, HNEW.out, kW2⟩
          case measure => simp [intOf]
        · have HF : Hid (spanAt l0 l1 h0 h1 g0 g1 t0 t1 ls b0 b1 4 = false) := Lib.hid (by have h1 := HS.out; have h2 := hq; simp only [spanAt, spanB, h1, h2, Bool.true_and, Bool.not_true])
          go_wp2_with fail
          generalize wr.alloc (Obj.cells #[Value.int IntKind.i64 b0, Value.int IntKind.i64 b1] 38) = W at *
          have hca : ∀ d os, Calls Tryd.prog 51 #[.agg #[.int .i64 b0, .int .i64 b1], .int .i64 9] (grow (redrawn W d) os) fun e w'' => e = .returned (.bool true) ∧ ∃ p : Regrown, w'' = grow (redrawn W p.d) p.os := fun d os => Calls.regrown_of (isSpan_eq b0 b1 9 _ HS.out)
          have HCA := Lib.hid hca; clear hca
          refine wp_region_quiet_below (by kernel_rfl) (by kernel_rfl) ?_
          repeat (any_goals (first | go_big_quiet_skip | quiet_step (first | exact HCA.out _ _)))
          refine wpQuiet_nil ?_
          intro _ hw'
          obtain ⟨⟨dq, osq⟩, hw''⟩ := hw'
          subst hw''
          have kW2 := kept_trans kA2 (below_regrown W dq osq)
          clear c0 c1 c2 c3 e1 hq
          go_wp2_with fail
          go_ret
          exact ⟨false, (show ValidP _ _ _ from ⟨(fun h => by cases h), (fun h => by have := h.1 4 (by omega); rw [HF.out] at this; cases this)⟩), rfl, kW2⟩
    · have hls2 := ((bcell hkW).1 w.heap.size 8 hlz).trans HLS.out
      have kW2 := kept_trans hk1 hkW
      go_wp2_with fail
      refine (isIn_any _ _ _ _).mono ?_
      rintro e w4 ⟨rfl, rfl⟩
      go_wp2_with fail
      go_ret
      exact ⟨inB ls 0 2, (show ValidP _ _ _ from ⟨(fun h => ⟨HNO.out, h⟩), (fun h => h.2)⟩), rfl, kW2⟩
end Go.Proofs.YtchgkfnodcbpiaaDoor
