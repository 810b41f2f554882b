/- How high all pipes are at most; which lofts can be; a loft, opened. No conditions but what the book and the laid variables hold. -/
import Derived.Test.YthgfbokfaidklaaGreatDoorGG
import Derived.Test.YthgfbokfaidklaaGreatDoorGD
import Derived.Test.YthgfbokfaidklaaGreatDoorST
set_option linter.all false
set_option linter.all false
namespace Go.Proofs.YthgfbokfaidklaaGreatDoor
open Go.RowKit Go.Sort Go.Rg
set_option maxRecDepth 100000
set_option maxHeartbeats 4000000
attribute [local go_sem] Oper.semAt_some

/-- the bounds of a loft stay far from the ends of the integers -/
def LowF (f : Fm) : Prop := ∀ a b, -1000000000 ≤ f a b ∧ f a b ≤ 120
theorem loft_low {P : Nat} {X : OBook} (hok : X.okB = true) (hP : X.pipes = (P : Int)) (hP5 : P ≤ 5) : LowF (loftF P X) := fun a b => by
  have hf := fair_tuns hok hP (tuningsL P X).length
  have h1 := fw_low P (tunsF P X (tuningsL P X).length) 120 (by decide) (fun a b => (hf a b).1) (P + 1) a b
  have h5 := fwTo_le P (tunsF P X (tuningsL P X).length) (P + 1) a b
  have h6 := (hf a b).2
  have h7 : (7 : Int) ^ (P + 1) ≤ 117649 := by
    rcases (show P = 0 ∨ P = 1 ∨ P = 2 ∨ P = 3 ∨ P = 4 ∨ P = 5 by omega) with rfl | rfl | rfl | rfl | rfl | rfl <;> decide
  unfold loftF
  omega
theorem atLeast_any (X : OBook) (bm : Nat) (l : List OSlot) (f : Fm) (a b : Nat) (w : World) (h : BoundsAt w bm l f) (hf : LowF f) (ha : a < 6) (hb : b < 6) :
    Calls Tryz.prog 77 #[.agg #[.int .i64 X.pipes, .slice X.tp X.tunes.length X.tcap, .slice X.fp X.forks.length X.fcap, .slice X.p X.B.boys.length X.cap, .int .i64 X.B.weeks, .slice X.q X.B.trials.length X.capt, .map (some bm)], .agg #[.int .i64 (a : Int), .int .i64 (b : Int)]] w fun e w' => e = .returned (.int .i64 (-(f b a))) ∧ Kept w w' := by
  have hk0 : Kept w ((w.alloc (Obj.cells #[.int .i64 X.pipes, .slice X.tp X.tunes.length X.tcap, .slice X.fp X.forks.length X.fcap, .slice X.p X.B.boys.length X.cap, .int .i64 X.B.weeks, .slice X.q X.B.trials.length X.capt, .map (some bm)] 76)).alloc (Obj.cells #[.int .i64 (a : Int), .int .i64 (b : Int)] 106)) := kept_alloc (kept_alloc (kept_refl _) _) _
  have HAM := Lib.hid (fun V (hh : BoundsAt V bm l f) => atMost_any X bm l f b a V hh hb ha)
  have HTU := Lib.hid (fun V => turned_any (a : Int) (b : Int) V)
  have y0 : ((w.alloc (Obj.cells #[.int .i64 X.pipes, .slice X.tp X.tunes.length X.tcap, .slice X.fp X.forks.length X.fcap, .slice X.p X.B.boys.length X.cap, .int .i64 X.B.weeks, .slice X.q X.B.trials.length X.capt, .map (some bm)] 76)).alloc (Obj.cells #[.int .i64 (a : Int), .int .i64 (b : Int)] 106)).cell? ⟨w.heap.size + 1, 0, none⟩ = some (.int .i64 (a : Int)) := by go_simp
  have y1 : ((w.alloc (Obj.cells #[.int .i64 X.pipes, .slice X.tp X.tunes.length X.tcap, .slice X.fp X.forks.length X.fcap, .slice X.p X.B.boys.length X.cap, .int .i64 X.B.weeks, .slice X.q X.B.trials.length X.capt, .map (some bm)] 76)).alloc (Obj.cells #[.int .i64 (a : Int), .int .i64 (b : Int)] 106)).cell? ⟨w.heap.size + 1, 1, none⟩ = some (.int .i64 (b : Int)) := by go_simp
  have x0 : ((w.alloc (Obj.cells #[.int .i64 X.pipes, .slice X.tp X.tunes.length X.tcap, .slice X.fp X.forks.length X.fcap, .slice X.p X.B.boys.length X.cap, .int .i64 X.B.weeks, .slice X.q X.B.trials.length X.capt, .map (some bm)] 76)).alloc (Obj.cells #[.int .i64 (a : Int), .int .i64 (b : Int)] 106)).cell? ⟨w.heap.size, 0, none⟩ = some (.int .i64 X.pipes) := by go_simp
  have x1 : ((w.alloc (Obj.cells #[.int .i64 X.pipes, .slice X.tp X.tunes.length X.tcap, .slice X.fp X.forks.length X.fcap, .slice X.p X.B.boys.length X.cap, .int .i64 X.B.weeks, .slice X.q X.B.trials.length X.capt, .map (some bm)] 76)).alloc (Obj.cells #[.int .i64 (a : Int), .int .i64 (b : Int)] 106)).cell? ⟨w.heap.size, 1, none⟩ = some (.slice X.tp X.tunes.length X.tcap) := by go_simp
  have x2 : ((w.alloc (Obj.cells #[.int .i64 X.pipes, .slice X.tp X.tunes.length X.tcap, .slice X.fp X.forks.length X.fcap, .slice X.p X.B.boys.length X.cap, .int .i64 X.B.weeks, .slice X.q X.B.trials.length X.capt, .map (some bm)] 76)).alloc (Obj.cells #[.int .i64 (a : Int), .int .i64 (b : Int)] 106)).cell? ⟨w.heap.size, 2, none⟩ = some (.slice X.fp X.forks.length X.fcap) := by go_simp
  have x3 : ((w.alloc (Obj.cells #[.int .i64 X.pipes, .slice X.tp X.tunes.length X.tcap, .slice X.fp X.forks.length X.fcap, .slice X.p X.B.boys.length X.cap, .int .i64 X.B.weeks, .slice X.q X.B.trials.length X.capt, .map (some bm)] 76)).alloc (Obj.cells #[.int .i64 (a : Int), .int .i64 (b : Int)] 106)).cell? ⟨w.heap.size, 3, none⟩ = some (.slice X.p X.B.boys.length X.cap) := by go_simp
  have x4 : ((w.alloc (Obj.cells #[.int .i64 X.pipes, .slice X.tp X.tunes.length X.tcap, .slice X.fp X.forks.length X.fcap, .slice X.p X.B.boys.length X.cap, .int .i64 X.B.weeks, .slice X.q X.B.trials.length X.capt, .map (some bm)] 76)).alloc (Obj.cells #[.int .i64 (a : Int), .int .i64 (b : Int)] 106)).cell? ⟨w.heap.size, 4, none⟩ = some (.int .i64 X.B.weeks) := by go_simp
  have x5 : ((w.alloc (Obj.cells #[.int .i64 X.pipes, .slice X.tp X.tunes.length X.tcap, .slice X.fp X.forks.length X.fcap, .slice X.p X.B.boys.length X.cap, .int .i64 X.B.weeks, .slice X.q X.B.trials.length X.capt, .map (some bm)] 76)).alloc (Obj.cells #[.int .i64 (a : Int), .int .i64 (b : Int)] 106)).cell? ⟨w.heap.size, 5, none⟩ = some (.slice X.q X.B.trials.length X.capt) := by go_simp
  have x6 : ((w.alloc (Obj.cells #[.int .i64 X.pipes, .slice X.tp X.tunes.length X.tcap, .slice X.fp X.forks.length X.fcap, .slice X.p X.B.boys.length X.cap, .int .i64 X.B.weeks, .slice X.q X.B.trials.length X.capt, .map (some bm)] 76)).alloc (Obj.cells #[.int .i64 (a : Int), .int .i64 (b : Int)] 106)).cell? ⟨w.heap.size, 6, none⟩ = some (.map (some bm)) := by go_simp
  have hzx : w.heap.size < ((w.alloc (Obj.cells #[.int .i64 X.pipes, .slice X.tp X.tunes.length X.tcap, .slice X.fp X.forks.length X.fcap, .slice X.p X.B.boys.length X.cap, .int .i64 X.B.weeks, .slice X.q X.B.trials.length X.capt, .map (some bm)] 76)).alloc (Obj.cells #[.int .i64 (a : Int), .int .i64 (b : Int)] 106)).heap.size := by simp; omega
  have hzy : w.heap.size + 1 < ((w.alloc (Obj.cells #[.int .i64 X.pipes, .slice X.tp X.tunes.length X.tcap, .slice X.fp X.forks.length X.fcap, .slice X.p X.B.boys.length X.cap, .int .i64 X.B.weeks, .slice X.q X.B.trials.length X.capt, .map (some bm)] 76)).alloc (Obj.cells #[.int .i64 (a : Int), .int .i64 (b : Int)] 106)).heap.size := by simp
  have hw : IntKind.i64.wrap (-(f b a)) = -(f b a) := IntWalk.i64_in _ (by have := hf b a; omega)
  have H0 := Lib.hid (h.kept hk0)
  clear h hf ha hb
  go_enter Tryz.func77, Tryz.ntmps77
  go_wp2_with fail
  generalize ((w.alloc (Obj.cells #[.int .i64 X.pipes, .slice X.tp X.tunes.length X.tcap, .slice X.fp X.forks.length X.fcap, .slice X.p X.B.boys.length X.cap, .int .i64 X.B.weeks, .slice X.q X.B.trials.length X.capt, .map (some bm)] 76)).alloc (Obj.cells #[.int .i64 (a : Int), .int .i64 (b : Int)] 106)) = W0 at *
  have HTW := Lib.hid (fun d os => Calls.regrown_of (HTU.out (grow (redrawn W0 d) os)))
  have HAW := Lib.hid (fun d os => Calls.regrown_of (HAM.out (grow (redrawn W0 d) os) (H0.out.kept (below_regrown W0 d os))))
  have f0 := cell_regrown x0
  have f1 := cell_regrown x1
  have f2 := cell_regrown x2
  have f3 := cell_regrown x3
  have f4 := cell_regrown x4
  have f5 := cell_regrown x5
  have f6 := cell_regrown x6
  have g0 := cell_regrown y0
  have g1 := cell_regrown y1
  refine wp_region_quiet_below (by kernel_rfl) (by kernel_rfl) ?_
  repeat (any_goals (first | go_big_quiet_skip | quiet_step (first | with_reducible exact HTW.out _ _ | with_reducible exact HAW.out _ _)))
  refine wpQuiet_nil ?_
  intro _ hw'
  obtain ⟨⟨dq, osq⟩, hw''⟩ := hw'
  subst hw''
  have kQ := below_regrown W0 dq osq
  go_wp2_with fail
  go_ret
  exact ⟨rfl, kept_trans hk0 kQ⟩

theorem tab0 (a0 a1 : Value) (W : World) : (Instr.index 131 (.agg #[a0, a1]) (.int .i64 0)).run Tryz.prog W = .ok a0 W := by kernel_rfl
theorem tab1 (a0 a1 : Value) (W : World) : (Instr.index 131 (.agg #[a0, a1]) (.int .i64 1)).run Tryz.prog W = .ok a1 W := by kernel_rfl
attribute [local go_sem] tab0 tab1

theorem apart_any (X : OBook) (bm : Nat) (l : List OSlot) (f : Fm) (a b : Nat) (w : World) (h : BoundsAt w bm l f) (hf : LowF f) (ha : a < 6) (hb : b < 6) :
    Calls Tryz.prog 47 #[.agg #[.int .i64 X.pipes, .slice X.tp X.tunes.length X.tcap, .slice X.fp X.forks.length X.fcap, .slice X.p X.B.boys.length X.cap, .int .i64 X.B.weeks, .slice X.q X.B.trials.length X.capt, .map (some bm)], .agg #[.int .i64 (a : Int), .int .i64 (b : Int)]] w fun e w' => e = .returned (.agg #[.int .i64 (-(f b a)), .int .i64 (f a b)]) ∧ Kept w w' := by
  have HAM := Lib.hid (fun V (hh : BoundsAt V bm l f) => atMost_any X bm l f a b V hh ha hb)
  have HAL := Lib.hid (fun V (hh : BoundsAt V bm l f) => atLeast_any X bm l f a b V hh hf ha hb)
  clear hf ha hb
  go_enter Tryz.func47, Tryz.ntmps47
  go_wp2_with fail
  have hk0 : Kept w ((((((w.alloc (Obj.cells #[.int .i64 X.pipes, .slice X.tp X.tunes.length X.tcap, .slice X.fp X.forks.length X.fcap, .slice X.p X.B.boys.length X.cap, .int .i64 X.B.weeks, .slice X.q X.B.trials.length X.capt, .map (some bm)] 76)).alloc (Obj.cells #[.int .i64 (a : Int), .int .i64 (b : Int)] 106)).alloc (Obj.cells #[.int .i64 0, .int .i64 0] 35)).alloc (Obj.cells #[.func (.func 77) #[] #[], .func (.func 78) #[] #[]] 131)).alloc (Obj.cells #[.int .i64 0, .int .i64 0] 132))) := kept_alloc (kept_alloc (kept_alloc (kept_alloc (kept_alloc (kept_refl _) _) _) _) _) _
  have x0 : ((((((w.alloc (Obj.cells #[.int .i64 X.pipes, .slice X.tp X.tunes.length X.tcap, .slice X.fp X.forks.length X.fcap, .slice X.p X.B.boys.length X.cap, .int .i64 X.B.weeks, .slice X.q X.B.trials.length X.capt, .map (some bm)] 76)).alloc (Obj.cells #[.int .i64 (a : Int), .int .i64 (b : Int)] 106)).alloc (Obj.cells #[.int .i64 0, .int .i64 0] 35)).alloc (Obj.cells #[.func (.func 77) #[] #[], .func (.func 78) #[] #[]] 131)).alloc (Obj.cells #[.int .i64 0, .int .i64 0] 132))).cell? ⟨w.heap.size, 0, none⟩ = some (.int .i64 X.pipes) := by go_simp
  have x1 : ((((((w.alloc (Obj.cells #[.int .i64 X.pipes, .slice X.tp X.tunes.length X.tcap, .slice X.fp X.forks.length X.fcap, .slice X.p X.B.boys.length X.cap, .int .i64 X.B.weeks, .slice X.q X.B.trials.length X.capt, .map (some bm)] 76)).alloc (Obj.cells #[.int .i64 (a : Int), .int .i64 (b : Int)] 106)).alloc (Obj.cells #[.int .i64 0, .int .i64 0] 35)).alloc (Obj.cells #[.func (.func 77) #[] #[], .func (.func 78) #[] #[]] 131)).alloc (Obj.cells #[.int .i64 0, .int .i64 0] 132))).cell? ⟨w.heap.size, 1, none⟩ = some (.slice X.tp X.tunes.length X.tcap) := by go_simp
  have x2 : ((((((w.alloc (Obj.cells #[.int .i64 X.pipes, .slice X.tp X.tunes.length X.tcap, .slice X.fp X.forks.length X.fcap, .slice X.p X.B.boys.length X.cap, .int .i64 X.B.weeks, .slice X.q X.B.trials.length X.capt, .map (some bm)] 76)).alloc (Obj.cells #[.int .i64 (a : Int), .int .i64 (b : Int)] 106)).alloc (Obj.cells #[.int .i64 0, .int .i64 0] 35)).alloc (Obj.cells #[.func (.func 77) #[] #[], .func (.func 78) #[] #[]] 131)).alloc (Obj.cells #[.int .i64 0, .int .i64 0] 132))).cell? ⟨w.heap.size, 2, none⟩ = some (.slice X.fp X.forks.length X.fcap) := by go_simp
  have x3 : ((((((w.alloc (Obj.cells #[.int .i64 X.pipes, .slice X.tp X.tunes.length X.tcap, .slice X.fp X.forks.length X.fcap, .slice X.p X.B.boys.length X.cap, .int .i64 X.B.weeks, .slice X.q X.B.trials.length X.capt, .map (some bm)] 76)).alloc (Obj.cells #[.int .i64 (a : Int), .int .i64 (b : Int)] 106)).alloc (Obj.cells #[.int .i64 0, .int .i64 0] 35)).alloc (Obj.cells #[.func (.func 77) #[] #[], .func (.func 78) #[] #[]] 131)).alloc (Obj.cells #[.int .i64 0, .int .i64 0] 132))).cell? ⟨w.heap.size, 3, none⟩ = some (.slice X.p X.B.boys.length X.cap) := by go_simp
  have x4 : ((((((w.alloc (Obj.cells #[.int .i64 X.pipes, .slice X.tp X.tunes.length X.tcap, .slice X.fp X.forks.length X.fcap, .slice X.p X.B.boys.length X.cap, .int .i64 X.B.weeks, .slice X.q X.B.trials.length X.capt, .map (some bm)] 76)).alloc (Obj.cells #[.int .i64 (a : Int), .int .i64 (b : Int)] 106)).alloc (Obj.cells #[.int .i64 0, .int .i64 0] 35)).alloc (Obj.cells #[.func (.func 77) #[] #[], .func (.func 78) #[] #[]] 131)).alloc (Obj.cells #[.int .i64 0, .int .i64 0] 132))).cell? ⟨w.heap.size, 4, none⟩ = some (.int .i64 X.B.weeks) := by go_simp
  have x5 : ((((((w.alloc (Obj.cells #[.int .i64 X.pipes, .slice X.tp X.tunes.length X.tcap, .slice X.fp X.forks.length X.fcap, .slice X.p X.B.boys.length X.cap, .int .i64 X.B.weeks, .slice X.q X.B.trials.length X.capt, .map (some bm)] 76)).alloc (Obj.cells #[.int .i64 (a : Int), .int .i64 (b : Int)] 106)).alloc (Obj.cells #[.int .i64 0, .int .i64 0] 35)).alloc (Obj.cells #[.func (.func 77) #[] #[], .func (.func 78) #[] #[]] 131)).alloc (Obj.cells #[.int .i64 0, .int .i64 0] 132))).cell? ⟨w.heap.size, 5, none⟩ = some (.slice X.q X.B.trials.length X.capt) := by go_simp
  have x6 : ((((((w.alloc (Obj.cells #[.int .i64 X.pipes, .slice X.tp X.tunes.length X.tcap, .slice X.fp X.forks.length X.fcap, .slice X.p X.B.boys.length X.cap, .int .i64 X.B.weeks, .slice X.q X.B.trials.length X.capt, .map (some bm)] 76)).alloc (Obj.cells #[.int .i64 (a : Int), .int .i64 (b : Int)] 106)).alloc (Obj.cells #[.int .i64 0, .int .i64 0] 35)).alloc (Obj.cells #[.func (.func 77) #[] #[], .func (.func 78) #[] #[]] 131)).alloc (Obj.cells #[.int .i64 0, .int .i64 0] 132))).cell? ⟨w.heap.size, 6, none⟩ = some (.map (some bm)) := by go_simp
  have y0 : ((((((w.alloc (Obj.cells #[.int .i64 X.pipes, .slice X.tp X.tunes.length X.tcap, .slice X.fp X.forks.length X.fcap, .slice X.p X.B.boys.length X.cap, .int .i64 X.B.weeks, .slice X.q X.B.trials.length X.capt, .map (some bm)] 76)).alloc (Obj.cells #[.int .i64 (a : Int), .int .i64 (b : Int)] 106)).alloc (Obj.cells #[.int .i64 0, .int .i64 0] 35)).alloc (Obj.cells #[.func (.func 77) #[] #[], .func (.func 78) #[] #[]] 131)).alloc (Obj.cells #[.int .i64 0, .int .i64 0] 132))).cell? ⟨w.heap.size + 1, 0, none⟩ = some (.int .i64 (a : Int)) := by go_simp
  have y1 : ((((((w.alloc (Obj.cells #[.int .i64 X.pipes, .slice X.tp X.tunes.length X.tcap, .slice X.fp X.forks.length X.fcap, .slice X.p X.B.boys.length X.cap, .int .i64 X.B.weeks, .slice X.q X.B.trials.length X.capt, .map (some bm)] 76)).alloc (Obj.cells #[.int .i64 (a : Int), .int .i64 (b : Int)] 106)).alloc (Obj.cells #[.int .i64 0, .int .i64 0] 35)).alloc (Obj.cells #[.func (.func 77) #[] #[], .func (.func 78) #[] #[]] 131)).alloc (Obj.cells #[.int .i64 0, .int .i64 0] 132))).cell? ⟨w.heap.size + 1, 1, none⟩ = some (.int .i64 (b : Int)) := by go_simp
  have s0 : ((((((w.alloc (Obj.cells #[.int .i64 X.pipes, .slice X.tp X.tunes.length X.tcap, .slice X.fp X.forks.length X.fcap, .slice X.p X.B.boys.length X.cap, .int .i64 X.B.weeks, .slice X.q X.B.trials.length X.capt, .map (some bm)] 76)).alloc (Obj.cells #[.int .i64 (a : Int), .int .i64 (b : Int)] 106)).alloc (Obj.cells #[.int .i64 0, .int .i64 0] 35)).alloc (Obj.cells #[.func (.func 77) #[] #[], .func (.func 78) #[] #[]] 131)).alloc (Obj.cells #[.int .i64 0, .int .i64 0] 132))).cell? ⟨w.heap.size + 1 + 1, 0, none⟩ = some (.int .i64 0) := by go_simp
  have sf0 : ((((((w.alloc (Obj.cells #[.int .i64 X.pipes, .slice X.tp X.tunes.length X.tcap, .slice X.fp X.forks.length X.fcap, .slice X.p X.B.boys.length X.cap, .int .i64 X.B.weeks, .slice X.q X.B.trials.length X.capt, .map (some bm)] 76)).alloc (Obj.cells #[.int .i64 (a : Int), .int .i64 (b : Int)] 106)).alloc (Obj.cells #[.int .i64 0, .int .i64 0] 35)).alloc (Obj.cells #[.func (.func 77) #[] #[], .func (.func 78) #[] #[]] 131)).alloc (Obj.cells #[.int .i64 0, .int .i64 0] 132))).frozen? ⟨w.heap.size + 1 + 1, 0, none⟩ = false := by go_simp
  have q0 : ((((((w.alloc (Obj.cells #[.int .i64 X.pipes, .slice X.tp X.tunes.length X.tcap, .slice X.fp X.forks.length X.fcap, .slice X.p X.B.boys.length X.cap, .int .i64 X.B.weeks, .slice X.q X.B.trials.length X.capt, .map (some bm)] 76)).alloc (Obj.cells #[.int .i64 (a : Int), .int .i64 (b : Int)] 106)).alloc (Obj.cells #[.int .i64 0, .int .i64 0] 35)).alloc (Obj.cells #[.func (.func 77) #[] #[], .func (.func 78) #[] #[]] 131)).alloc (Obj.cells #[.int .i64 0, .int .i64 0] 132))).cell? ⟨w.heap.size + 1 + 1 + 1 + 1, 0, none⟩ = some (.int .i64 0) := by go_simp
  have qf0 : ((((((w.alloc (Obj.cells #[.int .i64 X.pipes, .slice X.tp X.tunes.length X.tcap, .slice X.fp X.forks.length X.fcap, .slice X.p X.B.boys.length X.cap, .int .i64 X.B.weeks, .slice X.q X.B.trials.length X.capt, .map (some bm)] 76)).alloc (Obj.cells #[.int .i64 (a : Int), .int .i64 (b : Int)] 106)).alloc (Obj.cells #[.int .i64 0, .int .i64 0] 35)).alloc (Obj.cells #[.func (.func 77) #[] #[], .func (.func 78) #[] #[]] 131)).alloc (Obj.cells #[.int .i64 0, .int .i64 0] 132))).frozen? ⟨w.heap.size + 1 + 1 + 1 + 1, 0, none⟩ = false := by go_simp
  have s1 : ((((((w.alloc (Obj.cells #[.int .i64 X.pipes, .slice X.tp X.tunes.length X.tcap, .slice X.fp X.forks.length X.fcap, .slice X.p X.B.boys.length X.cap, .int .i64 X.B.weeks, .slice X.q X.B.trials.length X.capt, .map (some bm)] 76)).alloc (Obj.cells #[.int .i64 (a : Int), .int .i64 (b : Int)] 106)).alloc (Obj.cells #[.int .i64 0, .int .i64 0] 35)).alloc (Obj.cells #[.func (.func 77) #[] #[], .func (.func 78) #[] #[]] 131)).alloc (Obj.cells #[.int .i64 0, .int .i64 0] 132))).cell? ⟨w.heap.size + 1 + 1, 1, none⟩ = some (.int .i64 0) := by go_simp
  have sf1 : ((((((w.alloc (Obj.cells #[.int .i64 X.pipes, .slice X.tp X.tunes.length X.tcap, .slice X.fp X.forks.length X.fcap, .slice X.p X.B.boys.length X.cap, .int .i64 X.B.weeks, .slice X.q X.B.trials.length X.capt, .map (some bm)] 76)).alloc (Obj.cells #[.int .i64 (a : Int), .int .i64 (b : Int)] 106)).alloc (Obj.cells #[.int .i64 0, .int .i64 0] 35)).alloc (Obj.cells #[.func (.func 77) #[] #[], .func (.func 78) #[] #[]] 131)).alloc (Obj.cells #[.int .i64 0, .int .i64 0] 132))).frozen? ⟨w.heap.size + 1 + 1, 1, none⟩ = false := by go_simp
  have q1 : ((((((w.alloc (Obj.cells #[.int .i64 X.pipes, .slice X.tp X.tunes.length X.tcap, .slice X.fp X.forks.length X.fcap, .slice X.p X.B.boys.length X.cap, .int .i64 X.B.weeks, .slice X.q X.B.trials.length X.capt, .map (some bm)] 76)).alloc (Obj.cells #[.int .i64 (a : Int), .int .i64 (b : Int)] 106)).alloc (Obj.cells #[.int .i64 0, .int .i64 0] 35)).alloc (Obj.cells #[.func (.func 77) #[] #[], .func (.func 78) #[] #[]] 131)).alloc (Obj.cells #[.int .i64 0, .int .i64 0] 132))).cell? ⟨w.heap.size + 1 + 1 + 1 + 1, 1, none⟩ = some (.int .i64 0) := by go_simp
  have qf1 : ((((((w.alloc (Obj.cells #[.int .i64 X.pipes, .slice X.tp X.tunes.length X.tcap, .slice X.fp X.forks.length X.fcap, .slice X.p X.B.boys.length X.cap, .int .i64 X.B.weeks, .slice X.q X.B.trials.length X.capt, .map (some bm)] 76)).alloc (Obj.cells #[.int .i64 (a : Int), .int .i64 (b : Int)] 106)).alloc (Obj.cells #[.int .i64 0, .int .i64 0] 35)).alloc (Obj.cells #[.func (.func 77) #[] #[], .func (.func 78) #[] #[]] 131)).alloc (Obj.cells #[.int .i64 0, .int .i64 0] 132))).frozen? ⟨w.heap.size + 1 + 1 + 1 + 1, 1, none⟩ = false := by go_simp
  have hbm := h.lt
  have hord : w.heap.size < w.heap.size + 1 ∧ w.heap.size + 1 < w.heap.size + 1 + 1 ∧ w.heap.size + 1 + 1 < w.heap.size + 1 + 1 + 1 + 1 := ⟨by omega, by omega, by omega⟩
  have H0 := Lib.hid (h.kept hk0)
  clear h
  generalize ((((((w.alloc (Obj.cells #[.int .i64 X.pipes, .slice X.tp X.tunes.length X.tcap, .slice X.fp X.forks.length X.fcap, .slice X.p X.B.boys.length X.cap, .int .i64 X.B.weeks, .slice X.q X.B.trials.length X.capt, .map (some bm)] 76)).alloc (Obj.cells #[.int .i64 (a : Int), .int .i64 (b : Int)] 106)).alloc (Obj.cells #[.int .i64 0, .int .i64 0] 35)).alloc (Obj.cells #[.func (.func 77) #[] #[], .func (.func 78) #[] #[]] 131)).alloc (Obj.cells #[.int .i64 0, .int .i64 0] 132))) = W1 at *
  generalize w.heap.size + 1 + 1 + 1 + 1 = ab at *
  generalize w.heap.size + 1 + 1 = sb at *
  generalize w.heap.size + 1 = tb at *
  go_loopw [11] (fun i W => ∃ k : Nat, k ≤ 2 ∧ i = .int .i64 k ∧ Turns (fun c => c = ab) W1 W ∧ W.cell? ⟨ab, 0, none⟩ = some (.int .i64 (if 1 ≤ k then -(f b a) else 0)) ∧ W.cell? ⟨ab, 1, none⟩ = some (.int .i64 (if 2 ≤ k then f a b else 0)) ∧ W.frozen? ⟨ab, 0, none⟩ = false ∧ W.frozen? ⟨ab, 1, none⟩ = false) (fun i W => 2 - (intOf i).toNat)
  case atStart => exact ⟨0, by omega, rfl, Turns.refl _ _, by simpa using q0, by simpa using q1, qf0, qf1⟩
  case round =>
    obtain ⟨k, hk, rfl, hT, c0, c1, cf0, cf1⟩ := hrel
    have HT := Lib.hid hT; clear hT
    have HB := Lib.hid (H0.out.of_block (HT.out.block bm (by have := H0.out.lt; omega) (by omega)))
    have e0 := tcell HT.out (by omega) x0
    have e1 := tcell HT.out (by omega) x1
    have e2 := tcell HT.out (by omega) x2
    have e3 := tcell HT.out (by omega) x3
    have e4 := tcell HT.out (by omega) x4
    have e5 := tcell HT.out (by omega) x5
    have e6 := tcell HT.out (by omega) x6
    have g0 := tcell HT.out (by omega) y0
    have g1 := tcell HT.out (by omega) y1
    have hzx := Go.Ai.lt_of_cell e0
    have hzy := Go.Ai.lt_of_cell g0
    have hza := Go.Ai.lt_of_cell c0
    rcases (show k = 0 ∨ k = 1 ∨ k = 2 by omega) with rfl | rfl | rfl
    · simp only [show ¬ (1 ≤ 0) by omega, show ¬ (2 ≤ 0) by omega, if_false] at c0 c1
      go_wp2_with fail
      with_reducible refine (HAL.out _ HB.out).mono ?_
      rintro e w' ⟨rfl, hk1⟩
      have hT1 := HT.out.trans (Ext.refl _ _) (kturns hk1 (fun c => c = ab))
      replace c0 := kcell hk1 c0
      replace c1 := kcell hk1 c1
      replace cf0 := ((kturns hk1 (fun _ => False)).frozen hza (fun h => h)).trans cf0
      replace cf1 := ((kturns hk1 (fun _ => False)).frozen hza (fun h => h)).trans cf1
      have HN := Lib.hid (show Turns (fun c => c = ab) W1 (w'.setCell ⟨ab, 0, none⟩ (.int .i64 (-(f b a)))) ∧ (w'.setCell ⟨ab, 0, none⟩ (.int .i64 (-(f b a)))).cell? ⟨ab, 0, none⟩ = some (.int .i64 (-(f b a))) ∧ (w'.setCell ⟨ab, 0, none⟩ (.int .i64 (-(f b a)))).cell? ⟨ab, 1, none⟩ = some (.int .i64 0) ∧ (w'.setCell ⟨ab, 0, none⟩ (.int .i64 (-(f b a)))).frozen? ⟨ab, 0, none⟩ = false ∧ (w'.setCell ⟨ab, 0, none⟩ (.int .i64 (-(f b a)))).frozen? ⟨ab, 1, none⟩ = false from
        ⟨hT1.trans (Ext.refl _ _) ((Turns.refl (fun c => c = ab) w').setCell rfl _ _), cell_set_eq c0, (cell_set_ne (by omega)).trans c1, (World.frozen?_setCell _ _ _ _).trans cf0, (World.frozen?_setCell _ _ _ _).trans cf1⟩)
      go_wp2_with fail
      generalize w'.setCell ⟨ab, 0, none⟩ (.int .i64 (-(f b a))) = WN at *
      go_roundw
      case rel => exact ⟨1, by omega, by go_num, HN.out.1, by simpa using HN.out.2.1, by simpa using HN.out.2.2.1, HN.out.2.2.2.1, HN.out.2.2.2.2⟩
      case measure => simp [intOf]
    · simp only [show (1 ≤ 1) by omega, show ¬ (2 ≤ 1) by omega, if_false, if_true] at c0 c1
      go_wp2_with fail
      with_reducible refine (HAM.out _ HB.out).mono ?_
      rintro e w' ⟨rfl, hk1⟩
      have hT1 := HT.out.trans (Ext.refl _ _) (kturns hk1 (fun c => c = ab))
      replace c0 := kcell hk1 c0
      replace c1 := kcell hk1 c1
      replace cf0 := ((kturns hk1 (fun _ => False)).frozen hza (fun h => h)).trans cf0
      replace cf1 := ((kturns hk1 (fun _ => False)).frozen hza (fun h => h)).trans cf1
      have HN := Lib.hid (show Turns (fun c => c = ab) W1 (w'.setCell ⟨ab, 1, none⟩ (.int .i64 (f a b))) ∧ (w'.setCell ⟨ab, 1, none⟩ (.int .i64 (f a b))).cell? ⟨ab, 0, none⟩ = some (.int .i64 (-(f b a))) ∧ (w'.setCell ⟨ab, 1, none⟩ (.int .i64 (f a b))).cell? ⟨ab, 1, none⟩ = some (.int .i64 (f a b)) ∧ (w'.setCell ⟨ab, 1, none⟩ (.int .i64 (f a b))).frozen? ⟨ab, 0, none⟩ = false ∧ (w'.setCell ⟨ab, 1, none⟩ (.int .i64 (f a b))).frozen? ⟨ab, 1, none⟩ = false from
        ⟨hT1.trans (Ext.refl _ _) ((Turns.refl (fun c => c = ab) w').setCell rfl _ _), (cell_set_ne (by omega)).trans c0, cell_set_eq c1, (World.frozen?_setCell _ _ _ _).trans cf0, (World.frozen?_setCell _ _ _ _).trans cf1⟩)
      go_wp2_with fail
      generalize w'.setCell ⟨ab, 1, none⟩ (.int .i64 (f a b)) = WN at *
      go_roundw
      case rel => exact ⟨2, by omega, by go_num, HN.out.1, by simpa using HN.out.2.1, by simpa using HN.out.2.2.1, HN.out.2.2.2.1, HN.out.2.2.2.2⟩
      case measure => simp [intOf]
    · simp only [show (1 ≤ 2) by omega, show (2 ≤ 2) by omega, if_true] at c0 c1
      have u0 := tcell HT.out (by omega) s0
      have u1 := tcell HT.out (by omega) s1
      have uf0 := (HT.out.frozen (Go.Ai.lt_of_cell s0) (by omega)).trans sf0
      have uf1 := (HT.out.frozen (Go.Ai.lt_of_cell s1) (by omega)).trans sf1
      have hzs := Go.Ai.lt_of_cell u0
      have hTS : Turns (fun c => c = sb) wr ((wr.setCell ⟨sb, 0, none⟩ (.int .i64 (-(f b a)))).setCell ⟨sb, 1, none⟩ (.int .i64 (f a b))) := ((Turns.refl (fun c => c = sb) wr).setCell rfl _ _).setCell rfl _ _
      have v0 : ((wr.setCell ⟨sb, 0, none⟩ (.int .i64 (-(f b a)))).setCell ⟨sb, 1, none⟩ (.int .i64 (f a b))).cell? ⟨sb, 0, none⟩ = some (.int .i64 (-(f b a))) := by go_simp
      have v1 : ((wr.setCell ⟨sb, 0, none⟩ (.int .i64 (-(f b a)))).setCell ⟨sb, 1, none⟩ (.int .i64 (f a b))).cell? ⟨sb, 1, none⟩ = some (.int .i64 (f a b)) := by go_simp
      have hkE : Kept w wr := Below.trans hk0 (HT.out.toBelow (n := w.heap.size) (by rintro b rfl; omega) hk0.size)
      go_wp2_with fail
      generalize ((wr.setCell ⟨sb, 0, none⟩ (.int .i64 (-(f b a)))).setCell ⟨sb, 1, none⟩ (.int .i64 (f a b))) = WN at *
      refine bodyPost_ret (v := .agg #[.int .i64 (-(f b a)), .int .i64 (f a b)]) (by simp [results, Tryz.results47, go_sem, v0, v1]) rfl ⟨rfl, ?_⟩
      exact Below.trans hkE (hTS.toBelow (n := w.heap.size) (by rintro b rfl; omega) hkE.size)

theorem pitch_any (X : OBook) (P bm : Nat) (l : List OSlot) (f : Fm) (a : Nat) (w : World) (h : BoundsAt w bm l f) (hf : LowF f) (hP : X.pipes = (P : Int)) (hP5 : P ≤ 5) (ha : a < 6) :
    Calls Tryz.prog 48 #[.agg #[.int .i64 X.pipes, .slice X.tp X.tunes.length X.tcap, .slice X.fp X.forks.length X.fcap, .slice X.p X.B.boys.length X.cap, .int .i64 X.B.weeks, .slice X.q X.B.trials.length X.capt, .map (some bm)], .int .i64 (a : Int)] w fun e w' => e = .returned (.agg #[.int .i64 (-(f a P)), .int .i64 (f P a)]) ∧ Kept w w' := by
  have hk0 : Kept w ((w.alloc (Obj.cells #[.int .i64 X.pipes, .slice X.tp X.tunes.length X.tcap, .slice X.fp X.forks.length X.fcap, .slice X.p X.B.boys.length X.cap, .int .i64 X.B.weeks, .slice X.q X.B.trials.length X.capt, .map (some bm)] 76)).alloc (Obj.cells #[.int .i64 0, .int .i64 0] 35)) := kept_alloc (kept_alloc (kept_refl _) _) _
  have HAP := Lib.hid (fun V (hh : BoundsAt V bm l f) => by
    have := apart_any X bm l f P a V hh hf (by omega) ha
    rw [← hP] at this
    exact this)
  have HTO := Lib.hid (fun c1 c2 c3 c4 c5 c6 V => town_gen X.pipes c1 c2 c3 c4 c5 c6 V)
  have x0 : ((w.alloc (Obj.cells #[.int .i64 X.pipes, .slice X.tp X.tunes.length X.tcap, .slice X.fp X.forks.length X.fcap, .slice X.p X.B.boys.length X.cap, .int .i64 X.B.weeks, .slice X.q X.B.trials.length X.capt, .map (some bm)] 76)).alloc (Obj.cells #[.int .i64 0, .int .i64 0] 35)).cell? ⟨w.heap.size, 0, none⟩ = some (.int .i64 X.pipes) := by go_simp
  have x1 : ((w.alloc (Obj.cells #[.int .i64 X.pipes, .slice X.tp X.tunes.length X.tcap, .slice X.fp X.forks.length X.fcap, .slice X.p X.B.boys.length X.cap, .int .i64 X.B.weeks, .slice X.q X.B.trials.length X.capt, .map (some bm)] 76)).alloc (Obj.cells #[.int .i64 0, .int .i64 0] 35)).cell? ⟨w.heap.size, 1, none⟩ = some (.slice X.tp X.tunes.length X.tcap) := by go_simp
  have x2 : ((w.alloc (Obj.cells #[.int .i64 X.pipes, .slice X.tp X.tunes.length X.tcap, .slice X.fp X.forks.length X.fcap, .slice X.p X.B.boys.length X.cap, .int .i64 X.B.weeks, .slice X.q X.B.trials.length X.capt, .map (some bm)] 76)).alloc (Obj.cells #[.int .i64 0, .int .i64 0] 35)).cell? ⟨w.heap.size, 2, none⟩ = some (.slice X.fp X.forks.length X.fcap) := by go_simp
  have x3 : ((w.alloc (Obj.cells #[.int .i64 X.pipes, .slice X.tp X.tunes.length X.tcap, .slice X.fp X.forks.length X.fcap, .slice X.p X.B.boys.length X.cap, .int .i64 X.B.weeks, .slice X.q X.B.trials.length X.capt, .map (some bm)] 76)).alloc (Obj.cells #[.int .i64 0, .int .i64 0] 35)).cell? ⟨w.heap.size, 3, none⟩ = some (.slice X.p X.B.boys.length X.cap) := by go_simp
  have x4 : ((w.alloc (Obj.cells #[.int .i64 X.pipes, .slice X.tp X.tunes.length X.tcap, .slice X.fp X.forks.length X.fcap, .slice X.p X.B.boys.length X.cap, .int .i64 X.B.weeks, .slice X.q X.B.trials.length X.capt, .map (some bm)] 76)).alloc (Obj.cells #[.int .i64 0, .int .i64 0] 35)).cell? ⟨w.heap.size, 4, none⟩ = some (.int .i64 X.B.weeks) := by go_simp
  have x5 : ((w.alloc (Obj.cells #[.int .i64 X.pipes, .slice X.tp X.tunes.length X.tcap, .slice X.fp X.forks.length X.fcap, .slice X.p X.B.boys.length X.cap, .int .i64 X.B.weeks, .slice X.q X.B.trials.length X.capt, .map (some bm)] 76)).alloc (Obj.cells #[.int .i64 0, .int .i64 0] 35)).cell? ⟨w.heap.size, 5, none⟩ = some (.slice X.q X.B.trials.length X.capt) := by go_simp
  have x6 : ((w.alloc (Obj.cells #[.int .i64 X.pipes, .slice X.tp X.tunes.length X.tcap, .slice X.fp X.forks.length X.fcap, .slice X.p X.B.boys.length X.cap, .int .i64 X.B.weeks, .slice X.q X.B.trials.length X.capt, .map (some bm)] 76)).alloc (Obj.cells #[.int .i64 0, .int .i64 0] 35)).cell? ⟨w.heap.size, 6, none⟩ = some (.map (some bm)) := by go_simp
  have s0 : ((w.alloc (Obj.cells #[.int .i64 X.pipes, .slice X.tp X.tunes.length X.tcap, .slice X.fp X.forks.length X.fcap, .slice X.p X.B.boys.length X.cap, .int .i64 X.B.weeks, .slice X.q X.B.trials.length X.capt, .map (some bm)] 76)).alloc (Obj.cells #[.int .i64 0, .int .i64 0] 35)).cell? ⟨w.heap.size + 1, 0, none⟩ = some (.int .i64 0) := by go_simp
  have sf0 : ((w.alloc (Obj.cells #[.int .i64 X.pipes, .slice X.tp X.tunes.length X.tcap, .slice X.fp X.forks.length X.fcap, .slice X.p X.B.boys.length X.cap, .int .i64 X.B.weeks, .slice X.q X.B.trials.length X.capt, .map (some bm)] 76)).alloc (Obj.cells #[.int .i64 0, .int .i64 0] 35)).frozen? ⟨w.heap.size + 1, 0, none⟩ = false := by go_simp
  have s1 : ((w.alloc (Obj.cells #[.int .i64 X.pipes, .slice X.tp X.tunes.length X.tcap, .slice X.fp X.forks.length X.fcap, .slice X.p X.B.boys.length X.cap, .int .i64 X.B.weeks, .slice X.q X.B.trials.length X.capt, .map (some bm)] 76)).alloc (Obj.cells #[.int .i64 0, .int .i64 0] 35)).cell? ⟨w.heap.size + 1, 1, none⟩ = some (.int .i64 0) := by go_simp
  have sf1 : ((w.alloc (Obj.cells #[.int .i64 X.pipes, .slice X.tp X.tunes.length X.tcap, .slice X.fp X.forks.length X.fcap, .slice X.p X.B.boys.length X.cap, .int .i64 X.B.weeks, .slice X.q X.B.trials.length X.capt, .map (some bm)] 76)).alloc (Obj.cells #[.int .i64 0, .int .i64 0] 35)).frozen? ⟨w.heap.size + 1, 1, none⟩ = false := by go_simp
  have H0 := Lib.hid (h.kept hk0)
  have hbm := h.lt
  clear h hf ha
  clear hP
  go_enter Tryz.func48, Tryz.ntmps48
  go_wp2_with fail
  generalize ((w.alloc (Obj.cells #[.int .i64 X.pipes, .slice X.tp X.tunes.length X.tcap, .slice X.fp X.forks.length X.fcap, .slice X.p X.B.boys.length X.cap, .int .i64 X.B.weeks, .slice X.q X.B.trials.length X.capt, .map (some bm)] 76)).alloc (Obj.cells #[.int .i64 0, .int .i64 0] 35)) = W0 at *
  generalize hsb : w.heap.size + 1 = sb at *
  have hzx := Go.Ai.lt_of_cell x0
  have hzs := Go.Ai.lt_of_cell s0
  refine (wpIn_wide (n := 0)).1 (wpIn_region_invL (StG (EndO 6 (fun U => ∃ V', Kept W0 V' ∧ U = (V'.setCell ⟨sb, 0, none⟩ (.int .i64 (-(f a P)))).setCell ⟨sb, 1, none⟩ (.int .i64 (f P a))) W0 (fun j : Nat => match j with | 0 => .agg #[.int .i64 X.pipes, .slice X.tp X.tunes.length X.tcap, .slice X.fp X.forks.length X.fcap, .slice X.p X.B.boys.length X.cap, .int .i64 X.B.weeks, .slice X.q X.B.trials.length X.capt, .map (some bm)] | 1 => .agg #[.int .i64 X.pipes, .slice X.tp X.tunes.length X.tcap, .slice X.fp X.forks.length X.fcap, .slice X.p X.B.boys.length X.cap, .int .i64 X.B.weeks, .slice X.q X.B.trials.length X.capt, .map (some bm)] | 2 => .int .i64 X.pipes | 3 => .int .i64 (a : Int) | 4 => .agg #[.int .i64 X.pipes, .int .i64 (a : Int)] | 5 => .agg #[.int .i64 (-(f a P)), .int .i64 (f P a)] | _ => undef))) (by kernel_rfl) (by kernel_rfl) (StG.start EndO.start) ?hop1 ?hend1)
  case hop1 =>
    rintro i o listed a' V2 hl ho h1 h2 hcl ⟨vs, ha, hI⟩
    have hi12 : i < 7 := (List.getElem?_eq_some_iff.1 ho).1
    match i, ho with
    | 0, ho =>
      have nc : on listed 6 = false := by
        cases hb : on listed 6 with
        | false => rfl
        | true =>
          have q0 := hcl 6 _ rfl hb ⟨0, .phase⟩ (by simp) rfl
          rw [on_no h1] at q0; cases q0
      have hKK := hI.kept nc
      have rx0 := kcell hKK x0
      have rx1 := kcell hKK x1
      have rx2 := kcell hKK x2
      have rx3 := kcell hKK x3
      have rx4 := kcell hKK x4
      have rx5 := kcell hKK x5
      have rx6 := kcell hKK x6
      have st := StG.step (by kernel_rfl) ha hl ho h1 (hI.pure 0 (by omega) nc (kept_refl _))
      have ST := Lib.hid st; clear st
      cases ho
      rw [if_pos (by rfl)]
      have t2 := ha.old 2 (by kernel_rfl)
      simp at t2
      have HI := Lib.hid hI; clear hI
      go_simp
      exact ST.out
    | 1, ho =>
      have nc : on listed 6 = false := by
        cases hb : on listed 6 with
        | false => rfl
        | true =>
          have q1 := hcl 6 _ rfl hb ⟨1, .phase⟩ (by simp) rfl
          rw [on_no h1] at q1; cases q1
      have hKK := hI.kept nc
      have rx0 := kcell hKK x0
      have rx1 := kcell hKK x1
      have rx2 := kcell hKK x2
      have rx3 := kcell hKK x3
      have rx4 := kcell hKK x4
      have rx5 := kcell hKK x5
      have rx6 := kcell hKK x6
      have st := StG.step (by kernel_rfl) ha hl ho h1 (hI.pure 1 (by omega) nc (kept_refl _))
      have ST := Lib.hid st; clear st
      cases ho
      rw [if_pos (by rfl)]
      have t2 := ha.old 2 (by kernel_rfl)
      simp at t2
      have HI := Lib.hid hI; clear hI
      go_simp
      exact ST.out
    | 2, ho =>
      have nc : on listed 6 = false := by
        cases hb : on listed 6 with
        | false => rfl
        | true =>
          have q2 := hcl 6 _ rfl hb ⟨2, .phase⟩ (by simp) rfl
          rw [on_no h1] at q2; cases q2
      have hKK := hI.kept nc
      have rx0 := kcell hKK x0
      have rx1 := kcell hKK x1
      have rx2 := kcell hKK x2
      have rx3 := kcell hKK x3
      have rx4 := kcell hKK x4
      have rx5 := kcell hKK x5
      have rx6 := kcell hKK x6
      have st := fun V' (kk : Kept V2 V') => StG.step (by kernel_rfl) ha hl ho h1 (hI.pure 2 (by omega) nc kk)
      have ST := Lib.hid st; clear st
      cases ho
      rw [if_pos (by rfl)]
      have t6 := (ha.new 1 (h2 ⟨1, .data⟩ (by simp) rfl) (d := 6) rfl rfl (by simp)).trans (hI.val 1 (h2 ⟨1, .data⟩ (by simp) rfl) (by omega))
      simp at t6
      have HI := Lib.hid hI; clear hI
      go_simp
      refine ⟨trivial, rfl, (callsIn_wide.2 (HTO.out _ _ _ _ _ _ V2)).mono ?_⟩
      rintro e V' ⟨rfl, hk⟩
      exact ST.out V' hk
    | 3, ho =>
      have nc : on listed 6 = false := by
        cases hb : on listed 6 with
        | false => rfl
        | true =>
          have q3 := hcl 6 _ rfl hb ⟨3, .phase⟩ (by simp) rfl
          rw [on_no h1] at q3; cases q3
      have hKK := hI.kept nc
      have rx0 := kcell hKK x0
      have rx1 := kcell hKK x1
      have rx2 := kcell hKK x2
      have rx3 := kcell hKK x3
      have rx4 := kcell hKK x4
      have rx5 := kcell hKK x5
      have rx6 := kcell hKK x6
      have st := StG.step (by kernel_rfl) ha hl ho h1 (hI.pure 3 (by omega) nc (kept_refl _))
      have ST := Lib.hid st; clear st
      cases ho
      rw [if_pos (by rfl)]
      have t1 := ha.old 1 (by kernel_rfl)
      simp at t1
      have HI := Lib.hid hI; clear hI
      go_simp
      exact ST.out
    | 4, ho =>
      have nc : on listed 6 = false := by
        cases hb : on listed 6 with
        | false => rfl
        | true =>
          have q4 := hcl 6 _ rfl hb ⟨4, .phase⟩ (by simp) rfl
          rw [on_no h1] at q4; cases q4
      have hKK := hI.kept nc
      have rx0 := kcell hKK x0
      have rx1 := kcell hKK x1
      have rx2 := kcell hKK x2
      have rx3 := kcell hKK x3
      have rx4 := kcell hKK x4
      have rx5 := kcell hKK x5
      have rx6 := kcell hKK x6
      have st := StG.step (by kernel_rfl) ha hl ho h1 (hI.pure 4 (by omega) nc (kept_refl _))
      have ST := Lib.hid st; clear st
      cases ho
      rw [if_pos (by rfl)]
      have t7 := (ha.new 2 (h2 ⟨2, .data⟩ (by simp) rfl) (d := 7) rfl rfl (by simp)).trans (hI.val 2 (h2 ⟨2, .data⟩ (by simp) rfl) (by omega))
      simp at t7
      have t8 := (ha.new 3 (h2 ⟨3, .data⟩ (by simp) rfl) (d := 8) rfl rfl (by simp)).trans (hI.val 3 (h2 ⟨3, .data⟩ (by simp) rfl) (by omega))
      simp at t8
      have HI := Lib.hid hI; clear hI
      go_simp
      exact ST.out
    | 5, ho =>
      have nc : on listed 6 = false := by
        cases hb : on listed 6 with
        | false => rfl
        | true =>
          have q5 := hcl 6 _ rfl hb ⟨5, .phase⟩ (by simp) rfl
          rw [on_no h1] at q5; cases q5
      have hKK := hI.kept nc
      have rx0 := kcell hKK x0
      have rx1 := kcell hKK x1
      have rx2 := kcell hKK x2
      have rx3 := kcell hKK x3
      have rx4 := kcell hKK x4
      have rx5 := kcell hKK x5
      have rx6 := kcell hKK x6
      have st := fun V' (kk : Kept V2 V') => StG.step (by kernel_rfl) ha hl ho h1 (hI.pure 5 (by omega) nc kk)
      have ST := Lib.hid st; clear st
      cases ho
      rw [if_pos (by rfl)]
      have t5 := (ha.new 0 (h2 ⟨0, .data⟩ (by simp) rfl) (d := 5) rfl rfl (by simp)).trans (hI.val 0 (h2 ⟨0, .data⟩ (by simp) rfl) (by omega))
      simp at t5
      have t9 := (ha.new 4 (h2 ⟨4, .data⟩ (by simp) rfl) (d := 9) rfl rfl (by simp)).trans (hI.val 4 (h2 ⟨4, .data⟩ (by simp) rfl) (by omega))
      simp at t9
      have HCL := Lib.hid (HAP.out V2 (H0.out.kept hKK))
      have HI := Lib.hid hI; clear hI
      go_simp
      refine ⟨trivial, rfl, (callsIn_wide.2 HCL.out).mono ?_⟩
      rintro e V' ⟨rfl, hk⟩
      exact ST.out V' hk
    | 6, ho =>
      have nc : on listed 6 = false := on_no h1
      have hKK := hI.kept nc
      have st := StG.step (v := undef) (by kernel_rfl) ha hl ho h1 (hI.done (v := undef) (show (fun U => ∃ V', Kept W0 V' ∧ U = (V'.setCell ⟨sb, 0, none⟩ (.int .i64 (-(f a P)))).setCell ⟨sb, 1, none⟩ (.int .i64 (f P a))) _ from ⟨V2, hKK, rfl⟩))
      have ST := Lib.hid st; clear st
      have rs0 := kcell hKK s0
      have rf0 := ((kturns hKK (fun _ => False)).frozen hzs (fun h => h)).trans sf0
      have rs1 := kcell hKK s1
      have rf1 := ((kturns hKK (fun _ => False)).frozen hzs (fun h => h)).trans sf1
      cases ho
      rw [if_pos (by rfl)]
      have t4 := ha.old 4 (by kernel_rfl)
      simp at t4
      have t10 := (ha.new 5 (h2 ⟨5, .data⟩ (by simp) rfl) (d := 10) rfl rfl (by simp)).trans (hI.val 5 (h2 ⟨5, .data⟩ (by simp) rfl) (by omega))
      simp at t10
      have HI := Lib.hid hI; clear hI
      go_simp
      exact ST.out
  case hend1 =>
    rintro listed a' V2 hall ⟨vs, ha, hI⟩
    obtain ⟨V3, hk3, rfl⟩ := hI.made (hall 6 (by simp))
    obtain ⟨yy, hy, hae⟩ := ha.lit (n := 11) rfl
    have y4 := (hy 4).symm.trans (ha.old 4 (by kernel_rfl))
    simp at y4
    simp only [List.range, List.range.loop, List.map] at hae
    rw [y4] at hae
    subst hae
    clear ha hy y4 hI
    refine (by assumption : ∀ (a : Act) (w : World), Code.wp Tryz.prog _ _ a w → _) _ _ ?_
    have u0 := kcell hk3 s0
    have u1 := kcell hk3 s1
    have hzs3 := Go.Ai.lt_of_cell u0
    have hTS : Turns (fun c => c = sb) V3 ((V3.setCell ⟨sb, 0, none⟩ (.int .i64 (-(f a P)))).setCell ⟨sb, 1, none⟩ (.int .i64 (f P a))) := ((Turns.refl (fun c => c = sb) V3).setCell rfl _ _).setCell rfl _ _
    have v0 : ((V3.setCell ⟨sb, 0, none⟩ (.int .i64 (-(f a P)))).setCell ⟨sb, 1, none⟩ (.int .i64 (f P a))).cell? ⟨sb, 0, none⟩ = some (.int .i64 (-(f a P))) := by go_simp
    have v1 : ((V3.setCell ⟨sb, 0, none⟩ (.int .i64 (-(f a P)))).setCell ⟨sb, 1, none⟩ (.int .i64 (f P a))).cell? ⟨sb, 1, none⟩ = some (.int .i64 (f P a)) := by go_simp
    have hkE := kept_trans hk0 hk3
    generalize ((V3.setCell ⟨sb, 0, none⟩ (.int .i64 (-(f a P)))).setCell ⟨sb, 1, none⟩ (.int .i64 (f P a))) = WN at *
    go_wp2_with fail
    refine bodyPost_ret (v := .agg #[.int .i64 (-(f a P)), .int .i64 (f P a)]) (by simp [results, Tryz.results48, go_sem, v0, v1]) rfl ⟨rfl, ?_⟩
    exact Below.trans hkE (hTS.toBelow (n := w.heap.size) (by rintro b rfl; omega) hkE.size)
end Go.Proofs.YthgfbokfaidklaaGreatDoor
set_option linter.all false
namespace Go.Proofs.YthgfbokfaidklaaGreatDoor
open Go.RowKit Go.Sort Go.Rg
set_option maxRecDepth 100000

end Go.Proofs.YthgfbokfaidklaaGreatDoor
set_option linter.all false
namespace Go.Proofs.YthgfbokfaidklaaGreatDoor
open Go.RowKit Go.Sort Go.Rg
set_option maxRecDepth 100000

end Go.Proofs.YthgfbokfaidklaaGreatDoor
set_option linter.all false
namespace Go.Proofs.YthgfbokfaidklaaGreatDoor
open Go.RowKit Go.Sort Go.Rg
set_option maxRecDepth 100000

end Go.Proofs.YthgfbokfaidklaaGreatDoor
set_option linter.all false
namespace Go.Proofs.YthgfbokfaidklaaGreatDoor
open Go.RowKit Go.Sort Go.Rg
set_option maxRecDepth 100000

end Go.Proofs.YthgfbokfaidklaaGreatDoor
set_option linter.all false
namespace Go.Proofs.YthgfbokfaidklaaGreatDoor
open Go.RowKit Go.Sort Go.Rg
set_option maxRecDepth 100000

def turnI (n b : Int) : Int := if n.tmod b < 0 then n.tmod b + b else n.tmod b
theorem turnI_lt (n b : Int) (hb : 1 ≤ b) : 0 ≤ turnI n b ∧ turnI n b < b := by
  obtain ⟨m1, m2⟩ := tmod_small n b hb
  unfold turnI
  split <;> omega
theorem turn_is (n b : Int) (hb : 1 ≤ b) (hb2 : b ≤ 1000) (w : World) : Calls Tryz.prog 9 #[.int .i64 n, .int .i64 b] w fun e w' => e = .returned (.int .i64 (turnI n b)) ∧ w = w' := by
  have hb0 : decide (b < 1) = false := by simp; omega
  have hbz : (b == 0) = false := by simp; omega
  obtain ⟨m1, m2⟩ := tmod_small n b hb
  by_cases hs : n.tmod b < 0
  · rw [show turnI n b = n.tmod b + b by simp [turnI, hs]]
    go_enter Tryz.func9, Tryz.ntmps9
    go_wp2_with fail
    all_goals go_ret
    all_goals first | exact ⟨rfl, rfl⟩ | (exfalso; omega)
  · rw [show turnI n b = n.tmod b by simp [turnI, hs]]
    go_enter Tryz.func9, Tryz.ntmps9
    go_wp2_with fail
    all_goals go_ret
    all_goals first | exact ⟨rfl, rfl⟩ | (exfalso; omega)

end Go.Proofs.YthgfbokfaidklaaGreatDoor
set_option linter.all false
namespace Go.Proofs.YthgfbokfaidklaaGreatDoor
open Go.RowKit Go.Sort Go.Rg
set_option maxRecDepth 100000

section
variable {B : Book} {sb sb' : Nat → List Int → Bool} {n : Nat}
end
end Go.Proofs.YthgfbokfaidklaaGreatDoor
set_option linter.all false
namespace Go.Proofs.YthgfbokfaidklaaGreatDoor
open Go.RowKit Go.Sort Go.Rg
set_option maxRecDepth 100000

/-- what the law says of both ends, the highest note and how often a note can be sung -/
structure TopsAt (x : Boy) (week note lo0 lo1 br0 br1 tp0 tp1 : Int) (fd : Bool) (kind : Int) : Prop where
  a1 : x.l0 ≤ lo0
  a2 : lo0 ≤ lo1
  a3 : lo1 ≤ x.l1
  b1 : x.b0 ≤ br0
  b2 : br0 ≤ br1
  b3 : br1 ≤ x.b1
  k1 : 0 ≤ kind
  k2 : kind ≤ 2
  t1 : fd = false ↔ br1 ≤ week
  t2 : fd = false → kind = 0 ∧ tp0 = 0 ∧ tp1 = 0
  t3 : fd = true → tp0 ≤ tp1
  t4 : fd = true → tp1 < note → kind = 0
  t5 : note < lo0 → kind = 0
  t6 : fd = true → note = tp1 → lo1 ≤ note → kind ≠ 0
  t7 : fd = true → week < br0 → lo1 ≤ note → note ≤ tp0 → kind = 2
end Go.Proofs.YthgfbokfaidklaaGreatDoor
set_option linter.all false
namespace Go.Proofs.YthgfbokfaidklaaGreatDoor
open Go.RowKit Go.Sort Go.Rg
set_option maxRecDepth 100000

end Go.Proofs.YthgfbokfaidklaaGreatDoor
set_option linter.all false
namespace Go.Proofs.YthgfbokfaidklaaGreatDoor
open Go.RowKit Go.Sort Go.Rg
set_option maxRecDepth 100000
attribute [local go_sem] Oper.semAt_some

end Go.Proofs.YthgfbokfaidklaaGreatDoor
set_option linter.all false
namespace Go.Proofs.YthgfbokfaidklaaGreatDoor
open Go.RowKit Go.Sort Go.Rg
set_option maxRecDepth 100000

/-- can the book be true? -/
def RightP (B : Book) (W : World) (e : Ending) (C : World) : Prop :=
  ∃ r : Bool, e = .returned (.tuple #[.bool r, .int .i64 0]) ∧ Kept W C ∧ (r = true ↔ Can B)

set_option maxHeartbeats 4000000 in
theorem right_any (p q : Option Addr) (cap capt : Nat) (B : Book) (W : World) (h : BookAt W p q cap capt B) (hg : Nothing W) (hok : B.okB = true) :
    Calls Tryz.prog 96 #[B.val p q cap capt] W (RightP B W) := by
  unfold Book.val
  have hk0 : Kept W (W.alloc (Obj.cells #[.slice p B.boys.length cap, .int .i64 B.weeks, .slice q B.trials.length capt] 27)) := kept_alloc (kept_refl _) _
  have a0 : (W.alloc (Obj.cells #[.slice p B.boys.length cap, .int .i64 B.weeks, .slice q B.trials.length capt] 27)).cell? ⟨W.heap.size, 0, none⟩ = some (.slice p B.boys.length cap) := by go_simp
  have a1 : (W.alloc (Obj.cells #[.slice p B.boys.length cap, .int .i64 B.weeks, .slice q B.trials.length capt] 27)).cell? ⟨W.heap.size, 1, none⟩ = some (.int .i64 B.weeks) := by go_simp
  have a2 : (W.alloc (Obj.cells #[.slice p B.boys.length cap, .int .i64 B.weeks, .slice q B.trials.length capt] 27)).cell? ⟨W.heap.size, 2, none⟩ = some (.slice q B.trials.length capt) := by go_simp
  go_enter Tryz.func96, Tryz.ntmps96
  go_wp2_with fail
  generalize W.alloc (Obj.cells #[.slice p B.boys.length cap, .int .i64 B.weeks, .slice q B.trials.length capt] 27) = W1 at *
  refine (check_any p q cap capt B _ (h.kept hk0)).mono ?_
  rintro e W2 ⟨rfl, hk2⟩
  have hkW2 := kept_trans hk0 hk2
  replace a0 := kcell hk2 a0
  replace a1 := kcell hk2 a1
  replace a2 := kcell hk2 a2
  simp only [hok, if_true]
  go_wp2_with fail
  refine (newChoir_any p q cap capt B W W2 hok h hkW2).mono ?_
  rintro e W3 ⟨c, hcB, rfl, hk3, hat⟩
  have hcan := canBeTrue_any _ c W3 hat (fun b hb => hb.1) (hg.kept (kept_trans hkW2 hk3))
  have HCAN := Lib.hid hcan; clear hcan
  generalize hcv : c.val = cv at *
  go_wp2_with fail
  refine HCAN.out.mono ?_
  rintro e W4 ⟨r, hr, rfl, hk4⟩
  go_wp2_with fail
  refine bodyPost_ret (v := .tuple #[.bool r, .int .i64 0]) (by simp [results, Tryz.results96, go_sem]) rfl ?_
  subst hcB
  exact ⟨r, rfl, kept_trans (kept_trans hkW2 hk3) hk4, hr⟩
end Go.Proofs.YthgfbokfaidklaaGreatDoor
set_option linter.all false
namespace Go.Proofs.YthgfbokfaidklaaGreatDoor
open Go.RowKit Go.Sort Go.Rg
set_option maxRecDepth 100000
set_option maxHeartbeats 4000000
attribute [local go_sem] Oper.semAt_some

theorem fieldHigh (x y : Value) (W : World) : (Instr.field 35 (.agg #[x, y]) 1).run Tryz.prog W = .ok y W := by kernel_rfl
attribute [local go_sem] fieldHigh
/-- what organ.nothing holds -/
def ONothing (w : World) : Prop := ∀ i, i < 5 → w.cell? ⟨0, i, none⟩ = some (.int .i64 (-61))
theorem ONothing.kept {A B : World} (h : ONothing A) (k : Kept A B) : ONothing B := fun i hi => kcell k (h i hi)
def hv (f : Fm) (P i : Nat) : Int := if i < P then f P i else 0
def diagB (f : Fm) (P : Nat) : Bool := (List.range P).all fun p => decide (0 ≤ f p p)
def hiVal (f : Fm) (P : Nat) : Value := if diagB f P then .agg #[.int .i64 (hv f P 0), .int .i64 (hv f P 1), .int .i64 (hv f P 2), .int .i64 (hv f P 3), .int .i64 (hv f P 4)] else .agg #[.int .i64 (-61), .int .i64 (-61), .int .i64 (-61), .int .i64 (-61), .int .i64 (-61)]

set_option maxHeartbeats 8000000 in
theorem oHighest_any (X : OBook) (P bm : Nat) (l : List OSlot) (f : Fm) (w : World) (h : BoundsAt w bm l f) (hn : ONothing w) (hf : LowF f) (hP : X.pipes = (P : Int)) (hP5 : 1 ≤ P ∧ P ≤ 5) :
    Calls Tryz.prog 62 #[.agg #[.int .i64 X.pipes, .slice X.tp X.tunes.length X.tcap, .slice X.fp X.forks.length X.fcap, .slice X.p X.B.boys.length X.cap, .int .i64 X.B.weeks, .slice X.q X.B.trials.length X.capt, .map (some bm)]] w fun e w' => e = .returned (hiVal f P) ∧ Kept w w' := by
  have hk0 : Kept w (((w.alloc (Obj.cells #[.int .i64 X.pipes, .slice X.tp X.tunes.length X.tcap, .slice X.fp X.forks.length X.fcap, .slice X.p X.B.boys.length X.cap, .int .i64 X.B.weeks, .slice X.q X.B.trials.length X.capt, .map (some bm)] 76)).alloc (Obj.cells #[.int .i64 0, .int .i64 0, .int .i64 0, .int .i64 0, .int .i64 0] 117)).alloc (Obj.cells #[.int .i64 0, .int .i64 0, .int .i64 0, .int .i64 0, .int .i64 0] 117)) := kept_alloc (kept_alloc (kept_alloc (kept_refl _) _) _) _
  have HPI := Lib.hid (fun k (hk : k < 6) V (hh : BoundsAt V bm l f) => pitch_any X P bm l f k V hh hf hP hP5.2 hk)
  have HAM := Lib.hid (fun k (hk : k < 6) V (hh : BoundsAt V bm l f) => atMost_any X bm l f k k V hh hk hk)
  have x0 : (((w.alloc (Obj.cells #[.int .i64 X.pipes, .slice X.tp X.tunes.length X.tcap, .slice X.fp X.forks.length X.fcap, .slice X.p X.B.boys.length X.cap, .int .i64 X.B.weeks, .slice X.q X.B.trials.length X.capt, .map (some bm)] 76)).alloc (Obj.cells #[.int .i64 0, .int .i64 0, .int .i64 0, .int .i64 0, .int .i64 0] 117)).alloc (Obj.cells #[.int .i64 0, .int .i64 0, .int .i64 0, .int .i64 0, .int .i64 0] 117)).cell? ⟨w.heap.size, 0, none⟩ = some (.int .i64 X.pipes) := by go_simp
  have x1 : (((w.alloc (Obj.cells #[.int .i64 X.pipes, .slice X.tp X.tunes.length X.tcap, .slice X.fp X.forks.length X.fcap, .slice X.p X.B.boys.length X.cap, .int .i64 X.B.weeks, .slice X.q X.B.trials.length X.capt, .map (some bm)] 76)).alloc (Obj.cells #[.int .i64 0, .int .i64 0, .int .i64 0, .int .i64 0, .int .i64 0] 117)).alloc (Obj.cells #[.int .i64 0, .int .i64 0, .int .i64 0, .int .i64 0, .int .i64 0] 117)).cell? ⟨w.heap.size, 1, none⟩ = some (.slice X.tp X.tunes.length X.tcap) := by go_simp
  have x2 : (((w.alloc (Obj.cells #[.int .i64 X.pipes, .slice X.tp X.tunes.length X.tcap, .slice X.fp X.forks.length X.fcap, .slice X.p X.B.boys.length X.cap, .int .i64 X.B.weeks, .slice X.q X.B.trials.length X.capt, .map (some bm)] 76)).alloc (Obj.cells #[.int .i64 0, .int .i64 0, .int .i64 0, .int .i64 0, .int .i64 0] 117)).alloc (Obj.cells #[.int .i64 0, .int .i64 0, .int .i64 0, .int .i64 0, .int .i64 0] 117)).cell? ⟨w.heap.size, 2, none⟩ = some (.slice X.fp X.forks.length X.fcap) := by go_simp
  have x3 : (((w.alloc (Obj.cells #[.int .i64 X.pipes, .slice X.tp X.tunes.length X.tcap, .slice X.fp X.forks.length X.fcap, .slice X.p X.B.boys.length X.cap, .int .i64 X.B.weeks, .slice X.q X.B.trials.length X.capt, .map (some bm)] 76)).alloc (Obj.cells #[.int .i64 0, .int .i64 0, .int .i64 0, .int .i64 0, .int .i64 0] 117)).alloc (Obj.cells #[.int .i64 0, .int .i64 0, .int .i64 0, .int .i64 0, .int .i64 0] 117)).cell? ⟨w.heap.size, 3, none⟩ = some (.slice X.p X.B.boys.length X.cap) := by go_simp
  have x4 : (((w.alloc (Obj.cells #[.int .i64 X.pipes, .slice X.tp X.tunes.length X.tcap, .slice X.fp X.forks.length X.fcap, .slice X.p X.B.boys.length X.cap, .int .i64 X.B.weeks, .slice X.q X.B.trials.length X.capt, .map (some bm)] 76)).alloc (Obj.cells #[.int .i64 0, .int .i64 0, .int .i64 0, .int .i64 0, .int .i64 0] 117)).alloc (Obj.cells #[.int .i64 0, .int .i64 0, .int .i64 0, .int .i64 0, .int .i64 0] 117)).cell? ⟨w.heap.size, 4, none⟩ = some (.int .i64 X.B.weeks) := by go_simp
  have x5 : (((w.alloc (Obj.cells #[.int .i64 X.pipes, .slice X.tp X.tunes.length X.tcap, .slice X.fp X.forks.length X.fcap, .slice X.p X.B.boys.length X.cap, .int .i64 X.B.weeks, .slice X.q X.B.trials.length X.capt, .map (some bm)] 76)).alloc (Obj.cells #[.int .i64 0, .int .i64 0, .int .i64 0, .int .i64 0, .int .i64 0] 117)).alloc (Obj.cells #[.int .i64 0, .int .i64 0, .int .i64 0, .int .i64 0, .int .i64 0] 117)).cell? ⟨w.heap.size, 5, none⟩ = some (.slice X.q X.B.trials.length X.capt) := by go_simp
  have x6 : (((w.alloc (Obj.cells #[.int .i64 X.pipes, .slice X.tp X.tunes.length X.tcap, .slice X.fp X.forks.length X.fcap, .slice X.p X.B.boys.length X.cap, .int .i64 X.B.weeks, .slice X.q X.B.trials.length X.capt, .map (some bm)] 76)).alloc (Obj.cells #[.int .i64 0, .int .i64 0, .int .i64 0, .int .i64 0, .int .i64 0] 117)).alloc (Obj.cells #[.int .i64 0, .int .i64 0, .int .i64 0, .int .i64 0, .int .i64 0] 117)).cell? ⟨w.heap.size, 6, none⟩ = some (.map (some bm)) := by go_simp
  have s0 : (((w.alloc (Obj.cells #[.int .i64 X.pipes, .slice X.tp X.tunes.length X.tcap, .slice X.fp X.forks.length X.fcap, .slice X.p X.B.boys.length X.cap, .int .i64 X.B.weeks, .slice X.q X.B.trials.length X.capt, .map (some bm)] 76)).alloc (Obj.cells #[.int .i64 0, .int .i64 0, .int .i64 0, .int .i64 0, .int .i64 0] 117)).alloc (Obj.cells #[.int .i64 0, .int .i64 0, .int .i64 0, .int .i64 0, .int .i64 0] 117)).cell? ⟨w.heap.size + 1, 0, none⟩ = some (.int .i64 0) := by go_simp
  have sf0 : (((w.alloc (Obj.cells #[.int .i64 X.pipes, .slice X.tp X.tunes.length X.tcap, .slice X.fp X.forks.length X.fcap, .slice X.p X.B.boys.length X.cap, .int .i64 X.B.weeks, .slice X.q X.B.trials.length X.capt, .map (some bm)] 76)).alloc (Obj.cells #[.int .i64 0, .int .i64 0, .int .i64 0, .int .i64 0, .int .i64 0] 117)).alloc (Obj.cells #[.int .i64 0, .int .i64 0, .int .i64 0, .int .i64 0, .int .i64 0] 117)).frozen? ⟨w.heap.size + 1, 0, none⟩ = false := by go_simp
  have q0 : (((w.alloc (Obj.cells #[.int .i64 X.pipes, .slice X.tp X.tunes.length X.tcap, .slice X.fp X.forks.length X.fcap, .slice X.p X.B.boys.length X.cap, .int .i64 X.B.weeks, .slice X.q X.B.trials.length X.capt, .map (some bm)] 76)).alloc (Obj.cells #[.int .i64 0, .int .i64 0, .int .i64 0, .int .i64 0, .int .i64 0] 117)).alloc (Obj.cells #[.int .i64 0, .int .i64 0, .int .i64 0, .int .i64 0, .int .i64 0] 117)).cell? ⟨w.heap.size + 1 + 1, 0, none⟩ = some (.int .i64 0) := by go_simp
  have qf0 : (((w.alloc (Obj.cells #[.int .i64 X.pipes, .slice X.tp X.tunes.length X.tcap, .slice X.fp X.forks.length X.fcap, .slice X.p X.B.boys.length X.cap, .int .i64 X.B.weeks, .slice X.q X.B.trials.length X.capt, .map (some bm)] 76)).alloc (Obj.cells #[.int .i64 0, .int .i64 0, .int .i64 0, .int .i64 0, .int .i64 0] 117)).alloc (Obj.cells #[.int .i64 0, .int .i64 0, .int .i64 0, .int .i64 0, .int .i64 0] 117)).frozen? ⟨w.heap.size + 1 + 1, 0, none⟩ = false := by go_simp
  have n0 := kcell hk0 (hn 0 (by omega))
  have s1 : (((w.alloc (Obj.cells #[.int .i64 X.pipes, .slice X.tp X.tunes.length X.tcap, .slice X.fp X.forks.length X.fcap, .slice X.p X.B.boys.length X.cap, .int .i64 X.B.weeks, .slice X.q X.B.trials.length X.capt, .map (some bm)] 76)).alloc (Obj.cells #[.int .i64 0, .int .i64 0, .int .i64 0, .int .i64 0, .int .i64 0] 117)).alloc (Obj.cells #[.int .i64 0, .int .i64 0, .int .i64 0, .int .i64 0, .int .i64 0] 117)).cell? ⟨w.heap.size + 1, 1, none⟩ = some (.int .i64 0) := by go_simp
  have sf1 : (((w.alloc (Obj.cells #[.int .i64 X.pipes, .slice X.tp X.tunes.length X.tcap, .slice X.fp X.forks.length X.fcap, .slice X.p X.B.boys.length X.cap, .int .i64 X.B.weeks, .slice X.q X.B.trials.length X.capt, .map (some bm)] 76)).alloc (Obj.cells #[.int .i64 0, .int .i64 0, .int .i64 0, .int .i64 0, .int .i64 0] 117)).alloc (Obj.cells #[.int .i64 0, .int .i64 0, .int .i64 0, .int .i64 0, .int .i64 0] 117)).frozen? ⟨w.heap.size + 1, 1, none⟩ = false := by go_simp
  have q1 : (((w.alloc (Obj.cells #[.int .i64 X.pipes, .slice X.tp X.tunes.length X.tcap, .slice X.fp X.forks.length X.fcap, .slice X.p X.B.boys.length X.cap, .int .i64 X.B.weeks, .slice X.q X.B.trials.length X.capt, .map (some bm)] 76)).alloc (Obj.cells #[.int .i64 0, .int .i64 0, .int .i64 0, .int .i64 0, .int .i64 0] 117)).alloc (Obj.cells #[.int .i64 0, .int .i64 0, .int .i64 0, .int .i64 0, .int .i64 0] 117)).cell? ⟨w.heap.size + 1 + 1, 1, none⟩ = some (.int .i64 0) := by go_simp
  have qf1 : (((w.alloc (Obj.cells #[.int .i64 X.pipes, .slice X.tp X.tunes.length X.tcap, .slice X.fp X.forks.length X.fcap, .slice X.p X.B.boys.length X.cap, .int .i64 X.B.weeks, .slice X.q X.B.trials.length X.capt, .map (some bm)] 76)).alloc (Obj.cells #[.int .i64 0, .int .i64 0, .int .i64 0, .int .i64 0, .int .i64 0] 117)).alloc (Obj.cells #[.int .i64 0, .int .i64 0, .int .i64 0, .int .i64 0, .int .i64 0] 117)).frozen? ⟨w.heap.size + 1 + 1, 1, none⟩ = false := by go_simp
  have n1 := kcell hk0 (hn 1 (by omega))
  have s2 : (((w.alloc (Obj.cells #[.int .i64 X.pipes, .slice X.tp X.tunes.length X.tcap, .slice X.fp X.forks.length X.fcap, .slice X.p X.B.boys.length X.cap, .int .i64 X.B.weeks, .slice X.q X.B.trials.length X.capt, .map (some bm)] 76)).alloc (Obj.cells #[.int .i64 0, .int .i64 0, .int .i64 0, .int .i64 0, .int .i64 0] 117)).alloc (Obj.cells #[.int .i64 0, .int .i64 0, .int .i64 0, .int .i64 0, .int .i64 0] 117)).cell? ⟨w.heap.size + 1, 2, none⟩ = some (.int .i64 0) := by go_simp
  have sf2 : (((w.alloc (Obj.cells #[.int .i64 X.pipes, .slice X.tp X.tunes.length X.tcap, .slice X.fp X.forks.length X.fcap, .slice X.p X.B.boys.length X.cap, .int .i64 X.B.weeks, .slice X.q X.B.trials.length X.capt, .map (some bm)] 76)).alloc (Obj.cells #[.int .i64 0, .int .i64 0, .int .i64 0, .int .i64 0, .int .i64 0] 117)).alloc (Obj.cells #[.int .i64 0, .int .i64 0, .int .i64 0, .int .i64 0, .int .i64 0] 117)).frozen? ⟨w.heap.size + 1, 2, none⟩ = false := by go_simp
  have q2 : (((w.alloc (Obj.cells #[.int .i64 X.pipes, .slice X.tp X.tunes.length X.tcap, .slice X.fp X.forks.length X.fcap, .slice X.p X.B.boys.length X.cap, .int .i64 X.B.weeks, .slice X.q X.B.trials.length X.capt, .map (some bm)] 76)).alloc (Obj.cells #[.int .i64 0, .int .i64 0, .int .i64 0, .int .i64 0, .int .i64 0] 117)).alloc (Obj.cells #[.int .i64 0, .int .i64 0, .int .i64 0, .int .i64 0, .int .i64 0] 117)).cell? ⟨w.heap.size + 1 + 1, 2, none⟩ = some (.int .i64 0) := by go_simp
  have qf2 : (((w.alloc (Obj.cells #[.int .i64 X.pipes, .slice X.tp X.tunes.length X.tcap, .slice X.fp X.forks.length X.fcap, .slice X.p X.B.boys.length X.cap, .int .i64 X.B.weeks, .slice X.q X.B.trials.length X.capt, .map (some bm)] 76)).alloc (Obj.cells #[.int .i64 0, .int .i64 0, .int .i64 0, .int .i64 0, .int .i64 0] 117)).alloc (Obj.cells #[.int .i64 0, .int .i64 0, .int .i64 0, .int .i64 0, .int .i64 0] 117)).frozen? ⟨w.heap.size + 1 + 1, 2, none⟩ = false := by go_simp
  have n2 := kcell hk0 (hn 2 (by omega))
  have s3 : (((w.alloc (Obj.cells #[.int .i64 X.pipes, .slice X.tp X.tunes.length X.tcap, .slice X.fp X.forks.length X.fcap, .slice X.p X.B.boys.length X.cap, .int .i64 X.B.weeks, .slice X.q X.B.trials.length X.capt, .map (some bm)] 76)).alloc (Obj.cells #[.int .i64 0, .int .i64 0, .int .i64 0, .int .i64 0, .int .i64 0] 117)).alloc (Obj.cells #[.int .i64 0, .int .i64 0, .int .i64 0, .int .i64 0, .int .i64 0] 117)).cell? ⟨w.heap.size + 1, 3, none⟩ = some (.int .i64 0) := by go_simp
  have sf3 : (((w.alloc (Obj.cells #[.int .i64 X.pipes, .slice X.tp X.tunes.length X.tcap, .slice X.fp X.forks.length X.fcap, .slice X.p X.B.boys.length X.cap, .int .i64 X.B.weeks, .slice X.q X.B.trials.length X.capt, .map (some bm)] 76)).alloc (Obj.cells #[.int .i64 0, .int .i64 0, .int .i64 0, .int .i64 0, .int .i64 0] 117)).alloc (Obj.cells #[.int .i64 0, .int .i64 0, .int .i64 0, .int .i64 0, .int .i64 0] 117)).frozen? ⟨w.heap.size + 1, 3, none⟩ = false := by go_simp
  have q3 : (((w.alloc (Obj.cells #[.int .i64 X.pipes, .slice X.tp X.tunes.length X.tcap, .slice X.fp X.forks.length X.fcap, .slice X.p X.B.boys.length X.cap, .int .i64 X.B.weeks, .slice X.q X.B.trials.length X.capt, .map (some bm)] 76)).alloc (Obj.cells #[.int .i64 0, .int .i64 0, .int .i64 0, .int .i64 0, .int .i64 0] 117)).alloc (Obj.cells #[.int .i64 0, .int .i64 0, .int .i64 0, .int .i64 0, .int .i64 0] 117)).cell? ⟨w.heap.size + 1 + 1, 3, none⟩ = some (.int .i64 0) := by go_simp
  have qf3 : (((w.alloc (Obj.cells #[.int .i64 X.pipes, .slice X.tp X.tunes.length X.tcap, .slice X.fp X.forks.length X.fcap, .slice X.p X.B.boys.length X.cap, .int .i64 X.B.weeks, .slice X.q X.B.trials.length X.capt, .map (some bm)] 76)).alloc (Obj.cells #[.int .i64 0, .int .i64 0, .int .i64 0, .int .i64 0, .int .i64 0] 117)).alloc (Obj.cells #[.int .i64 0, .int .i64 0, .int .i64 0, .int .i64 0, .int .i64 0] 117)).frozen? ⟨w.heap.size + 1 + 1, 3, none⟩ = false := by go_simp
  have n3 := kcell hk0 (hn 3 (by omega))
  have s4 : (((w.alloc (Obj.cells #[.int .i64 X.pipes, .slice X.tp X.tunes.length X.tcap, .slice X.fp X.forks.length X.fcap, .slice X.p X.B.boys.length X.cap, .int .i64 X.B.weeks, .slice X.q X.B.trials.length X.capt, .map (some bm)] 76)).alloc (Obj.cells #[.int .i64 0, .int .i64 0, .int .i64 0, .int .i64 0, .int .i64 0] 117)).alloc (Obj.cells #[.int .i64 0, .int .i64 0, .int .i64 0, .int .i64 0, .int .i64 0] 117)).cell? ⟨w.heap.size + 1, 4, none⟩ = some (.int .i64 0) := by go_simp
  have sf4 : (((w.alloc (Obj.cells #[.int .i64 X.pipes, .slice X.tp X.tunes.length X.tcap, .slice X.fp X.forks.length X.fcap, .slice X.p X.B.boys.length X.cap, .int .i64 X.B.weeks, .slice X.q X.B.trials.length X.capt, .map (some bm)] 76)).alloc (Obj.cells #[.int .i64 0, .int .i64 0, .int .i64 0, .int .i64 0, .int .i64 0] 117)).alloc (Obj.cells #[.int .i64 0, .int .i64 0, .int .i64 0, .int .i64 0, .int .i64 0] 117)).frozen? ⟨w.heap.size + 1, 4, none⟩ = false := by go_simp
  have q4 : (((w.alloc (Obj.cells #[.int .i64 X.pipes, .slice X.tp X.tunes.length X.tcap, .slice X.fp X.forks.length X.fcap, .slice X.p X.B.boys.length X.cap, .int .i64 X.B.weeks, .slice X.q X.B.trials.length X.capt, .map (some bm)] 76)).alloc (Obj.cells #[.int .i64 0, .int .i64 0, .int .i64 0, .int .i64 0, .int .i64 0] 117)).alloc (Obj.cells #[.int .i64 0, .int .i64 0, .int .i64 0, .int .i64 0, .int .i64 0] 117)).cell? ⟨w.heap.size + 1 + 1, 4, none⟩ = some (.int .i64 0) := by go_simp
  have qf4 : (((w.alloc (Obj.cells #[.int .i64 X.pipes, .slice X.tp X.tunes.length X.tcap, .slice X.fp X.forks.length X.fcap, .slice X.p X.B.boys.length X.cap, .int .i64 X.B.weeks, .slice X.q X.B.trials.length X.capt, .map (some bm)] 76)).alloc (Obj.cells #[.int .i64 0, .int .i64 0, .int .i64 0, .int .i64 0, .int .i64 0] 117)).alloc (Obj.cells #[.int .i64 0, .int .i64 0, .int .i64 0, .int .i64 0, .int .i64 0] 117)).frozen? ⟨w.heap.size + 1 + 1, 4, none⟩ = false := by go_simp
  have n4 := kcell hk0 (hn 4 (by omega))
  have H0 := Lib.hid (h.kept hk0)
  have hbm := h.lt
  have hgz := Go.Ai.lt_of_cell (hn 0 (by omega))
  have hord : w.heap.size < w.heap.size + 1 ∧ w.heap.size + 1 < w.heap.size + 1 + 1 := ⟨by omega, by omega⟩
  have HP := Lib.hid hP
  clear h hf hP hn
  go_enter Tryz.func62, Tryz.ntmps62
  go_wp2_with fail
  generalize (((w.alloc (Obj.cells #[.int .i64 X.pipes, .slice X.tp X.tunes.length X.tcap, .slice X.fp X.forks.length X.fcap, .slice X.p X.B.boys.length X.cap, .int .i64 X.B.weeks, .slice X.q X.B.trials.length X.capt, .map (some bm)] 76)).alloc (Obj.cells #[.int .i64 0, .int .i64 0, .int .i64 0, .int .i64 0, .int .i64 0] 117)).alloc (Obj.cells #[.int .i64 0, .int .i64 0, .int .i64 0, .int .i64 0, .int .i64 0] 117)) = W0 at *
  generalize w.heap.size + 1 + 1 = hb at *
  generalize w.heap.size + 1 = sb at *
  go_loopw [8] (fun i W => ∃ k : Nat, k ≤ P ∧ i = .int .i64 k ∧ (∀ p, p < k → 0 ≤ f p p) ∧ Turns (fun c => c = hb) W0 W ∧ (∀ i : Nat, i < 5 → W.cell? ⟨hb, i, none⟩ = some (.int .i64 (hv f P i)) ∨ (k ≤ i ∧ W.cell? ⟨hb, i, none⟩ = some (.int .i64 0))) ∧ (∀ i : Nat, i < 5 → W.frozen? ⟨hb, i, none⟩ = false)) (fun i W => P - (intOf i).toNat)
  case atStart =>
    refine ⟨0, by omega, rfl, fun p hp => by omega, Turns.refl _ _, fun i hi => .inr ⟨by omega, ?_⟩, fun i hi => ?_⟩
    · match i, hi with
      | 0, _ => exact q0
      | 1, _ => exact q1
      | 2, _ => exact q2
      | 3, _ => exact q3
      | 4, _ => exact q4
    · match i, hi with
      | 0, _ => exact qf0
      | 1, _ => exact qf1
      | 2, _ => exact qf2
      | 3, _ => exact qf3
      | 4, _ => exact qf4
  case round =>
    obtain ⟨k, hk, rfl, hd, hT, hc, hfz⟩ := hrel
    have HD := Lib.hid hd; clear hd
    have HT := Lib.hid hT; clear hT
    have HC := Lib.hid hc; clear hc
    have HFZ := Lib.hid hfz; clear hfz
    have HB := Lib.hid (H0.out.of_block (HT.out.block bm (by have := H0.out.lt; omega) (by omega)))
    have e0 := tcell HT.out (by omega) x0
    have e1 := tcell HT.out (by omega) x1
    have e2 := tcell HT.out (by omega) x2
    have e3 := tcell HT.out (by omega) x3
    have e4 := tcell HT.out (by omega) x4
    have e5 := tcell HT.out (by omega) x5
    have e6 := tcell HT.out (by omega) x6
    have u0 := tcell HT.out (by omega) s0
    have uf0 := (HT.out.frozen (Go.Ai.lt_of_cell s0) (by omega)).trans sf0
    have m0 := tcell HT.out (by omega) n0
    have u1 := tcell HT.out (by omega) s1
    have uf1 := (HT.out.frozen (Go.Ai.lt_of_cell s1) (by omega)).trans sf1
    have m1 := tcell HT.out (by omega) n1
    have u2 := tcell HT.out (by omega) s2
    have uf2 := (HT.out.frozen (Go.Ai.lt_of_cell s2) (by omega)).trans sf2
    have m2 := tcell HT.out (by omega) n2
    have u3 := tcell HT.out (by omega) s3
    have uf3 := (HT.out.frozen (Go.Ai.lt_of_cell s3) (by omega)).trans sf3
    have m3 := tcell HT.out (by omega) n3
    have u4 := tcell HT.out (by omega) s4
    have uf4 := (HT.out.frozen (Go.Ai.lt_of_cell s4) (by omega)).trans sf4
    have m4 := tcell HT.out (by omega) n4
    have hkE : Kept w wr := Below.trans hk0 (HT.out.toBelow (n := w.heap.size) (by rintro b rfl; omega) hk0.size)
    have hzx := Go.Ai.lt_of_cell e0
    have hzs := Go.Ai.lt_of_cell u0
    have hzn := Go.Ai.lt_of_cell m0
    by_cases hlt : k < P
    · have hltI : (k : Int) < X.pipes := by rw [HP.out]; omega
      by_cases hneg : f k k < 0
      · have HV := Lib.hid (show hiVal f P = .agg #[.int .i64 (-61), .int .i64 (-61), .int .i64 (-61), .int .i64 (-61), .int .i64 (-61)] by
          unfold hiVal
          rw [if_neg]
          intro e
          have := List.all_eq_true.1 e k (List.mem_range.2 hlt)
          simp at this
          omega)
        go_wp2_with fail
        with_reducible refine (HAM.out k (by omega) _ HB.out).mono ?_
        rintro e w' ⟨rfl, hk1⟩
        replace u0 := kcell hk1 u0
        replace uf0 := ((kturns hk1 (fun _ => False)).frozen hzs (fun h => h)).trans uf0
        replace m0 := kcell hk1 m0
        replace u1 := kcell hk1 u1
        replace uf1 := ((kturns hk1 (fun _ => False)).frozen hzs (fun h => h)).trans uf1
        replace m1 := kcell hk1 m1
        replace u2 := kcell hk1 u2
        replace uf2 := ((kturns hk1 (fun _ => False)).frozen hzs (fun h => h)).trans uf2
        replace m2 := kcell hk1 m2
        replace u3 := kcell hk1 u3
        replace uf3 := ((kturns hk1 (fun _ => False)).frozen hzs (fun h => h)).trans uf3
        replace m3 := kcell hk1 m3
        replace u4 := kcell hk1 u4
        replace uf4 := ((kturns hk1 (fun _ => False)).frozen hzs (fun h => h)).trans uf4
        replace m4 := kcell hk1 m4
        have hTS : Turns (fun c => c = sb) w' (((((w'.setCell ⟨sb, 0, none⟩ (.int .i64 (-61))).setCell ⟨sb, 1, none⟩ (.int .i64 (-61))).setCell ⟨sb, 2, none⟩ (.int .i64 (-61))).setCell ⟨sb, 3, none⟩ (.int .i64 (-61))).setCell ⟨sb, 4, none⟩ (.int .i64 (-61))) := (((((Turns.refl (fun c => c = sb) w').setCell rfl _ _).setCell rfl _ _).setCell rfl _ _).setCell rfl _ _).setCell rfl _ _
        replace hzs := Go.Ai.lt_of_cell u0
        replace hzn := Go.Ai.lt_of_cell m0
        have v0 : (((((w'.setCell ⟨sb, 0, none⟩ (.int .i64 (-61))).setCell ⟨sb, 1, none⟩ (.int .i64 (-61))).setCell ⟨sb, 2, none⟩ (.int .i64 (-61))).setCell ⟨sb, 3, none⟩ (.int .i64 (-61))).setCell ⟨sb, 4, none⟩ (.int .i64 (-61))).cell? ⟨sb, 0, none⟩ = some (.int .i64 (-61)) := by go_simp
        have v1 : (((((w'.setCell ⟨sb, 0, none⟩ (.int .i64 (-61))).setCell ⟨sb, 1, none⟩ (.int .i64 (-61))).setCell ⟨sb, 2, none⟩ (.int .i64 (-61))).setCell ⟨sb, 3, none⟩ (.int .i64 (-61))).setCell ⟨sb, 4, none⟩ (.int .i64 (-61))).cell? ⟨sb, 1, none⟩ = some (.int .i64 (-61)) := by go_simp
        have v2 : (((((w'.setCell ⟨sb, 0, none⟩ (.int .i64 (-61))).setCell ⟨sb, 1, none⟩ (.int .i64 (-61))).setCell ⟨sb, 2, none⟩ (.int .i64 (-61))).setCell ⟨sb, 3, none⟩ (.int .i64 (-61))).setCell ⟨sb, 4, none⟩ (.int .i64 (-61))).cell? ⟨sb, 2, none⟩ = some (.int .i64 (-61)) := by go_simp
        have v3 : (((((w'.setCell ⟨sb, 0, none⟩ (.int .i64 (-61))).setCell ⟨sb, 1, none⟩ (.int .i64 (-61))).setCell ⟨sb, 2, none⟩ (.int .i64 (-61))).setCell ⟨sb, 3, none⟩ (.int .i64 (-61))).setCell ⟨sb, 4, none⟩ (.int .i64 (-61))).cell? ⟨sb, 3, none⟩ = some (.int .i64 (-61)) := by go_simp
        have v4 : (((((w'.setCell ⟨sb, 0, none⟩ (.int .i64 (-61))).setCell ⟨sb, 1, none⟩ (.int .i64 (-61))).setCell ⟨sb, 2, none⟩ (.int .i64 (-61))).setCell ⟨sb, 3, none⟩ (.int .i64 (-61))).setCell ⟨sb, 4, none⟩ (.int .i64 (-61))).cell? ⟨sb, 4, none⟩ = some (.int .i64 (-61)) := by go_simp
        go_wp2_with fail
        generalize (((((w'.setCell ⟨sb, 0, none⟩ (.int .i64 (-61))).setCell ⟨sb, 1, none⟩ (.int .i64 (-61))).setCell ⟨sb, 2, none⟩ (.int .i64 (-61))).setCell ⟨sb, 3, none⟩ (.int .i64 (-61))).setCell ⟨sb, 4, none⟩ (.int .i64 (-61))) = WN at *
        refine bodyPost_ret (v := .agg #[.int .i64 (-61), .int .i64 (-61), .int .i64 (-61), .int .i64 (-61), .int .i64 (-61)]) (by simp [results, Tryz.results62, go_sem, v0, v1, v2, v3, v4]) rfl ⟨by rw [HV.out], ?_⟩
        have hkF := kept_trans hkE hk1
        exact Below.trans hkF (hTS.toBelow (n := w.heap.size) (by rintro b rfl; omega) hkF.size)
      · have hk5I : (k : Int) < 5 := by omega
        have hk0I : (0 : Int) ≤ k := by omega
        obtain ⟨z, hz⟩ : ∃ z, wr.cell? ⟨hb, k, none⟩ = some (.int .i64 z) := by
          rcases HC.out k (by omega) with h | ⟨_, h⟩ <;> exact ⟨_, h⟩
        have hfk := HFZ.out k (by omega)
        have hzb := Go.Ai.lt_of_cell hz
        go_wp2_with fail
        with_reducible refine (HAM.out k (by omega) _ HB.out).mono ?_
        rintro e w1 ⟨rfl, hk1⟩
        replace e0 := kcell hk1 e0
        replace e1 := kcell hk1 e1
        replace e2 := kcell hk1 e2
        replace e3 := kcell hk1 e3
        replace e4 := kcell hk1 e4
        replace e5 := kcell hk1 e5
        replace e6 := kcell hk1 e6
        replace hz := kcell hk1 hz
        replace hfk := ((kturns hk1 (fun _ => False)).frozen hzb (fun h => h)).trans hfk
        replace hzb := Go.Ai.lt_of_cell hz
        go_wp2_with fail
        with_reducible refine (HPI.out k (by omega) _ (HB.out.kept hk1)).mono ?_
        rintro e w2 ⟨rfl, hk2⟩
        have hk12 := kept_trans hk1 hk2
        replace hz := kcell hk2 hz
        replace hfk := ((kturns hk2 (fun _ => False)).frozen hzb (fun h => h)).trans hfk
        replace hzb := Go.Ai.lt_of_cell hz
        have hTN : Turns (fun c => c = hb) W0 (w2.setCell ⟨hb, k, none⟩ (.int .i64 (f P k))) := (HT.out.trans (Ext.refl _ _) (kturns hk12 (fun c => c = hb))).trans (Ext.refl _ _) ((Turns.refl (fun c => c = hb) w2).setCell rfl _ _)
        have HN := Lib.hid (show (∀ p, p < k + 1 → 0 ≤ f p p) ∧ Turns (fun c => c = hb) W0 (w2.setCell ⟨hb, k, none⟩ (.int .i64 (f P k))) ∧ (∀ i : Nat, i < 5 → (w2.setCell ⟨hb, k, none⟩ (.int .i64 (f P k))).cell? ⟨hb, i, none⟩ = some (.int .i64 (hv f P i)) ∨ (k + 1 ≤ i ∧ (w2.setCell ⟨hb, k, none⟩ (.int .i64 (f P k))).cell? ⟨hb, i, none⟩ = some (.int .i64 0))) ∧ (∀ i : Nat, i < 5 → (w2.setCell ⟨hb, k, none⟩ (.int .i64 (f P k))).frozen? ⟨hb, i, none⟩ = false) from by
          refine ⟨fun p hp => ?_, hTN, fun i hi => ?_, fun i hi => ?_⟩
          · by_cases e : p = k
            · subst e; omega
            · exact HD.out p (by omega)
          · by_cases e : i = k
            · subst e
              refine .inl ((cell_set_eq hz).trans ?_)
              simp [hv, hlt]
            · rcases HC.out i hi with h | ⟨h1, h⟩
              · exact .inl ((cell_set_ne (fun e' => e e'.symm)).trans (kcell hk12 h))
              · exact .inr ⟨by omega, (cell_set_ne (fun e' => e e'.symm)).trans (kcell hk12 h)⟩
          · refine (World.frozen?_setCell _ _ _ _).trans (((kturns hk12 (fun _ => False)).frozen ?_ (fun h => h)).trans (HFZ.out i hi))
            rcases HC.out 0 (by omega) with h | ⟨_, h⟩ <;> exact Go.Ai.lt_of_cell h)
        clear hTN
        go_wp2_with fail
        generalize w2.setCell ⟨hb, k, none⟩ (.int .i64 (f P k)) = WN at *
        go_roundw
        case rel => exact ⟨k + 1, by omega, by go_num, HN.out.1, HN.out.2.1, HN.out.2.2.1, HN.out.2.2.2⟩
        case measure => simp [intOf]; omega
    · have hltI : ¬ (k : Int) < X.pipes := by rw [HP.out]; omega
      obtain rfl : k = P := by omega
      have HV := Lib.hid (show hiVal f k = .agg #[.int .i64 (hv f k 0), .int .i64 (hv f k 1), .int .i64 (hv f k 2), .int .i64 (hv f k 3), .int .i64 (hv f k 4)] by
        unfold hiVal
        rw [if_pos]
        rw [diagB, List.all_eq_true]
        intro p hp
        simpa using HD.out p (List.mem_range.1 hp))
      have hcc : ∀ i, i < 5 → wr.cell? ⟨hb, i, none⟩ = some (.int .i64 (hv f k i)) := fun i hi => by
        rcases HC.out i hi with h | ⟨h1, h⟩
        · exact h
        · rw [h]; simp [hv]; omega
      have c0 := hcc 0 (by omega)
      have c1 := hcc 1 (by omega)
      have c2 := hcc 2 (by omega)
      have c3 := hcc 3 (by omega)
      have c4 := hcc 4 (by omega)
      have hTS : Turns (fun c => c = sb) wr (((((wr.setCell ⟨sb, 0, none⟩ (.int .i64 (hv f k 0))).setCell ⟨sb, 1, none⟩ (.int .i64 (hv f k 1))).setCell ⟨sb, 2, none⟩ (.int .i64 (hv f k 2))).setCell ⟨sb, 3, none⟩ (.int .i64 (hv f k 3))).setCell ⟨sb, 4, none⟩ (.int .i64 (hv f k 4))) := (((((Turns.refl (fun c => c = sb) wr).setCell rfl _ _).setCell rfl _ _).setCell rfl _ _).setCell rfl _ _).setCell rfl _ _
      clear hcc
      have hzc := Go.Ai.lt_of_cell c0
      have v0 : (((((wr.setCell ⟨sb, 0, none⟩ (.int .i64 (hv f k 0))).setCell ⟨sb, 1, none⟩ (.int .i64 (hv f k 1))).setCell ⟨sb, 2, none⟩ (.int .i64 (hv f k 2))).setCell ⟨sb, 3, none⟩ (.int .i64 (hv f k 3))).setCell ⟨sb, 4, none⟩ (.int .i64 (hv f k 4))).cell? ⟨sb, 0, none⟩ = some (.int .i64 (hv f k 0)) := by go_simp
      have v1 : (((((wr.setCell ⟨sb, 0, none⟩ (.int .i64 (hv f k 0))).setCell ⟨sb, 1, none⟩ (.int .i64 (hv f k 1))).setCell ⟨sb, 2, none⟩ (.int .i64 (hv f k 2))).setCell ⟨sb, 3, none⟩ (.int .i64 (hv f k 3))).setCell ⟨sb, 4, none⟩ (.int .i64 (hv f k 4))).cell? ⟨sb, 1, none⟩ = some (.int .i64 (hv f k 1)) := by go_simp
      have v2 : (((((wr.setCell ⟨sb, 0, none⟩ (.int .i64 (hv f k 0))).setCell ⟨sb, 1, none⟩ (.int .i64 (hv f k 1))).setCell ⟨sb, 2, none⟩ (.int .i64 (hv f k 2))).setCell ⟨sb, 3, none⟩ (.int .i64 (hv f k 3))).setCell ⟨sb, 4, none⟩ (.int .i64 (hv f k 4))).cell? ⟨sb, 2, none⟩ = some (.int .i64 (hv f k 2)) := by go_simp
      have v3 : (((((wr.setCell ⟨sb, 0, none⟩ (.int .i64 (hv f k 0))).setCell ⟨sb, 1, none⟩ (.int .i64 (hv f k 1))).setCell ⟨sb, 2, none⟩ (.int .i64 (hv f k 2))).setCell ⟨sb, 3, none⟩ (.int .i64 (hv f k 3))).setCell ⟨sb, 4, none⟩ (.int .i64 (hv f k 4))).cell? ⟨sb, 3, none⟩ = some (.int .i64 (hv f k 3)) := by go_simp
      have v4 : (((((wr.setCell ⟨sb, 0, none⟩ (.int .i64 (hv f k 0))).setCell ⟨sb, 1, none⟩ (.int .i64 (hv f k 1))).setCell ⟨sb, 2, none⟩ (.int .i64 (hv f k 2))).setCell ⟨sb, 3, none⟩ (.int .i64 (hv f k 3))).setCell ⟨sb, 4, none⟩ (.int .i64 (hv f k 4))).cell? ⟨sb, 4, none⟩ = some (.int .i64 (hv f k 4)) := by go_simp
      go_wp2_with fail
      generalize (((((wr.setCell ⟨sb, 0, none⟩ (.int .i64 (hv f k 0))).setCell ⟨sb, 1, none⟩ (.int .i64 (hv f k 1))).setCell ⟨sb, 2, none⟩ (.int .i64 (hv f k 2))).setCell ⟨sb, 3, none⟩ (.int .i64 (hv f k 3))).setCell ⟨sb, 4, none⟩ (.int .i64 (hv f k 4))) = WN at *
      refine bodyPost_ret (v := .agg #[.int .i64 (hv f k 0), .int .i64 (hv f k 1), .int .i64 (hv f k 2), .int .i64 (hv f k 3), .int .i64 (hv f k 4)]) (by simp [results, Tryz.results62, go_sem, v0, v1, v2, v3, v4]) rfl ⟨by rw [HV.out], ?_⟩
      exact Below.trans hkE (hTS.toBelow (n := w.heap.size) (by rintro b rfl; omega) hkE.size)
end Go.Proofs.YthgfbokfaidklaaGreatDoor
