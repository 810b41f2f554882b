/- OrganTurn's law, for every book and numbers. No conditions but what the book and the laid variables hold. -/
import Derived.Test.YthgfbokfaidklaaGreatDoorGH
import Derived.ChangeKeysEq
import Derived.Laws.StructEq
import Derived.Test.YthgfbokfaidklaaGreatDoorGE
import Derived.Test.YthgfbokfaidklaaGreatDoorGD
import Derived.Test.YthgfbokfaidklaaGreatDoorST
set_option linter.all false
set_option linter.all false
namespace Go.Proofs.YthgfbokfaidklaaGreatDoor
open Go.RowKit Go.Sort Go.Rg
set_option maxRecDepth 100000
set_option maxHeartbeats 4000000
attribute [local go_sem] Oper.semAt_some

theorem eqH (a0 a1 a2 a3 a4 : Int) (w : World) : (Op.equalIn 10000 117 (.agg #[.int .i64 a0, .int .i64 a1, .int .i64 a2, .int .i64 a3, .int .i64 a4]) (.agg #[.int .i64 (-61), .int .i64 (-61), .int .i64 (-61), .int .i64 (-61), .int .i64 (-61)])).run Tryz.prog w = .ok (a0 == -61 && (a1 == -61 && (a2 == -61 && (a3 == -61 && a4 == -61)))) w := by
  have hu : Tryz.prog.underlying 117 = some (.array 5 3) := by kernel_rfl
  obtain ⟨i, hi⟩ : ∃ i, Tryz.prog.info? 3 = some i := by
    cases h : Tryz.prog.info? 3 with
    | some i => exact ⟨i, rfl⟩
    | none => have := infoI; rw [h] at this; cases this
  have hc : Tryz.prog.cellsOf 3 = 1 := by kernel_rfl
  have p0 : ∀ (x0 x1 x2 x3 x4 : Value) (w : World), (part 3 #[x0, x1, x2, x3, x4] 0).run Tryz.prog w = .ok x0 w := fun _ _ _ _ _ _ => by kernel_rfl
  have p1 : ∀ (x0 x1 x2 x3 x4 : Value) (w : World), (part 3 #[x0, x1, x2, x3, x4] 1).run Tryz.prog w = .ok x1 w := fun _ _ _ _ _ _ => by kernel_rfl
  have p2 : ∀ (x0 x1 x2 x3 x4 : Value) (w : World), (part 3 #[x0, x1, x2, x3, x4] 2).run Tryz.prog w = .ok x2 w := fun _ _ _ _ _ _ => by kernel_rfl
  have p3 : ∀ (x0 x1 x2 x3 x4 : Value) (w : World), (part 3 #[x0, x1, x2, x3, x4] 3).run Tryz.prog w = .ok x3 w := fun _ _ _ _ _ _ => by kernel_rfl
  have p4 : ∀ (x0 x1 x2 x3 x4 : Value) (w : World), (part 3 #[x0, x1, x2, x3, x4] 4).run Tryz.prog w = .ok x4 w := fun _ _ _ _ _ _ => by kernel_rfl
  have hq : ∀ (a b : Int) (w : World), (Op.equalIn 9999 3 (.int .i64 a) (.int .i64 b)).run Tryz.prog w = .ok (a == b) w := fun a b w => run_equalIn_int w 9998 _ .i64 .i64 a b Tryz.underlying3
  rw [show (10000 : Nat) = 9999 + 1 from rfl, run_equalIn_array w 9999 _ _ hu hi, hc]
  simp only [show List.range 5 = [0, 1, 2, 3, 4] from rfl, Op.eqItems, Sem.run_bind, Nat.mul_one, p0, p1, p2, p3, p4, hq, Result.andThen_ok]
  rcases h0 : (a0 == -61) with _ | _ <;> rcases h1 : (a1 == -61) with _ | _ <;> rcases h2 : (a2 == -61) with _ | _ <;> rcases h3 : (a3 == -61) with _ | _ <;> rcases h4 : (a4 == -61) with _ | _ <;> simp only [p0, p1, p2, p3, p4, hq, h0, h1, h2, h3, h4, Result.andThen_ok, Bool.not_true, Bool.not_false, if_true, Bool.false_eq_true, if_false, Sem.run_pure, Bool.and_true, Bool.and_false, Bool.true_and, Bool.false_and, Bool.and_self, Sem.run_bind]
/-- are all heights those that stand for nothing -/
def noneB (f : Fm) (P : Nat) : Bool := hv f P 0 == -61 && (hv f P 1 == -61 && (hv f P 2 == -61 && (hv f P 3 == -61 && hv f P 4 == -61)))
def canR (f : Fm) (P : Nat) : Bool := diagB f P && !noneB f P
theorem canR_diag {f : Fm} {P : Nat} (h : canR f P = true) : ∀ p, p < P → 0 ≤ f p p := by
  simp only [canR, diagB, Bool.and_eq_true, List.all_eq_true, List.mem_range, decide_eq_true_eq] at h
  exact h.1

theorem oCan_any (X : OBook) (P bm : Nat) (l : List OSlot) (f : Fm) (w : World) (h : BoundsAt w bm l f) (hn : ONothing w) (hf : LowF f) (hP : X.pipes = (P : Int)) (hP5 : 1 ≤ P ∧ P ≤ 5) :
    Calls Tryz.prog 54 #[.agg #[.int .i64 X.pipes, .slice X.tp X.tunes.length X.tcap, .slice X.fp X.forks.length X.fcap, .slice X.p X.B.boys.length X.cap, .int .i64 X.B.weeks, .slice X.q X.B.trials.length X.capt, .map (some bm)]] w fun e w' => e = .returned (.bool (canR f P)) ∧ Kept w w' := by
  have hk0 : Kept w (w.alloc (Obj.cells #[.int .i64 X.pipes, .slice X.tp X.tunes.length X.tcap, .slice X.fp X.forks.length X.fcap, .slice X.p X.B.boys.length X.cap, .int .i64 X.B.weeks, .slice X.q X.B.trials.length X.capt, .map (some bm)] 76)) := kept_alloc (kept_refl _) _
  have HHI := Lib.hid (fun V (kk : Kept w V) => oHighest_any X P bm l f V (h.kept kk) (hn.kept kk) hf hP hP5)
  have x0 : (w.alloc (Obj.cells #[.int .i64 X.pipes, .slice X.tp X.tunes.length X.tcap, .slice X.fp X.forks.length X.fcap, .slice X.p X.B.boys.length X.cap, .int .i64 X.B.weeks, .slice X.q X.B.trials.length X.capt, .map (some bm)] 76)).cell? ⟨w.heap.size, 0, none⟩ = some (.int .i64 X.pipes) := by go_simp
  have x1 : (w.alloc (Obj.cells #[.int .i64 X.pipes, .slice X.tp X.tunes.length X.tcap, .slice X.fp X.forks.length X.fcap, .slice X.p X.B.boys.length X.cap, .int .i64 X.B.weeks, .slice X.q X.B.trials.length X.capt, .map (some bm)] 76)).cell? ⟨w.heap.size, 1, none⟩ = some (.slice X.tp X.tunes.length X.tcap) := by go_simp
  have x2 : (w.alloc (Obj.cells #[.int .i64 X.pipes, .slice X.tp X.tunes.length X.tcap, .slice X.fp X.forks.length X.fcap, .slice X.p X.B.boys.length X.cap, .int .i64 X.B.weeks, .slice X.q X.B.trials.length X.capt, .map (some bm)] 76)).cell? ⟨w.heap.size, 2, none⟩ = some (.slice X.fp X.forks.length X.fcap) := by go_simp
  have x3 : (w.alloc (Obj.cells #[.int .i64 X.pipes, .slice X.tp X.tunes.length X.tcap, .slice X.fp X.forks.length X.fcap, .slice X.p X.B.boys.length X.cap, .int .i64 X.B.weeks, .slice X.q X.B.trials.length X.capt, .map (some bm)] 76)).cell? ⟨w.heap.size, 3, none⟩ = some (.slice X.p X.B.boys.length X.cap) := by go_simp
  have x4 : (w.alloc (Obj.cells #[.int .i64 X.pipes, .slice X.tp X.tunes.length X.tcap, .slice X.fp X.forks.length X.fcap, .slice X.p X.B.boys.length X.cap, .int .i64 X.B.weeks, .slice X.q X.B.trials.length X.capt, .map (some bm)] 76)).cell? ⟨w.heap.size, 4, none⟩ = some (.int .i64 X.B.weeks) := by go_simp
  have x5 : (w.alloc (Obj.cells #[.int .i64 X.pipes, .slice X.tp X.tunes.length X.tcap, .slice X.fp X.forks.length X.fcap, .slice X.p X.B.boys.length X.cap, .int .i64 X.B.weeks, .slice X.q X.B.trials.length X.capt, .map (some bm)] 76)).cell? ⟨w.heap.size, 5, none⟩ = some (.slice X.q X.B.trials.length X.capt) := by go_simp
  have x6 : (w.alloc (Obj.cells #[.int .i64 X.pipes, .slice X.tp X.tunes.length X.tcap, .slice X.fp X.forks.length X.fcap, .slice X.p X.B.boys.length X.cap, .int .i64 X.B.weeks, .slice X.q X.B.trials.length X.capt, .map (some bm)] 76)).cell? ⟨w.heap.size, 6, none⟩ = some (.map (some bm)) := by go_simp
  have n0 := kcell hk0 (hn 0 (by omega))
  have n1 := kcell hk0 (hn 1 (by omega))
  have n2 := kcell hk0 (hn 2 (by omega))
  have n3 := kcell hk0 (hn 3 (by omega))
  have n4 := kcell hk0 (hn 4 (by omega))
  clear h hn hf hP
  rcases hd : diagB f P with _ | _
  · have HV := Lib.hid (show hiVal f P = .agg #[.int .i64 (-61), .int .i64 (-61), .int .i64 (-61), .int .i64 (-61), .int .i64 (-61)] by unfold hiVal; rw [hd]; rfl)
    have HR := Lib.hid (show canR f P = false by simp [canR, hd]); clear hd
    rw [HV.out] at HHI
    have hE := fun V => eqH (-61) (-61) (-61) (-61) (-61) V
    simp only [beq_self_eq_true, Bool.and_self] at hE
    go_enter Tryz.func54, Tryz.ntmps54
    go_wp2_with fail
    generalize (w.alloc (Obj.cells #[.int .i64 X.pipes, .slice X.tp X.tunes.length X.tcap, .slice X.fp X.forks.length X.fcap, .slice X.p X.B.boys.length X.cap, .int .i64 X.B.weeks, .slice X.q X.B.trials.length X.capt, .map (some bm)] 76)) = W0 at *
    have HHW := Lib.hid (fun d os => Calls.regrown_of (HHI.out (grow (redrawn W0 d) os) (kept_trans hk0 (below_regrown W0 d os))))
    have f0 := cell_regrown x0
    have f1 := cell_regrown x1
    have f2 := cell_regrown x2
    have f3 := cell_regrown x3
    have f4 := cell_regrown x4
    have f5 := cell_regrown x5
    have f6 := cell_regrown x6
    have g0 := cell_regrown n0
    have g1 := cell_regrown n1
    have g2 := cell_regrown n2
    have g3 := cell_regrown n3
    have g4 := cell_regrown n4
    refine wp_region_quiet_below (by kernel_rfl) (by kernel_rfl) ?_
    repeat (any_goals (first | go_big_quiet_skip | quiet_step (first | with_reducible exact HHW.out _ _)))
    refine wpQuiet_nil ?_
    intro _ hw'
    obtain ⟨⟨dq, osq⟩, hw''⟩ := hw'
    subst hw''
    have kQ := below_regrown W0 dq osq
    go_wp2_with fail
    go_ret
    exact ⟨by rw [HR.out]; rfl, kept_trans hk0 kQ⟩
  · have HV := Lib.hid (show hiVal f P = .agg #[.int .i64 (hv f P 0), .int .i64 (hv f P 1), .int .i64 (hv f P 2), .int .i64 (hv f P 3), .int .i64 (hv f P 4)] by unfold hiVal; rw [hd]; rfl)
    rw [HV.out] at HHI
    rcases hb : noneB f P with _ | _
    all_goals
      have HR := Lib.hid (show canR f P = !(noneB f P) by simp [canR, hd])
      have hE := fun V => (eqH (hv f P 0) (hv f P 1) (hv f P 2) (hv f P 3) (hv f P 4) V).trans (by rw [show (hv f P 0 == -61 && (hv f P 1 == -61 && (hv f P 2 == -61 && (hv f P 3 == -61 && hv f P 4 == -61)))) = _ from hb])
      rw [hb] at HR
      clear hb hd
      go_enter Tryz.func54, Tryz.ntmps54
      go_wp2_with fail
      generalize (w.alloc (Obj.cells #[.int .i64 X.pipes, .slice X.tp X.tunes.length X.tcap, .slice X.fp X.forks.length X.fcap, .slice X.p X.B.boys.length X.cap, .int .i64 X.B.weeks, .slice X.q X.B.trials.length X.capt, .map (some bm)] 76)) = W0 at *
      have HHW := Lib.hid (fun d os => Calls.regrown_of (HHI.out (grow (redrawn W0 d) os) (kept_trans hk0 (below_regrown W0 d os))))
      have f0 := cell_regrown x0
      have f1 := cell_regrown x1
      have f2 := cell_regrown x2
      have f3 := cell_regrown x3
      have f4 := cell_regrown x4
      have f5 := cell_regrown x5
      have f6 := cell_regrown x6
      have g0 := cell_regrown n0
      have g1 := cell_regrown n1
      have g2 := cell_regrown n2
      have g3 := cell_regrown n3
      have g4 := cell_regrown n4
      refine wp_region_quiet_below (by kernel_rfl) (by kernel_rfl) ?_
      repeat (any_goals (first | go_big_quiet_skip | quiet_step (first | with_reducible exact HHW.out _ _)))
      refine wpQuiet_nil ?_
      intro _ hw'
      obtain ⟨⟨dq, osq⟩, hw''⟩ := hw'
      subst hw''
      have kQ := below_regrown W0 dq osq
      go_wp2_with fail
      go_ret
      exact ⟨by rw [HR.out]; rfl, kept_trans hk0 kQ⟩

theorem oVoices_any (X : OBook) (bm : Nat) (w : World) (h : OBookAt w X) (hg : Nothing w) (hv : X.B.okB = true) :
    Calls Tryz.prog 57 #[.agg #[.int .i64 X.pipes, .slice X.tp X.tunes.length X.tcap, .slice X.fp X.forks.length X.fcap, .slice X.p X.B.boys.length X.cap, .int .i64 X.B.weeks, .slice X.q X.B.trials.length X.capt, .map (some bm)]] w fun e w' => ∃ r : Bool, e = .returned (.bool r) ∧ Kept w w' ∧ (r = true ↔ Can X.B) := by
  have hk0 : Kept w (w.alloc (Obj.cells #[.int .i64 X.pipes, .slice X.tp X.tunes.length X.tcap, .slice X.fp X.forks.length X.fcap, .slice X.p X.B.boys.length X.cap, .int .i64 X.B.weeks, .slice X.q X.B.trials.length X.capt, .map (some bm)] 76)) := kept_alloc (kept_refl _) _
  have HRI := Lib.hid (right_any X.p X.q X.cap X.capt X.B _ (h.book.kept hk0) (hg.kept hk0) hv)
  unfold Book.val at HRI
  have x0 : (w.alloc (Obj.cells #[.int .i64 X.pipes, .slice X.tp X.tunes.length X.tcap, .slice X.fp X.forks.length X.fcap, .slice X.p X.B.boys.length X.cap, .int .i64 X.B.weeks, .slice X.q X.B.trials.length X.capt, .map (some bm)] 76)).cell? ⟨w.heap.size, 0, none⟩ = some (.int .i64 X.pipes) := by go_simp
  have x1 : (w.alloc (Obj.cells #[.int .i64 X.pipes, .slice X.tp X.tunes.length X.tcap, .slice X.fp X.forks.length X.fcap, .slice X.p X.B.boys.length X.cap, .int .i64 X.B.weeks, .slice X.q X.B.trials.length X.capt, .map (some bm)] 76)).cell? ⟨w.heap.size, 1, none⟩ = some (.slice X.tp X.tunes.length X.tcap) := by go_simp
  have x2 : (w.alloc (Obj.cells #[.int .i64 X.pipes, .slice X.tp X.tunes.length X.tcap, .slice X.fp X.forks.length X.fcap, .slice X.p X.B.boys.length X.cap, .int .i64 X.B.weeks, .slice X.q X.B.trials.length X.capt, .map (some bm)] 76)).cell? ⟨w.heap.size, 2, none⟩ = some (.slice X.fp X.forks.length X.fcap) := by go_simp
  have x3 : (w.alloc (Obj.cells #[.int .i64 X.pipes, .slice X.tp X.tunes.length X.tcap, .slice X.fp X.forks.length X.fcap, .slice X.p X.B.boys.length X.cap, .int .i64 X.B.weeks, .slice X.q X.B.trials.length X.capt, .map (some bm)] 76)).cell? ⟨w.heap.size, 3, none⟩ = some (.slice X.p X.B.boys.length X.cap) := by go_simp
  have x4 : (w.alloc (Obj.cells #[.int .i64 X.pipes, .slice X.tp X.tunes.length X.tcap, .slice X.fp X.forks.length X.fcap, .slice X.p X.B.boys.length X.cap, .int .i64 X.B.weeks, .slice X.q X.B.trials.length X.capt, .map (some bm)] 76)).cell? ⟨w.heap.size, 4, none⟩ = some (.int .i64 X.B.weeks) := by go_simp
  have x5 : (w.alloc (Obj.cells #[.int .i64 X.pipes, .slice X.tp X.tunes.length X.tcap, .slice X.fp X.forks.length X.fcap, .slice X.p X.B.boys.length X.cap, .int .i64 X.B.weeks, .slice X.q X.B.trials.length X.capt, .map (some bm)] 76)).cell? ⟨w.heap.size, 5, none⟩ = some (.slice X.q X.B.trials.length X.capt) := by go_simp
  have x6 : (w.alloc (Obj.cells #[.int .i64 X.pipes, .slice X.tp X.tunes.length X.tcap, .slice X.fp X.forks.length X.fcap, .slice X.p X.B.boys.length X.cap, .int .i64 X.B.weeks, .slice X.q X.B.trials.length X.capt, .map (some bm)] 76)).cell? ⟨w.heap.size, 6, none⟩ = some (.map (some bm)) := by go_simp
  clear h hg hv
  go_enter Tryz.func57, Tryz.ntmps57
  go_wp2_with fail
  with_reducible refine HRI.out.mono ?_
  rintro e w' ⟨r, rfl, hk, hr⟩
  have HR := Lib.hid hr; clear hr
  go_wp2_with fail
  go_ret
  exact ⟨r, rfl, kept_trans hk0 hk, HR.out⟩

def OpenO (X : OBook) (P n : Nat) (v : Value) (err : Int) (C : World) : Prop :=
  (err = 0 ∧ (Can X.B ∧ canR (loftF P X) P = true) ∧ ∃ bm l, v = .agg #[.int .i64 X.pipes, .slice X.tp X.tunes.length X.tcap, .slice X.fp X.forks.length X.fcap, .slice X.p X.B.boys.length X.cap, .int .i64 X.B.weeks, .slice X.q X.B.trials.length X.capt, .map (some bm)] ∧ BoundsAt C bm l (loftF P X) ∧ n ≤ bm) ∨ (err = 82 ∧ ¬ (Can X.B ∧ canR (loftF P X) P = true) ∧ v = .agg #[.int .i64 0, .slice none 0 0, .slice none 0 0, .slice none 0 0, .int .i64 0, .slice none 0 0, .map none])
set_option maxHeartbeats 8000000 in
theorem oOpen_any (X : OBook) (P : Nat) (w : World) (h : OBookAt w X) (hg : Nothing w) (hn : ONothing w) (hok : X.okB = true) (hP : X.pipes = (P : Int)) :
    Calls Tryz.prog 31 #[.agg #[.int .i64 X.pipes, .slice X.tp X.tunes.length X.tcap, .slice X.fp X.forks.length X.fcap, .slice X.p X.B.boys.length X.cap, .int .i64 X.B.weeks, .slice X.q X.B.trials.length X.capt], .bool true] w fun e C => ∃ v err, e = .returned (.tuple #[v, .int .i64 err]) ∧ Kept w C ∧ OpenO X P w.heap.size v err C := by
  obtain ⟨hp, _, _, _, _, hvok⟩ := okO_parts hok
  have hP5 : 1 ≤ P ∧ P ≤ 5 := by omega
  have HCH := Lib.hid (fun V (kk : Kept w V) => (show Calls Tryz.prog 23 #[.agg #[.int .i64 X.pipes, .slice X.tp X.tunes.length X.tcap, .slice X.fp X.forks.length X.fcap, .slice X.p X.B.boys.length X.cap, .int .i64 X.B.weeks, .slice X.q X.B.trials.length X.capt]] V fun e w' => e = .returned (.int .i64 0) ∧ Kept V w' by
    have := oCheck_any X V (h.kept kk)
    rw [hok, if_pos rfl] at this
    exact this))
  have HNL := Lib.hid (fun V (kk : Kept w V) => newLoft_any X P V (h.kept kk) hok hP)
  have HCB := Lib.hid (fun bm l V (kk : Kept w V) (hb : BoundsAt V bm l (loftF P X)) => oCan_any X P bm l (loftF P X) V hb (hn.kept kk) (loft_low hok hP hP5.2) hP hP5)
  have HVC := Lib.hid (fun bm V (kk : Kept w V) => oVoices_any X bm V (h.kept kk) (hg.kept kk) hvok)
  have hk0 : Kept w ((w.alloc (Obj.cells #[.int .i64 X.pipes, .slice X.tp X.tunes.length X.tcap, .slice X.fp X.forks.length X.fcap, .slice X.p X.B.boys.length X.cap, .int .i64 X.B.weeks, .slice X.q X.B.trials.length X.capt] 29)).alloc (Obj.cells #[.int .i64 0, .slice none 0 0, .slice none 0 0, .slice none 0 0, .int .i64 0, .slice none 0 0, .map none] 76)) := kept_alloc (kept_alloc (kept_refl _) _) _
  have x0 : ((w.alloc (Obj.cells #[.int .i64 X.pipes, .slice X.tp X.tunes.length X.tcap, .slice X.fp X.forks.length X.fcap, .slice X.p X.B.boys.length X.cap, .int .i64 X.B.weeks, .slice X.q X.B.trials.length X.capt] 29)).alloc (Obj.cells #[.int .i64 0, .slice none 0 0, .slice none 0 0, .slice none 0 0, .int .i64 0, .slice none 0 0, .map none] 76)).cell? ⟨w.heap.size, 0, none⟩ = some (.int .i64 X.pipes) := by go_simp
  have x1 : ((w.alloc (Obj.cells #[.int .i64 X.pipes, .slice X.tp X.tunes.length X.tcap, .slice X.fp X.forks.length X.fcap, .slice X.p X.B.boys.length X.cap, .int .i64 X.B.weeks, .slice X.q X.B.trials.length X.capt] 29)).alloc (Obj.cells #[.int .i64 0, .slice none 0 0, .slice none 0 0, .slice none 0 0, .int .i64 0, .slice none 0 0, .map none] 76)).cell? ⟨w.heap.size, 1, none⟩ = some (.slice X.tp X.tunes.length X.tcap) := by go_simp
  have x2 : ((w.alloc (Obj.cells #[.int .i64 X.pipes, .slice X.tp X.tunes.length X.tcap, .slice X.fp X.forks.length X.fcap, .slice X.p X.B.boys.length X.cap, .int .i64 X.B.weeks, .slice X.q X.B.trials.length X.capt] 29)).alloc (Obj.cells #[.int .i64 0, .slice none 0 0, .slice none 0 0, .slice none 0 0, .int .i64 0, .slice none 0 0, .map none] 76)).cell? ⟨w.heap.size, 2, none⟩ = some (.slice X.fp X.forks.length X.fcap) := by go_simp
  have x3 : ((w.alloc (Obj.cells #[.int .i64 X.pipes, .slice X.tp X.tunes.length X.tcap, .slice X.fp X.forks.length X.fcap, .slice X.p X.B.boys.length X.cap, .int .i64 X.B.weeks, .slice X.q X.B.trials.length X.capt] 29)).alloc (Obj.cells #[.int .i64 0, .slice none 0 0, .slice none 0 0, .slice none 0 0, .int .i64 0, .slice none 0 0, .map none] 76)).cell? ⟨w.heap.size, 3, none⟩ = some (.slice X.p X.B.boys.length X.cap) := by go_simp
  have x4 : ((w.alloc (Obj.cells #[.int .i64 X.pipes, .slice X.tp X.tunes.length X.tcap, .slice X.fp X.forks.length X.fcap, .slice X.p X.B.boys.length X.cap, .int .i64 X.B.weeks, .slice X.q X.B.trials.length X.capt] 29)).alloc (Obj.cells #[.int .i64 0, .slice none 0 0, .slice none 0 0, .slice none 0 0, .int .i64 0, .slice none 0 0, .map none] 76)).cell? ⟨w.heap.size, 4, none⟩ = some (.int .i64 X.B.weeks) := by go_simp
  have x5 : ((w.alloc (Obj.cells #[.int .i64 X.pipes, .slice X.tp X.tunes.length X.tcap, .slice X.fp X.forks.length X.fcap, .slice X.p X.B.boys.length X.cap, .int .i64 X.B.weeks, .slice X.q X.B.trials.length X.capt] 29)).alloc (Obj.cells #[.int .i64 0, .slice none 0 0, .slice none 0 0, .slice none 0 0, .int .i64 0, .slice none 0 0, .map none] 76)).cell? ⟨w.heap.size, 5, none⟩ = some (.slice X.q X.B.trials.length X.capt) := by go_simp
  have s0 : ((w.alloc (Obj.cells #[.int .i64 X.pipes, .slice X.tp X.tunes.length X.tcap, .slice X.fp X.forks.length X.fcap, .slice X.p X.B.boys.length X.cap, .int .i64 X.B.weeks, .slice X.q X.B.trials.length X.capt] 29)).alloc (Obj.cells #[.int .i64 0, .slice none 0 0, .slice none 0 0, .slice none 0 0, .int .i64 0, .slice none 0 0, .map none] 76)).cell? ⟨w.heap.size + 1, 0, none⟩ = some (.int .i64 0) := by go_simp
  have sf0 : ((w.alloc (Obj.cells #[.int .i64 X.pipes, .slice X.tp X.tunes.length X.tcap, .slice X.fp X.forks.length X.fcap, .slice X.p X.B.boys.length X.cap, .int .i64 X.B.weeks, .slice X.q X.B.trials.length X.capt] 29)).alloc (Obj.cells #[.int .i64 0, .slice none 0 0, .slice none 0 0, .slice none 0 0, .int .i64 0, .slice none 0 0, .map none] 76)).frozen? ⟨w.heap.size + 1, 0, none⟩ = false := by go_simp
  have s1 : ((w.alloc (Obj.cells #[.int .i64 X.pipes, .slice X.tp X.tunes.length X.tcap, .slice X.fp X.forks.length X.fcap, .slice X.p X.B.boys.length X.cap, .int .i64 X.B.weeks, .slice X.q X.B.trials.length X.capt] 29)).alloc (Obj.cells #[.int .i64 0, .slice none 0 0, .slice none 0 0, .slice none 0 0, .int .i64 0, .slice none 0 0, .map none] 76)).cell? ⟨w.heap.size + 1, 1, none⟩ = some (.slice none 0 0) := by go_simp
  have sf1 : ((w.alloc (Obj.cells #[.int .i64 X.pipes, .slice X.tp X.tunes.length X.tcap, .slice X.fp X.forks.length X.fcap, .slice X.p X.B.boys.length X.cap, .int .i64 X.B.weeks, .slice X.q X.B.trials.length X.capt] 29)).alloc (Obj.cells #[.int .i64 0, .slice none 0 0, .slice none 0 0, .slice none 0 0, .int .i64 0, .slice none 0 0, .map none] 76)).frozen? ⟨w.heap.size + 1, 1, none⟩ = false := by go_simp
  have s2 : ((w.alloc (Obj.cells #[.int .i64 X.pipes, .slice X.tp X.tunes.length X.tcap, .slice X.fp X.forks.length X.fcap, .slice X.p X.B.boys.length X.cap, .int .i64 X.B.weeks, .slice X.q X.B.trials.length X.capt] 29)).alloc (Obj.cells #[.int .i64 0, .slice none 0 0, .slice none 0 0, .slice none 0 0, .int .i64 0, .slice none 0 0, .map none] 76)).cell? ⟨w.heap.size + 1, 2, none⟩ = some (.slice none 0 0) := by go_simp
  have sf2 : ((w.alloc (Obj.cells #[.int .i64 X.pipes, .slice X.tp X.tunes.length X.tcap, .slice X.fp X.forks.length X.fcap, .slice X.p X.B.boys.length X.cap, .int .i64 X.B.weeks, .slice X.q X.B.trials.length X.capt] 29)).alloc (Obj.cells #[.int .i64 0, .slice none 0 0, .slice none 0 0, .slice none 0 0, .int .i64 0, .slice none 0 0, .map none] 76)).frozen? ⟨w.heap.size + 1, 2, none⟩ = false := by go_simp
  have s3 : ((w.alloc (Obj.cells #[.int .i64 X.pipes, .slice X.tp X.tunes.length X.tcap, .slice X.fp X.forks.length X.fcap, .slice X.p X.B.boys.length X.cap, .int .i64 X.B.weeks, .slice X.q X.B.trials.length X.capt] 29)).alloc (Obj.cells #[.int .i64 0, .slice none 0 0, .slice none 0 0, .slice none 0 0, .int .i64 0, .slice none 0 0, .map none] 76)).cell? ⟨w.heap.size + 1, 3, none⟩ = some (.slice none 0 0) := by go_simp
  have sf3 : ((w.alloc (Obj.cells #[.int .i64 X.pipes, .slice X.tp X.tunes.length X.tcap, .slice X.fp X.forks.length X.fcap, .slice X.p X.B.boys.length X.cap, .int .i64 X.B.weeks, .slice X.q X.B.trials.length X.capt] 29)).alloc (Obj.cells #[.int .i64 0, .slice none 0 0, .slice none 0 0, .slice none 0 0, .int .i64 0, .slice none 0 0, .map none] 76)).frozen? ⟨w.heap.size + 1, 3, none⟩ = false := by go_simp
  have s4 : ((w.alloc (Obj.cells #[.int .i64 X.pipes, .slice X.tp X.tunes.length X.tcap, .slice X.fp X.forks.length X.fcap, .slice X.p X.B.boys.length X.cap, .int .i64 X.B.weeks, .slice X.q X.B.trials.length X.capt] 29)).alloc (Obj.cells #[.int .i64 0, .slice none 0 0, .slice none 0 0, .slice none 0 0, .int .i64 0, .slice none 0 0, .map none] 76)).cell? ⟨w.heap.size + 1, 4, none⟩ = some (.int .i64 0) := by go_simp
  have sf4 : ((w.alloc (Obj.cells #[.int .i64 X.pipes, .slice X.tp X.tunes.length X.tcap, .slice X.fp X.forks.length X.fcap, .slice X.p X.B.boys.length X.cap, .int .i64 X.B.weeks, .slice X.q X.B.trials.length X.capt] 29)).alloc (Obj.cells #[.int .i64 0, .slice none 0 0, .slice none 0 0, .slice none 0 0, .int .i64 0, .slice none 0 0, .map none] 76)).frozen? ⟨w.heap.size + 1, 4, none⟩ = false := by go_simp
  have s5 : ((w.alloc (Obj.cells #[.int .i64 X.pipes, .slice X.tp X.tunes.length X.tcap, .slice X.fp X.forks.length X.fcap, .slice X.p X.B.boys.length X.cap, .int .i64 X.B.weeks, .slice X.q X.B.trials.length X.capt] 29)).alloc (Obj.cells #[.int .i64 0, .slice none 0 0, .slice none 0 0, .slice none 0 0, .int .i64 0, .slice none 0 0, .map none] 76)).cell? ⟨w.heap.size + 1, 5, none⟩ = some (.slice none 0 0) := by go_simp
  have sf5 : ((w.alloc (Obj.cells #[.int .i64 X.pipes, .slice X.tp X.tunes.length X.tcap, .slice X.fp X.forks.length X.fcap, .slice X.p X.B.boys.length X.cap, .int .i64 X.B.weeks, .slice X.q X.B.trials.length X.capt] 29)).alloc (Obj.cells #[.int .i64 0, .slice none 0 0, .slice none 0 0, .slice none 0 0, .int .i64 0, .slice none 0 0, .map none] 76)).frozen? ⟨w.heap.size + 1, 5, none⟩ = false := by go_simp
  have s6 : ((w.alloc (Obj.cells #[.int .i64 X.pipes, .slice X.tp X.tunes.length X.tcap, .slice X.fp X.forks.length X.fcap, .slice X.p X.B.boys.length X.cap, .int .i64 X.B.weeks, .slice X.q X.B.trials.length X.capt] 29)).alloc (Obj.cells #[.int .i64 0, .slice none 0 0, .slice none 0 0, .slice none 0 0, .int .i64 0, .slice none 0 0, .map none] 76)).cell? ⟨w.heap.size + 1, 6, none⟩ = some (.map none) := by go_simp
  have sf6 : ((w.alloc (Obj.cells #[.int .i64 X.pipes, .slice X.tp X.tunes.length X.tcap, .slice X.fp X.forks.length X.fcap, .slice X.p X.B.boys.length X.cap, .int .i64 X.B.weeks, .slice X.q X.B.trials.length X.capt] 29)).alloc (Obj.cells #[.int .i64 0, .slice none 0 0, .slice none 0 0, .slice none 0 0, .int .i64 0, .slice none 0 0, .map none] 76)).frozen? ⟨w.heap.size + 1, 6, none⟩ = false := by go_simp
  clear h hg hn hok hvok hP hp
  go_enter Tryz.func31, Tryz.ntmps31
  go_wp2_with fail
  generalize ((w.alloc (Obj.cells #[.int .i64 X.pipes, .slice X.tp X.tunes.length X.tcap, .slice X.fp X.forks.length X.fcap, .slice X.p X.B.boys.length X.cap, .int .i64 X.B.weeks, .slice X.q X.B.trials.length X.capt] 29)).alloc (Obj.cells #[.int .i64 0, .slice none 0 0, .slice none 0 0, .slice none 0 0, .int .i64 0, .slice none 0 0, .map none] 76)) = W0 at *
  generalize hsb : w.heap.size + 1 = sb at *
  with_reducible refine (HCH.out _ hk0).mono ?_
  rintro e w1 ⟨rfl, hk1⟩
  have kk1 := kept_trans hk0 hk1
  replace x0 := kcell hk1 x0
  replace x1 := kcell hk1 x1
  replace x2 := kcell hk1 x2
  replace x3 := kcell hk1 x3
  replace x4 := kcell hk1 x4
  replace x5 := kcell hk1 x5
  replace sf0 := ((kturns hk1 (fun _ => False)).frozen (Go.Ai.lt_of_cell s0) (fun h => h)).trans sf0
  replace s0 := kcell hk1 s0
  replace sf1 := ((kturns hk1 (fun _ => False)).frozen (Go.Ai.lt_of_cell s1) (fun h => h)).trans sf1
  replace s1 := kcell hk1 s1
  replace sf2 := ((kturns hk1 (fun _ => False)).frozen (Go.Ai.lt_of_cell s2) (fun h => h)).trans sf2
  replace s2 := kcell hk1 s2
  replace sf3 := ((kturns hk1 (fun _ => False)).frozen (Go.Ai.lt_of_cell s3) (fun h => h)).trans sf3
  replace s3 := kcell hk1 s3
  replace sf4 := ((kturns hk1 (fun _ => False)).frozen (Go.Ai.lt_of_cell s4) (fun h => h)).trans sf4
  replace s4 := kcell hk1 s4
  replace sf5 := ((kturns hk1 (fun _ => False)).frozen (Go.Ai.lt_of_cell s5) (fun h => h)).trans sf5
  replace s5 := kcell hk1 s5
  replace sf6 := ((kturns hk1 (fun _ => False)).frozen (Go.Ai.lt_of_cell s6) (fun h => h)).trans sf6
  replace s6 := kcell hk1 s6
  go_wp2_with fail
  with_reducible refine (HNL.out _ kk1).mono ?_
  rintro e w2 ⟨bm, l, rfl, hk2, hB, hbm⟩
  have kk2 := kept_trans kk1 hk2
  have HNE := Lib.hid (show ¬ bm = sb by have := Go.Ai.lt_of_cell s0; omega)
  replace x0 := kcell hk2 x0
  replace x1 := kcell hk2 x1
  replace x2 := kcell hk2 x2
  replace x3 := kcell hk2 x3
  replace x4 := kcell hk2 x4
  replace x5 := kcell hk2 x5
  replace sf0 := ((kturns hk2 (fun _ => False)).frozen (Go.Ai.lt_of_cell s0) (fun h => h)).trans sf0
  replace s0 := kcell hk2 s0
  replace sf1 := ((kturns hk2 (fun _ => False)).frozen (Go.Ai.lt_of_cell s1) (fun h => h)).trans sf1
  replace s1 := kcell hk2 s1
  replace sf2 := ((kturns hk2 (fun _ => False)).frozen (Go.Ai.lt_of_cell s2) (fun h => h)).trans sf2
  replace s2 := kcell hk2 s2
  replace sf3 := ((kturns hk2 (fun _ => False)).frozen (Go.Ai.lt_of_cell s3) (fun h => h)).trans sf3
  replace s3 := kcell hk2 s3
  replace sf4 := ((kturns hk2 (fun _ => False)).frozen (Go.Ai.lt_of_cell s4) (fun h => h)).trans sf4
  replace s4 := kcell hk2 s4
  replace sf5 := ((kturns hk2 (fun _ => False)).frozen (Go.Ai.lt_of_cell s5) (fun h => h)).trans sf5
  replace s5 := kcell hk2 s5
  replace sf6 := ((kturns hk2 (fun _ => False)).frozen (Go.Ai.lt_of_cell s6) (fun h => h)).trans sf6
  replace s6 := kcell hk2 s6
  have hbb := hB.lt
  have hk3 : Kept w2 (w2.alloc (Obj.cells #[.int .i64 X.pipes, .slice X.tp X.tunes.length X.tcap, .slice X.fp X.forks.length X.fcap, .slice X.p X.B.boys.length X.cap, .int .i64 X.B.weeks, .slice X.q X.B.trials.length X.capt, .map (some bm)] 76)) := kept_alloc (kept_refl _) _
  have b0 : (w2.alloc (Obj.cells #[.int .i64 X.pipes, .slice X.tp X.tunes.length X.tcap, .slice X.fp X.forks.length X.fcap, .slice X.p X.B.boys.length X.cap, .int .i64 X.B.weeks, .slice X.q X.B.trials.length X.capt, .map (some bm)] 76)).cell? ⟨w2.heap.size, 0, none⟩ = some (.int .i64 X.pipes) := by go_simp
  have b1 : (w2.alloc (Obj.cells #[.int .i64 X.pipes, .slice X.tp X.tunes.length X.tcap, .slice X.fp X.forks.length X.fcap, .slice X.p X.B.boys.length X.cap, .int .i64 X.B.weeks, .slice X.q X.B.trials.length X.capt, .map (some bm)] 76)).cell? ⟨w2.heap.size, 1, none⟩ = some (.slice X.tp X.tunes.length X.tcap) := by go_simp
  have b2 : (w2.alloc (Obj.cells #[.int .i64 X.pipes, .slice X.tp X.tunes.length X.tcap, .slice X.fp X.forks.length X.fcap, .slice X.p X.B.boys.length X.cap, .int .i64 X.B.weeks, .slice X.q X.B.trials.length X.capt, .map (some bm)] 76)).cell? ⟨w2.heap.size, 2, none⟩ = some (.slice X.fp X.forks.length X.fcap) := by go_simp
  have b3 : (w2.alloc (Obj.cells #[.int .i64 X.pipes, .slice X.tp X.tunes.length X.tcap, .slice X.fp X.forks.length X.fcap, .slice X.p X.B.boys.length X.cap, .int .i64 X.B.weeks, .slice X.q X.B.trials.length X.capt, .map (some bm)] 76)).cell? ⟨w2.heap.size, 3, none⟩ = some (.slice X.p X.B.boys.length X.cap) := by go_simp
  have b4 : (w2.alloc (Obj.cells #[.int .i64 X.pipes, .slice X.tp X.tunes.length X.tcap, .slice X.fp X.forks.length X.fcap, .slice X.p X.B.boys.length X.cap, .int .i64 X.B.weeks, .slice X.q X.B.trials.length X.capt, .map (some bm)] 76)).cell? ⟨w2.heap.size, 4, none⟩ = some (.int .i64 X.B.weeks) := by go_simp
  have b5 : (w2.alloc (Obj.cells #[.int .i64 X.pipes, .slice X.tp X.tunes.length X.tcap, .slice X.fp X.forks.length X.fcap, .slice X.p X.B.boys.length X.cap, .int .i64 X.B.weeks, .slice X.q X.B.trials.length X.capt, .map (some bm)] 76)).cell? ⟨w2.heap.size, 5, none⟩ = some (.slice X.q X.B.trials.length X.capt) := by go_simp
  have b6 : (w2.alloc (Obj.cells #[.int .i64 X.pipes, .slice X.tp X.tunes.length X.tcap, .slice X.fp X.forks.length X.fcap, .slice X.p X.B.boys.length X.cap, .int .i64 X.B.weeks, .slice X.q X.B.trials.length X.capt, .map (some bm)] 76)).cell? ⟨w2.heap.size, 6, none⟩ = some (.map (some bm)) := by go_simp
  have HB := Lib.hid (hB.kept hk3)
  have kk3 := kept_trans kk2 hk3
  replace x0 := kcell hk3 x0
  replace x1 := kcell hk3 x1
  replace x2 := kcell hk3 x2
  replace x3 := kcell hk3 x3
  replace x4 := kcell hk3 x4
  replace x5 := kcell hk3 x5
  replace sf0 := ((kturns hk3 (fun _ => False)).frozen (Go.Ai.lt_of_cell s0) (fun h => h)).trans sf0
  replace s0 := kcell hk3 s0
  replace sf1 := ((kturns hk3 (fun _ => False)).frozen (Go.Ai.lt_of_cell s1) (fun h => h)).trans sf1
  replace s1 := kcell hk3 s1
  replace sf2 := ((kturns hk3 (fun _ => False)).frozen (Go.Ai.lt_of_cell s2) (fun h => h)).trans sf2
  replace s2 := kcell hk3 s2
  replace sf3 := ((kturns hk3 (fun _ => False)).frozen (Go.Ai.lt_of_cell s3) (fun h => h)).trans sf3
  replace s3 := kcell hk3 s3
  replace sf4 := ((kturns hk3 (fun _ => False)).frozen (Go.Ai.lt_of_cell s4) (fun h => h)).trans sf4
  replace s4 := kcell hk3 s4
  replace sf5 := ((kturns hk3 (fun _ => False)).frozen (Go.Ai.lt_of_cell s5) (fun h => h)).trans sf5
  replace s5 := kcell hk3 s5
  replace sf6 := ((kturns hk3 (fun _ => False)).frozen (Go.Ai.lt_of_cell s6) (fun h => h)).trans sf6
  replace s6 := kcell hk3 s6
  have hzs := Go.Ai.lt_of_cell s0
  have hzb := Go.Ai.lt_of_cell b0
  clear hB hk1 hk2 hk3
  go_wp2_with fail
  generalize (w2.alloc (Obj.cells #[.int .i64 X.pipes, .slice X.tp X.tunes.length X.tcap, .slice X.fp X.forks.length X.fcap, .slice X.p X.B.boys.length X.cap, .int .i64 X.B.weeks, .slice X.q X.B.trials.length X.capt, .map (some bm)] 76)) = W3 at *
  generalize w2.heap.size = lb at *
  have HBM := Lib.hid hbm; clear hbm
  with_reducible refine (HCB.out bm l _ kk3 HB.out).mono ?_
  rintro e w4 ⟨rfl, hk4⟩
  have kk4 := kept_trans kk3 hk4
  replace x0 := kcell hk4 x0
  replace x1 := kcell hk4 x1
  replace x2 := kcell hk4 x2
  replace x3 := kcell hk4 x3
  replace x4 := kcell hk4 x4
  replace x5 := kcell hk4 x5
  replace sf0 := ((kturns hk4 (fun _ => False)).frozen (Go.Ai.lt_of_cell s0) (fun h => h)).trans sf0
  replace s0 := kcell hk4 s0
  replace sf1 := ((kturns hk4 (fun _ => False)).frozen (Go.Ai.lt_of_cell s1) (fun h => h)).trans sf1
  replace s1 := kcell hk4 s1
  replace sf2 := ((kturns hk4 (fun _ => False)).frozen (Go.Ai.lt_of_cell s2) (fun h => h)).trans sf2
  replace s2 := kcell hk4 s2
  replace sf3 := ((kturns hk4 (fun _ => False)).frozen (Go.Ai.lt_of_cell s3) (fun h => h)).trans sf3
  replace s3 := kcell hk4 s3
  replace sf4 := ((kturns hk4 (fun _ => False)).frozen (Go.Ai.lt_of_cell s4) (fun h => h)).trans sf4
  replace s4 := kcell hk4 s4
  replace sf5 := ((kturns hk4 (fun _ => False)).frozen (Go.Ai.lt_of_cell s5) (fun h => h)).trans sf5
  replace s5 := kcell hk4 s5
  replace sf6 := ((kturns hk4 (fun _ => False)).frozen (Go.Ai.lt_of_cell s6) (fun h => h)).trans sf6
  replace s6 := kcell hk4 s6
  replace b0 := kcell hk4 b0
  replace b1 := kcell hk4 b1
  replace b2 := kcell hk4 b2
  replace b3 := kcell hk4 b3
  replace b4 := kcell hk4 b4
  replace b5 := kcell hk4 b5
  replace b6 := kcell hk4 b6
  have HB4 := Lib.hid (HB.out.kept hk4)
  generalize hcr : canR (loftF P X) P = cr at *
  have HCR := Lib.hid hcr; clear hcr
  clear hk4 HB
  cases cr
  · have hzs := Go.Ai.lt_of_cell s0
    have hTS : Turns (fun c => c = sb) w4 (((((((w4.setCell ⟨sb, 0, none⟩ (.int .i64 0)).setCell ⟨sb, 1, none⟩ (.slice none 0 0)).setCell ⟨sb, 2, none⟩ (.slice none 0 0)).setCell ⟨sb, 3, none⟩ (.slice none 0 0)).setCell ⟨sb, 4, none⟩ (.int .i64 0)).setCell ⟨sb, 5, none⟩ (.slice none 0 0)).setCell ⟨sb, 6, none⟩ (.map none)) := (((((((Turns.refl (fun c => c = sb) w4).setCell rfl _ _).setCell rfl _ _).setCell rfl _ _).setCell rfl _ _).setCell rfl _ _).setCell rfl _ _).setCell rfl _ _
    have v0 : (((((((w4.setCell ⟨sb, 0, none⟩ (.int .i64 0)).setCell ⟨sb, 1, none⟩ (.slice none 0 0)).setCell ⟨sb, 2, none⟩ (.slice none 0 0)).setCell ⟨sb, 3, none⟩ (.slice none 0 0)).setCell ⟨sb, 4, none⟩ (.int .i64 0)).setCell ⟨sb, 5, none⟩ (.slice none 0 0)).setCell ⟨sb, 6, none⟩ (.map none)).cell? ⟨sb, 0, none⟩ = some (.int .i64 0) := by go_simp
    have v1 : (((((((w4.setCell ⟨sb, 0, none⟩ (.int .i64 0)).setCell ⟨sb, 1, none⟩ (.slice none 0 0)).setCell ⟨sb, 2, none⟩ (.slice none 0 0)).setCell ⟨sb, 3, none⟩ (.slice none 0 0)).setCell ⟨sb, 4, none⟩ (.int .i64 0)).setCell ⟨sb, 5, none⟩ (.slice none 0 0)).setCell ⟨sb, 6, none⟩ (.map none)).cell? ⟨sb, 1, none⟩ = some (.slice none 0 0) := by go_simp
    have v2 : (((((((w4.setCell ⟨sb, 0, none⟩ (.int .i64 0)).setCell ⟨sb, 1, none⟩ (.slice none 0 0)).setCell ⟨sb, 2, none⟩ (.slice none 0 0)).setCell ⟨sb, 3, none⟩ (.slice none 0 0)).setCell ⟨sb, 4, none⟩ (.int .i64 0)).setCell ⟨sb, 5, none⟩ (.slice none 0 0)).setCell ⟨sb, 6, none⟩ (.map none)).cell? ⟨sb, 2, none⟩ = some (.slice none 0 0) := by go_simp
    have v3 : (((((((w4.setCell ⟨sb, 0, none⟩ (.int .i64 0)).setCell ⟨sb, 1, none⟩ (.slice none 0 0)).setCell ⟨sb, 2, none⟩ (.slice none 0 0)).setCell ⟨sb, 3, none⟩ (.slice none 0 0)).setCell ⟨sb, 4, none⟩ (.int .i64 0)).setCell ⟨sb, 5, none⟩ (.slice none 0 0)).setCell ⟨sb, 6, none⟩ (.map none)).cell? ⟨sb, 3, none⟩ = some (.slice none 0 0) := by go_simp
    have v4 : (((((((w4.setCell ⟨sb, 0, none⟩ (.int .i64 0)).setCell ⟨sb, 1, none⟩ (.slice none 0 0)).setCell ⟨sb, 2, none⟩ (.slice none 0 0)).setCell ⟨sb, 3, none⟩ (.slice none 0 0)).setCell ⟨sb, 4, none⟩ (.int .i64 0)).setCell ⟨sb, 5, none⟩ (.slice none 0 0)).setCell ⟨sb, 6, none⟩ (.map none)).cell? ⟨sb, 4, none⟩ = some (.int .i64 0) := by go_simp
    have v5 : (((((((w4.setCell ⟨sb, 0, none⟩ (.int .i64 0)).setCell ⟨sb, 1, none⟩ (.slice none 0 0)).setCell ⟨sb, 2, none⟩ (.slice none 0 0)).setCell ⟨sb, 3, none⟩ (.slice none 0 0)).setCell ⟨sb, 4, none⟩ (.int .i64 0)).setCell ⟨sb, 5, none⟩ (.slice none 0 0)).setCell ⟨sb, 6, none⟩ (.map none)).cell? ⟨sb, 5, none⟩ = some (.slice none 0 0) := by go_simp
    have v6 : (((((((w4.setCell ⟨sb, 0, none⟩ (.int .i64 0)).setCell ⟨sb, 1, none⟩ (.slice none 0 0)).setCell ⟨sb, 2, none⟩ (.slice none 0 0)).setCell ⟨sb, 3, none⟩ (.slice none 0 0)).setCell ⟨sb, 4, none⟩ (.int .i64 0)).setCell ⟨sb, 5, none⟩ (.slice none 0 0)).setCell ⟨sb, 6, none⟩ (.map none)).cell? ⟨sb, 6, none⟩ = some (.map none) := by go_simp
    go_wp2_with fail
    generalize (((((((w4.setCell ⟨sb, 0, none⟩ (.int .i64 0)).setCell ⟨sb, 1, none⟩ (.slice none 0 0)).setCell ⟨sb, 2, none⟩ (.slice none 0 0)).setCell ⟨sb, 3, none⟩ (.slice none 0 0)).setCell ⟨sb, 4, none⟩ (.int .i64 0)).setCell ⟨sb, 5, none⟩ (.slice none 0 0)).setCell ⟨sb, 6, none⟩ (.map none)) = WN at *
    refine bodyPost_ret (v := .tuple #[.agg #[.int .i64 0, .slice none 0 0, .slice none 0 0, .slice none 0 0, .int .i64 0, .slice none 0 0, .map none], .int .i64 82]) (by simp [results, Tryz.results31, go_sem, v0, v1, v2, v3, v4, v5, v6]) rfl ⟨_, 82, rfl, ?_, ?_⟩
    · exact Below.trans kk4 (hTS.toBelow (n := w.heap.size) (by rintro b rfl; omega) kk4.size)
    · exact .inr ⟨rfl, (fun h => by have := HCR.out; rw [h.2] at this; cases this), rfl⟩
  · have hzl := Go.Ai.lt_of_cell b0
    go_wp2_with fail
    with_reducible refine (HVC.out bm _ kk4).mono ?_
    rintro e w5 ⟨r, rfl, hk5, hr⟩
    have kk5 := kept_trans kk4 hk5
    replace sf0 := ((kturns hk5 (fun _ => False)).frozen (Go.Ai.lt_of_cell s0) (fun h => h)).trans sf0
    replace s0 := kcell hk5 s0
    replace sf1 := ((kturns hk5 (fun _ => False)).frozen (Go.Ai.lt_of_cell s1) (fun h => h)).trans sf1
    replace s1 := kcell hk5 s1
    replace sf2 := ((kturns hk5 (fun _ => False)).frozen (Go.Ai.lt_of_cell s2) (fun h => h)).trans sf2
    replace s2 := kcell hk5 s2
    replace sf3 := ((kturns hk5 (fun _ => False)).frozen (Go.Ai.lt_of_cell s3) (fun h => h)).trans sf3
    replace s3 := kcell hk5 s3
    replace sf4 := ((kturns hk5 (fun _ => False)).frozen (Go.Ai.lt_of_cell s4) (fun h => h)).trans sf4
    replace s4 := kcell hk5 s4
    replace sf5 := ((kturns hk5 (fun _ => False)).frozen (Go.Ai.lt_of_cell s5) (fun h => h)).trans sf5
    replace s5 := kcell hk5 s5
    replace sf6 := ((kturns hk5 (fun _ => False)).frozen (Go.Ai.lt_of_cell s6) (fun h => h)).trans sf6
    replace s6 := kcell hk5 s6
    replace b0 := kcell hk5 b0
    replace b1 := kcell hk5 b1
    replace b2 := kcell hk5 b2
    replace b3 := kcell hk5 b3
    replace b4 := kcell hk5 b4
    replace b5 := kcell hk5 b5
    replace b6 := kcell hk5 b6
    have HB5 := Lib.hid (HB4.out.kept hk5)
    have HR := Lib.hid hr; clear hr
    have hzs := Go.Ai.lt_of_cell s0
    have hzl := Go.Ai.lt_of_cell b0
    clear hk5
    cases r
    · skip
      have hTS : Turns (fun c => c = sb) w5 (((((((w5.setCell ⟨sb, 0, none⟩ (.int .i64 0)).setCell ⟨sb, 1, none⟩ (.slice none 0 0)).setCell ⟨sb, 2, none⟩ (.slice none 0 0)).setCell ⟨sb, 3, none⟩ (.slice none 0 0)).setCell ⟨sb, 4, none⟩ (.int .i64 0)).setCell ⟨sb, 5, none⟩ (.slice none 0 0)).setCell ⟨sb, 6, none⟩ (.map none)) := (((((((Turns.refl (fun c => c = sb) w5).setCell rfl _ _).setCell rfl _ _).setCell rfl _ _).setCell rfl _ _).setCell rfl _ _).setCell rfl _ _).setCell rfl _ _
      have v0 : (((((((w5.setCell ⟨sb, 0, none⟩ (.int .i64 0)).setCell ⟨sb, 1, none⟩ (.slice none 0 0)).setCell ⟨sb, 2, none⟩ (.slice none 0 0)).setCell ⟨sb, 3, none⟩ (.slice none 0 0)).setCell ⟨sb, 4, none⟩ (.int .i64 0)).setCell ⟨sb, 5, none⟩ (.slice none 0 0)).setCell ⟨sb, 6, none⟩ (.map none)).cell? ⟨sb, 0, none⟩ = some (.int .i64 0) := by go_simp
      have v1 : (((((((w5.setCell ⟨sb, 0, none⟩ (.int .i64 0)).setCell ⟨sb, 1, none⟩ (.slice none 0 0)).setCell ⟨sb, 2, none⟩ (.slice none 0 0)).setCell ⟨sb, 3, none⟩ (.slice none 0 0)).setCell ⟨sb, 4, none⟩ (.int .i64 0)).setCell ⟨sb, 5, none⟩ (.slice none 0 0)).setCell ⟨sb, 6, none⟩ (.map none)).cell? ⟨sb, 1, none⟩ = some (.slice none 0 0) := by go_simp
      have v2 : (((((((w5.setCell ⟨sb, 0, none⟩ (.int .i64 0)).setCell ⟨sb, 1, none⟩ (.slice none 0 0)).setCell ⟨sb, 2, none⟩ (.slice none 0 0)).setCell ⟨sb, 3, none⟩ (.slice none 0 0)).setCell ⟨sb, 4, none⟩ (.int .i64 0)).setCell ⟨sb, 5, none⟩ (.slice none 0 0)).setCell ⟨sb, 6, none⟩ (.map none)).cell? ⟨sb, 2, none⟩ = some (.slice none 0 0) := by go_simp
      have v3 : (((((((w5.setCell ⟨sb, 0, none⟩ (.int .i64 0)).setCell ⟨sb, 1, none⟩ (.slice none 0 0)).setCell ⟨sb, 2, none⟩ (.slice none 0 0)).setCell ⟨sb, 3, none⟩ (.slice none 0 0)).setCell ⟨sb, 4, none⟩ (.int .i64 0)).setCell ⟨sb, 5, none⟩ (.slice none 0 0)).setCell ⟨sb, 6, none⟩ (.map none)).cell? ⟨sb, 3, none⟩ = some (.slice none 0 0) := by go_simp
      have v4 : (((((((w5.setCell ⟨sb, 0, none⟩ (.int .i64 0)).setCell ⟨sb, 1, none⟩ (.slice none 0 0)).setCell ⟨sb, 2, none⟩ (.slice none 0 0)).setCell ⟨sb, 3, none⟩ (.slice none 0 0)).setCell ⟨sb, 4, none⟩ (.int .i64 0)).setCell ⟨sb, 5, none⟩ (.slice none 0 0)).setCell ⟨sb, 6, none⟩ (.map none)).cell? ⟨sb, 4, none⟩ = some (.int .i64 0) := by go_simp
      have v5 : (((((((w5.setCell ⟨sb, 0, none⟩ (.int .i64 0)).setCell ⟨sb, 1, none⟩ (.slice none 0 0)).setCell ⟨sb, 2, none⟩ (.slice none 0 0)).setCell ⟨sb, 3, none⟩ (.slice none 0 0)).setCell ⟨sb, 4, none⟩ (.int .i64 0)).setCell ⟨sb, 5, none⟩ (.slice none 0 0)).setCell ⟨sb, 6, none⟩ (.map none)).cell? ⟨sb, 5, none⟩ = some (.slice none 0 0) := by go_simp
      have v6 : (((((((w5.setCell ⟨sb, 0, none⟩ (.int .i64 0)).setCell ⟨sb, 1, none⟩ (.slice none 0 0)).setCell ⟨sb, 2, none⟩ (.slice none 0 0)).setCell ⟨sb, 3, none⟩ (.slice none 0 0)).setCell ⟨sb, 4, none⟩ (.int .i64 0)).setCell ⟨sb, 5, none⟩ (.slice none 0 0)).setCell ⟨sb, 6, none⟩ (.map none)).cell? ⟨sb, 6, none⟩ = some (.map none) := by go_simp
      go_wp2_with fail
      generalize (((((((w5.setCell ⟨sb, 0, none⟩ (.int .i64 0)).setCell ⟨sb, 1, none⟩ (.slice none 0 0)).setCell ⟨sb, 2, none⟩ (.slice none 0 0)).setCell ⟨sb, 3, none⟩ (.slice none 0 0)).setCell ⟨sb, 4, none⟩ (.int .i64 0)).setCell ⟨sb, 5, none⟩ (.slice none 0 0)).setCell ⟨sb, 6, none⟩ (.map none)) = WN at *
      refine bodyPost_ret (v := .tuple #[.agg #[.int .i64 0, .slice none 0 0, .slice none 0 0, .slice none 0 0, .int .i64 0, .slice none 0 0, .map none], .int .i64 82]) (by simp [results, Tryz.results31, go_sem, v0, v1, v2, v3, v4, v5, v6]) rfl ⟨_, 82, rfl, ?_, ?_⟩
      · exact Below.trans kk5 (hTS.toBelow (n := w.heap.size) (by rintro b rfl; omega) kk5.size)
      · exact .inr ⟨rfl, (fun h => by have := HR.out.2 h.1; cases this), rfl⟩
    · skip
      have hTS : Turns (fun c => c = sb) w5 (((((((w5.setCell ⟨sb, 0, none⟩ (.int .i64 X.pipes)).setCell ⟨sb, 1, none⟩ (.slice X.tp X.tunes.length X.tcap)).setCell ⟨sb, 2, none⟩ (.slice X.fp X.forks.length X.fcap)).setCell ⟨sb, 3, none⟩ (.slice X.p X.B.boys.length X.cap)).setCell ⟨sb, 4, none⟩ (.int .i64 X.B.weeks)).setCell ⟨sb, 5, none⟩ (.slice X.q X.B.trials.length X.capt)).setCell ⟨sb, 6, none⟩ (.map (some bm))) := (((((((Turns.refl (fun c => c = sb) w5).setCell rfl _ _).setCell rfl _ _).setCell rfl _ _).setCell rfl _ _).setCell rfl _ _).setCell rfl _ _).setCell rfl _ _
      have v0 : (((((((w5.setCell ⟨sb, 0, none⟩ (.int .i64 X.pipes)).setCell ⟨sb, 1, none⟩ (.slice X.tp X.tunes.length X.tcap)).setCell ⟨sb, 2, none⟩ (.slice X.fp X.forks.length X.fcap)).setCell ⟨sb, 3, none⟩ (.slice X.p X.B.boys.length X.cap)).setCell ⟨sb, 4, none⟩ (.int .i64 X.B.weeks)).setCell ⟨sb, 5, none⟩ (.slice X.q X.B.trials.length X.capt)).setCell ⟨sb, 6, none⟩ (.map (some bm))).cell? ⟨sb, 0, none⟩ = some (.int .i64 X.pipes) := by go_simp
      have v1 : (((((((w5.setCell ⟨sb, 0, none⟩ (.int .i64 X.pipes)).setCell ⟨sb, 1, none⟩ (.slice X.tp X.tunes.length X.tcap)).setCell ⟨sb, 2, none⟩ (.slice X.fp X.forks.length X.fcap)).setCell ⟨sb, 3, none⟩ (.slice X.p X.B.boys.length X.cap)).setCell ⟨sb, 4, none⟩ (.int .i64 X.B.weeks)).setCell ⟨sb, 5, none⟩ (.slice X.q X.B.trials.length X.capt)).setCell ⟨sb, 6, none⟩ (.map (some bm))).cell? ⟨sb, 1, none⟩ = some (.slice X.tp X.tunes.length X.tcap) := by go_simp
      have v2 : (((((((w5.setCell ⟨sb, 0, none⟩ (.int .i64 X.pipes)).setCell ⟨sb, 1, none⟩ (.slice X.tp X.tunes.length X.tcap)).setCell ⟨sb, 2, none⟩ (.slice X.fp X.forks.length X.fcap)).setCell ⟨sb, 3, none⟩ (.slice X.p X.B.boys.length X.cap)).setCell ⟨sb, 4, none⟩ (.int .i64 X.B.weeks)).setCell ⟨sb, 5, none⟩ (.slice X.q X.B.trials.length X.capt)).setCell ⟨sb, 6, none⟩ (.map (some bm))).cell? ⟨sb, 2, none⟩ = some (.slice X.fp X.forks.length X.fcap) := by go_simp
      have v3 : (((((((w5.setCell ⟨sb, 0, none⟩ (.int .i64 X.pipes)).setCell ⟨sb, 1, none⟩ (.slice X.tp X.tunes.length X.tcap)).setCell ⟨sb, 2, none⟩ (.slice X.fp X.forks.length X.fcap)).setCell ⟨sb, 3, none⟩ (.slice X.p X.B.boys.length X.cap)).setCell ⟨sb, 4, none⟩ (.int .i64 X.B.weeks)).setCell ⟨sb, 5, none⟩ (.slice X.q X.B.trials.length X.capt)).setCell ⟨sb, 6, none⟩ (.map (some bm))).cell? ⟨sb, 3, none⟩ = some (.slice X.p X.B.boys.length X.cap) := by go_simp
      have v4 : (((((((w5.setCell ⟨sb, 0, none⟩ (.int .i64 X.pipes)).setCell ⟨sb, 1, none⟩ (.slice X.tp X.tunes.length X.tcap)).setCell ⟨sb, 2, none⟩ (.slice X.fp X.forks.length X.fcap)).setCell ⟨sb, 3, none⟩ (.slice X.p X.B.boys.length X.cap)).setCell ⟨sb, 4, none⟩ (.int .i64 X.B.weeks)).setCell ⟨sb, 5, none⟩ (.slice X.q X.B.trials.length X.capt)).setCell ⟨sb, 6, none⟩ (.map (some bm))).cell? ⟨sb, 4, none⟩ = some (.int .i64 X.B.weeks) := by go_simp
      have v5 : (((((((w5.setCell ⟨sb, 0, none⟩ (.int .i64 X.pipes)).setCell ⟨sb, 1, none⟩ (.slice X.tp X.tunes.length X.tcap)).setCell ⟨sb, 2, none⟩ (.slice X.fp X.forks.length X.fcap)).setCell ⟨sb, 3, none⟩ (.slice X.p X.B.boys.length X.cap)).setCell ⟨sb, 4, none⟩ (.int .i64 X.B.weeks)).setCell ⟨sb, 5, none⟩ (.slice X.q X.B.trials.length X.capt)).setCell ⟨sb, 6, none⟩ (.map (some bm))).cell? ⟨sb, 5, none⟩ = some (.slice X.q X.B.trials.length X.capt) := by go_simp
      have v6 : (((((((w5.setCell ⟨sb, 0, none⟩ (.int .i64 X.pipes)).setCell ⟨sb, 1, none⟩ (.slice X.tp X.tunes.length X.tcap)).setCell ⟨sb, 2, none⟩ (.slice X.fp X.forks.length X.fcap)).setCell ⟨sb, 3, none⟩ (.slice X.p X.B.boys.length X.cap)).setCell ⟨sb, 4, none⟩ (.int .i64 X.B.weeks)).setCell ⟨sb, 5, none⟩ (.slice X.q X.B.trials.length X.capt)).setCell ⟨sb, 6, none⟩ (.map (some bm))).cell? ⟨sb, 6, none⟩ = some (.map (some bm)) := by go_simp
      go_wp2_with fail
      generalize (((((((w5.setCell ⟨sb, 0, none⟩ (.int .i64 X.pipes)).setCell ⟨sb, 1, none⟩ (.slice X.tp X.tunes.length X.tcap)).setCell ⟨sb, 2, none⟩ (.slice X.fp X.forks.length X.fcap)).setCell ⟨sb, 3, none⟩ (.slice X.p X.B.boys.length X.cap)).setCell ⟨sb, 4, none⟩ (.int .i64 X.B.weeks)).setCell ⟨sb, 5, none⟩ (.slice X.q X.B.trials.length X.capt)).setCell ⟨sb, 6, none⟩ (.map (some bm))) = WN at *
      refine bodyPost_ret (v := .tuple #[.agg #[.int .i64 X.pipes, .slice X.tp X.tunes.length X.tcap, .slice X.fp X.forks.length X.fcap, .slice X.p X.B.boys.length X.cap, .int .i64 X.B.weeks, .slice X.q X.B.trials.length X.capt, .map (some bm)], .int .i64 0]) (by simp [results, Tryz.results31, go_sem, v0, v1, v2, v3, v4, v5, v6]) rfl ⟨_, 0, rfl, ?_, ?_⟩
      · exact Below.trans kk5 (hTS.toBelow (n := w.heap.size) (by rintro b rfl; omega) kk5.size)
      · have h9 := HB5.out
        refine .inl ⟨rfl, ⟨HR.out.1 (by trivial), HCR.out⟩, bm, l, rfl, h9.of_block (hTS.block bm h9.lt HNE.out), ?_⟩
        have := HBM.out
        have := kk1.size
        omega
end Go.Proofs.YthgfbokfaidklaaGreatDoor
set_option linter.all false
namespace Go.Proofs.YthgfbokfaidklaaGreatDoor
open Go.RowKit Go.Sort Go.Rg
set_option maxRecDepth 100000
set_option maxHeartbeats 8000000
attribute [local go_sem] Oper.semAt_some

def zeroO : List Value := [.int .i64 0, .slice none 0 0, .slice none 0 0, .slice none 0 0, .int .i64 0, .slice none 0 0, .map none]
theorem OpenO.turns {X : OBook} {P n : Nat} {v : Value} {err : Int} {C D : World} {U : Nat → Prop} (h : OpenO X P n v err C) (k : Turns U C D) (hU : ∀ b, b < C.heap.size → n ≤ b → ¬ U b) : OpenO X P n v err D := by
  rcases h with ⟨h1, h2, bm, l, h3, h4, h5⟩ | h
  · exact .inl ⟨h1, h2, bm, l, h3, h4.of_block (k.block bm h4.lt (hU bm h4.lt h5)), h5⟩
  · exact .inr h
theorem OpenO.mono {X : OBook} {P n m : Nat} {v : Value} {err : Int} {C : World} (h : OpenO X P n v err C) (hm : m ≤ n) : OpenO X P m v err C := by
  rcases h with ⟨h1, h2, bm, l, h3, h4, h5⟩ | h
  · exact .inl ⟨h1, h2, bm, l, h3, h4, by omega⟩
  · exact .inr h
/-- what a function that tells a span hands back -/
def SpanO (X : OBook) (P : Nat) (lo hi : Int) (W : World) (e : Ending) (C : World) : Prop :=
  ∃ (l h err : Int), e = .returned (.tuple #[.agg #[.int .i64 l, .int .i64 h], .int .i64 err]) ∧ Kept W C ∧ ((err = 0 ∧ (Can X.B ∧ canR (loftF P X) P = true) ∧ l = lo ∧ h = hi) ∨ (err = 82 ∧ ¬ (Can X.B ∧ canR (loftF P X) P = true) ∧ l = 0 ∧ h = 0))

theorem oApart_any (X : OBook) (P a b : Nat) (W : World) (h : OBookAt W X) (hg : Nothing W) (hn : ONothing W) (hok : X.okB = true) (hP : X.pipes = (P : Int)) (ha : a < P) (hb : b < P) :
    Calls Tryz.prog 17 #[.agg #[.int .i64 X.pipes, .slice X.tp X.tunes.length X.tcap, .slice X.fp X.forks.length X.fcap, .slice X.p X.B.boys.length X.cap, .int .i64 X.B.weeks, .slice X.q X.B.trials.length X.capt], .int .i64 (a : Int), .int .i64 (b : Int)] W (SpanO X P (-(loftF P X b a)) (loftF P X a b) W) := by
  obtain ⟨hp, _, _, _, _, hvok⟩ := okO_parts hok
  have hP5 : 1 ≤ P ∧ P ≤ 5 := by omega
  have HOP := Lib.hid (fun V (kk : Kept W V) => oOpen_any X P V (h.kept kk) (hg.kept kk) (hn.kept kk) hok hP)
  have HIa := Lib.hid (fun V => isPipe_eq X (a : Int) (g := true) V hp (by simp [inB]; omega))
  have HIb := Lib.hid (fun V => isPipe_eq X (b : Int) (g := true) V hp (by simp [inB]; omega))
  have HCALL := Lib.hid (fun bm l V (hh : BoundsAt V bm l (loftF P X)) => apart_any X bm l (loftF P X) a b V hh (loft_low hok hP hP5.2) (by omega) (by omega))
  clear h hg hn hvok
  refine callsIn_wide.1 (callsIn_of_wp (n := 0) Tryz.func17 rfl trivial ?_ rfl)
  simp only [Tryz.ntmps17, List.size_toArray, List.length_cons, List.length_nil, Nat.reduceAdd, Nat.reduceSub, Array.replicate_succ, Array.replicate_zero, List.push_toArray, List.append_toArray, List.nil_append, List.cons_append]
  have HPX := Lib.hid (And.intro hP hp); clear hP hp hok
  gi_wp2_with fail
  have hk0 : Kept W ((W.alloc (Obj.cells #[.int .i64 X.pipes, .slice X.tp X.tunes.length X.tcap, .slice X.fp X.forks.length X.fcap, .slice X.p X.B.boys.length X.cap, .int .i64 X.B.weeks, .slice X.q X.B.trials.length X.capt] 29)).alloc (Obj.cells #[.int .i64 0, .int .i64 0] 35)) := kept_alloc (kept_alloc (kept_refl _) _) _
  have x0 : ((W.alloc (Obj.cells #[.int .i64 X.pipes, .slice X.tp X.tunes.length X.tcap, .slice X.fp X.forks.length X.fcap, .slice X.p X.B.boys.length X.cap, .int .i64 X.B.weeks, .slice X.q X.B.trials.length X.capt] 29)).alloc (Obj.cells #[.int .i64 0, .int .i64 0] 35)).cell? ⟨W.heap.size, 0, none⟩ = some (.int .i64 X.pipes) := by go_simp
  have x1 : ((W.alloc (Obj.cells #[.int .i64 X.pipes, .slice X.tp X.tunes.length X.tcap, .slice X.fp X.forks.length X.fcap, .slice X.p X.B.boys.length X.cap, .int .i64 X.B.weeks, .slice X.q X.B.trials.length X.capt] 29)).alloc (Obj.cells #[.int .i64 0, .int .i64 0] 35)).cell? ⟨W.heap.size, 1, none⟩ = some (.slice X.tp X.tunes.length X.tcap) := by go_simp
  have x2 : ((W.alloc (Obj.cells #[.int .i64 X.pipes, .slice X.tp X.tunes.length X.tcap, .slice X.fp X.forks.length X.fcap, .slice X.p X.B.boys.length X.cap, .int .i64 X.B.weeks, .slice X.q X.B.trials.length X.capt] 29)).alloc (Obj.cells #[.int .i64 0, .int .i64 0] 35)).cell? ⟨W.heap.size, 2, none⟩ = some (.slice X.fp X.forks.length X.fcap) := by go_simp
  have x3 : ((W.alloc (Obj.cells #[.int .i64 X.pipes, .slice X.tp X.tunes.length X.tcap, .slice X.fp X.forks.length X.fcap, .slice X.p X.B.boys.length X.cap, .int .i64 X.B.weeks, .slice X.q X.B.trials.length X.capt] 29)).alloc (Obj.cells #[.int .i64 0, .int .i64 0] 35)).cell? ⟨W.heap.size, 3, none⟩ = some (.slice X.p X.B.boys.length X.cap) := by go_simp
  have x4 : ((W.alloc (Obj.cells #[.int .i64 X.pipes, .slice X.tp X.tunes.length X.tcap, .slice X.fp X.forks.length X.fcap, .slice X.p X.B.boys.length X.cap, .int .i64 X.B.weeks, .slice X.q X.B.trials.length X.capt] 29)).alloc (Obj.cells #[.int .i64 0, .int .i64 0] 35)).cell? ⟨W.heap.size, 4, none⟩ = some (.int .i64 X.B.weeks) := by go_simp
  have x5 : ((W.alloc (Obj.cells #[.int .i64 X.pipes, .slice X.tp X.tunes.length X.tcap, .slice X.fp X.forks.length X.fcap, .slice X.p X.B.boys.length X.cap, .int .i64 X.B.weeks, .slice X.q X.B.trials.length X.capt] 29)).alloc (Obj.cells #[.int .i64 0, .int .i64 0] 35)).cell? ⟨W.heap.size, 5, none⟩ = some (.slice X.q X.B.trials.length X.capt) := by go_simp
  have s0 : ((W.alloc (Obj.cells #[.int .i64 X.pipes, .slice X.tp X.tunes.length X.tcap, .slice X.fp X.forks.length X.fcap, .slice X.p X.B.boys.length X.cap, .int .i64 X.B.weeks, .slice X.q X.B.trials.length X.capt] 29)).alloc (Obj.cells #[.int .i64 0, .int .i64 0] 35)).cell? ⟨W.heap.size + 1, 0, none⟩ = some (.int .i64 0) := by go_simp
  have sf0 : ((W.alloc (Obj.cells #[.int .i64 X.pipes, .slice X.tp X.tunes.length X.tcap, .slice X.fp X.forks.length X.fcap, .slice X.p X.B.boys.length X.cap, .int .i64 X.B.weeks, .slice X.q X.B.trials.length X.capt] 29)).alloc (Obj.cells #[.int .i64 0, .int .i64 0] 35)).frozen? ⟨W.heap.size + 1, 0, none⟩ = false := by go_simp
  have s1 : ((W.alloc (Obj.cells #[.int .i64 X.pipes, .slice X.tp X.tunes.length X.tcap, .slice X.fp X.forks.length X.fcap, .slice X.p X.B.boys.length X.cap, .int .i64 X.B.weeks, .slice X.q X.B.trials.length X.capt] 29)).alloc (Obj.cells #[.int .i64 0, .int .i64 0] 35)).cell? ⟨W.heap.size + 1, 1, none⟩ = some (.int .i64 0) := by go_simp
  have sf1 : ((W.alloc (Obj.cells #[.int .i64 X.pipes, .slice X.tp X.tunes.length X.tcap, .slice X.fp X.forks.length X.fcap, .slice X.p X.B.boys.length X.cap, .int .i64 X.B.weeks, .slice X.q X.B.trials.length X.capt] 29)).alloc (Obj.cells #[.int .i64 0, .int .i64 0] 35)).frozen? ⟨W.heap.size + 1, 1, none⟩ = false := by go_simp
  generalize ((W.alloc (Obj.cells #[.int .i64 X.pipes, .slice X.tp X.tunes.length X.tcap, .slice X.fp X.forks.length X.fcap, .slice X.p X.B.boys.length X.cap, .int .i64 X.B.weeks, .slice X.q X.B.trials.length X.capt] 29)).alloc (Obj.cells #[.int .i64 0, .int .i64 0] 35)) = W0 at *
  generalize hsb : W.heap.size + 1 = sb at *
  refine wpIn_region_invL (StP 9 (fun j => match j with | 0 => (.agg #[.int .i64 X.pipes, .slice X.tp X.tunes.length X.tcap, .slice X.fp X.forks.length X.fcap, .slice X.p X.B.boys.length X.cap, .int .i64 X.B.weeks, .slice X.q X.B.trials.length X.capt]) | 1 => (.agg #[.int .i64 X.pipes, .slice X.tp X.tunes.length X.tcap, .slice X.fp X.forks.length X.fcap, .slice X.p X.B.boys.length X.cap, .int .i64 X.B.weeks, .slice X.q X.B.trials.length X.capt]) | 2 => .int .i64 (a : Int) | 5 => (.agg #[.int .i64 X.pipes, .slice X.tp X.tunes.length X.tcap, .slice X.fp X.forks.length X.fcap, .slice X.p X.B.boys.length X.cap, .int .i64 X.B.weeks, .slice X.q X.B.trials.length X.capt]) | 6 => .int .i64 (b : Int) | _ => .bool true) W0 zeroO (OpenO X P W.heap.size)) (by kernel_rfl) (by kernel_rfl) StP.start ?hop ?hend
  case hop =>
    rintro i o listed a w hl ho h1 h2 hcl ⟨v, err, pp, ha, hw⟩
    have hi11 : i < 16 := (List.getElem?_eq_some_iff.1 ho).1
    match i, ho with
    | 0, ho =>
      have st := StP.same (by kernel_rfl) ha hw ho h1 (by omega) (by omega) (by omega) (kept_refl w)
      have ST := Lib.hid st; clear st
      cases ho
      rw [if_pos (by rfl)]
      have t3 := ha.old 3 (by kernel_rfl)
      simp at t3
      have r0 := kcell hw.kept x0
      have r1 := kcell hw.kept x1
      have r2 := kcell hw.kept x2
      have r3 := kcell hw.kept x3
      have r4 := kcell hw.kept x4
      have r5 := kcell hw.kept x5
      go_simp
      exact ST.out
    | 1, ho =>
      have st := StP.same (by kernel_rfl) ha hw ho h1 (by omega) (by omega) (by omega) (kept_refl w)
      have ST := Lib.hid st; clear st
      cases ho
      rw [if_pos (by rfl)]
      have t3 := ha.old 3 (by kernel_rfl)
      simp at t3
      have r0 := kcell hw.kept x0
      have r1 := kcell hw.kept x1
      have r2 := kcell hw.kept x2
      have r3 := kcell hw.kept x3
      have r4 := kcell hw.kept x4
      have r5 := kcell hw.kept x5
      go_simp
      exact ST.out
    | 2, ho =>
      have st := StP.same (by kernel_rfl) ha hw ho h1 (by omega) (by omega) (by omega) (kept_refl w)
      have ST := Lib.hid st; clear st
      cases ho
      rw [if_pos (by rfl)]
      have t1 := ha.old 1 (by kernel_rfl)
      simp at t1
      go_simp
      exact ST.out
    | 3, ho =>
      have st := fun w' (k : Kept w w') => StP.same (by kernel_rfl) ha hw ho h1 (by omega) (by omega) (by omega) k
      have ST := Lib.hid st; clear st
      cases ho
      rw [if_pos (by rfl)]
      have t12 := ha.new 1 (h2 ⟨1, .data⟩ (by simp) rfl) (d := 12) rfl rfl (by simp)
      simp [openVs] at t12
      have t13 := ha.new 2 (h2 ⟨2, .data⟩ (by simp) rfl) (d := 13) rfl rfl (by simp)
      simp [openVs] at t13
      have hcall := HIa.out w
      have HCL := Lib.hid hcall; clear hcall
      go_simp
      refine ⟨trivial, rfl, (callsIn_wide.2 HCL.out).mono ?_⟩
      rintro e w' ⟨rfl, hk⟩
      exact ST.out _ hk
    | 4, ho =>
      have st := StP.same (by kernel_rfl) ha hw ho h1 (by omega) (by omega) (by omega) (kept_refl w)
      have ST := Lib.hid st; clear st
      cases ho
      rw [if_pos (by rfl)]
      have t14 := ha.new 3 (h2 ⟨3, .data⟩ (by simp) rfl) (d := 14) rfl rfl (by simp)
      simp [openVs] at t14
      go_simp
      exact ST.out
    | 5, ho =>
      have st := StP.same (by kernel_rfl) ha hw ho h1 (by omega) (by omega) (by omega) (kept_refl w)
      have ST := Lib.hid st; clear st
      cases ho
      have t15 := ha.new 4 (h2 ⟨4, .guard⟩ (by simp) rfl) (d := 15) rfl rfl (by simp)
      simp [openVs] at t15
      rw [if_pos (by simp [Region.wanted, yielded, getD_bool t15])]
      have t3 := ha.old 3 (by kernel_rfl)
      simp at t3
      have r0 := kcell hw.kept x0
      have r1 := kcell hw.kept x1
      have r2 := kcell hw.kept x2
      have r3 := kcell hw.kept x3
      have r4 := kcell hw.kept x4
      have r5 := kcell hw.kept x5
      go_simp
      exact ST.out
    | 6, ho =>
      have st := StP.same (by kernel_rfl) ha hw ho h1 (by omega) (by omega) (by omega) (kept_refl w)
      have ST := Lib.hid st; clear st
      cases ho
      have t15 := ha.new 4 (h2 ⟨4, .guard⟩ (by simp) rfl) (d := 15) rfl rfl (by simp)
      simp [openVs] at t15
      rw [if_pos (by simp [Region.wanted, yielded, getD_bool t15])]
      have t2 := ha.old 2 (by kernel_rfl)
      simp at t2
      go_simp
      exact ST.out
    | 7, ho =>
      have st := fun w' (k : Kept w w') => StP.same (by kernel_rfl) ha hw ho h1 (by omega) (by omega) (by omega) k
      have ST := Lib.hid st; clear st
      cases ho
      have t15 := ha.new 4 (h2 ⟨4, .guard⟩ (by simp) rfl) (d := 15) rfl rfl (by simp)
      simp [openVs] at t15
      rw [if_pos (by simp [Region.wanted, yielded, getD_bool t15])]
      have t16 := ha.new 5 (h2 ⟨5, .data⟩ (by simp) rfl) (d := 16) rfl rfl (by simp)
      simp [openVs] at t16
      have t17 := ha.new 6 (h2 ⟨6, .data⟩ (by simp) rfl) (d := 17) rfl rfl (by simp)
      simp [openVs] at t17
      have hcall := HIb.out w
      have HCL := Lib.hid hcall; clear hcall
      go_simp
      refine ⟨trivial, rfl, (callsIn_wide.2 HCL.out).mono ?_⟩
      rintro e w' ⟨rfl, hk⟩
      exact ST.out _ hk
    | 8, ho =>
      have st := StP.same (by kernel_rfl) ha hw ho h1 (by omega) (by omega) (by omega) (kept_refl w)
      have ST := Lib.hid st; clear st
      cases ho
      rw [if_pos (by rfl)]
      have t15 := ha.new 4 (h2 ⟨4, .data⟩ (by simp) rfl) (d := 15) rfl rfl (by simp)
      simp [openVs] at t15
      have t18 := ha.new 7 (h2 ⟨7, .data⟩ (by simp) rfl) (d := 18) rfl rfl (by simp)
      simp [openVs] at t18
      go_simp
      exact ST.out
    | 9, ho =>
      obtain ⟨n5, n6, n7, n9, n10⟩ := open_first hcl h1 ⟨_, rfl, ⟨9, .data⟩, by simp, rfl, rfl⟩ ⟨_, rfl, ⟨10, .data⟩, by simp, rfl, rfl⟩ ⟨_, rfl, ⟨10, .data⟩, by simp, rfl, rfl⟩ ⟨_, rfl, ⟨11, .data⟩, by simp, rfl, rfl⟩ ⟨_, rfl, ⟨12, .data⟩, by simp, rfl, rfl⟩
      have st := fun v' err' w' (k : OReg W0 zeroO (OpenO X P W.heap.size) v' err' pp true (on listed 13) (on listed 14) w') => StP.opened (by kernel_rfl) ha hl ho h1 n5 n6 n7 n9 n10 k
      have ST := Lib.hid st; clear st
      cases ho
      rw [if_pos (by rfl)]
      have t11 := ha.new 0 (h2 ⟨0, .data⟩ (by simp) rfl) (d := 11) rfl rfl (by simp)
      simp [openVs] at t11
      have t19 := ha.new 8 (h2 ⟨8, .data⟩ (by simp) rfl) (d := 19) rfl rfl (by simp)
      simp [openVs] at t19
      have HCL := Lib.hid (HOP.out w (kept_trans hk0 hw.kept))
      have HW := Lib.hid hw; clear hw
      go_simp
      refine ⟨trivial, rfl, (callsIn_wide.2 HCL.out).mono ?_⟩
      rintro e w' ⟨v', err', rfl, k', hr⟩
      exact ST.out v' err' w' (HW.out.opened n9 k' W.heap.size hk0.size (fun D U kU hU => OpenO.mono (OpenO.turns hr kU (fun b h1 h2 => hU b h1 (.inr h2))) (kept_trans hk0 HW.out.kept).size))
    | 10, ho =>
      have st := StP.same (by kernel_rfl) ha hw ho h1 (by omega) (by omega) (by omega) (kept_refl w)
      have ST := Lib.hid st; clear st
      cases ho
      rw [if_pos (by rfl)]
      have t20 := ha.new 9 (h2 ⟨9, .data⟩ (by simp) rfl) (d := 20) rfl rfl (by simp)
      simp [openVs] at t20
      go_simp
      exact ST.out
    | 11, ho =>
      have st := StP.same (by kernel_rfl) ha hw ho h1 (by omega) (by omega) (by omega) (kept_refl w)
      have ST := Lib.hid st; clear st
      cases ho
      rw [if_pos (by rfl)]
      have t10 := ha.new 10 (h2 ⟨10, .data⟩ (by simp) rfl) (d := 10) rfl rfl (by simp)
      simp [openVs] at t10
      go_simp
      exact ST.out
    | 12, ho =>
      have st := StP.same (by kernel_rfl) ha hw ho h1 (by omega) (by omega) (by omega) (kept_refl w)
      have ST := Lib.hid st; clear st
      cases ho
      rw [if_pos (by rfl)]
      have t10 := ha.new 10 (h2 ⟨10, .data⟩ (by simp) rfl) (d := 10) rfl rfl (by simp)
      simp [openVs] at t10
      go_simp
      exact ST.out
    | 13, ho =>
      have n9 : on listed 14 = false := by
        cases hb : on listed 14 with
        | false => rfl
        | true => have := hcl 14 _ rfl hb ⟨13, .data⟩ (by simp) rfl; rw [on_no h1] at this; cases this
      have st := StP.boxed 76 (by kernel_rfl) ha hw hl ho h1 n9
      have ST := Lib.hid st; clear st
      cases ho
      rw [if_pos (by rfl)]
      go_simp
      exact ST.out
    | 14, ho =>
      have y8 : on listed 13 = true := h2 ⟨13, .data⟩ (by cases ho; simp) rfl
      have y4 : on listed 9 = true := h2 ⟨9, .chain⟩ (by cases ho; simp) rfl
      have t8 := ha.new 13 y8 (d := 8) rfl rfl (by simp)
      simp [openVs] at t8
      have t21 := ha.new 11 (h2 ⟨11, .data⟩ (by cases ho; simp) rfl) (d := 21) rfl rfl (by simp)
      simp [openVs] at t21
      obtain ⟨hbp, hbz, hcs, hbf⟩ := hw.box y8
      obtain ⟨f0, b0⟩ := hcs 0 (by simp [zeroO])
      obtain ⟨f1, b1⟩ := hcs 1 (by simp [zeroO])
      obtain ⟨f2, b2⟩ := hcs 2 (by simp [zeroO])
      obtain ⟨f3, b3⟩ := hcs 3 (by simp [zeroO])
      obtain ⟨f4, b4⟩ := hcs 4 (by simp [zeroO])
      obtain ⟨f5, b5⟩ := hcs 5 (by simp [zeroO])
      obtain ⟨f6, b6⟩ := hcs 6 (by simp [zeroO])
      have bf0 := hbf 0
      have bf1 := hbf 1
      have bf2 := hbf 2
      have bf3 := hbf 3
      have bf4 := hbf 4
      have bf5 := hbf 5
      have bf6 := hbf 6
      rcases (hw.res y4).here with ⟨_, _, bm, l, rfl, _, _⟩ | ⟨_, _, rfl⟩
      · skip
        have st := StP.stored (by kernel_rfl) ha hw hl ho (by cases ho; rfl) h1 y8 (xs := [.int .i64 X.pipes, .slice X.tp X.tunes.length X.tcap, .slice X.fp X.forks.length X.fcap, .slice X.p X.B.boys.length X.cap, .int .i64 X.B.weeks, .slice X.q X.B.trials.length X.capt, .map (some bm)]) rfl rfl
        simp only [setAll, Nat.reduceAdd] at st
        have ST := Lib.hid st; clear st
        cases ho
        rw [if_pos (by rfl)]
        clear hbf hcs
        go_simp
        exact ST.out
      · skip
        have st := StP.stored (by kernel_rfl) ha hw hl ho (by cases ho; rfl) h1 y8 (xs := [.int .i64 0, .slice none 0 0, .slice none 0 0, .slice none 0 0, .int .i64 0, .slice none 0 0, .map none]) rfl rfl
        simp only [setAll, Nat.reduceAdd] at st
        have ST := Lib.hid st; clear st
        cases ho
        rw [if_pos (by rfl)]
        clear hbf hcs
        go_simp
        exact ST.out
    | 15, ho =>
      have st := StP.same (by kernel_rfl) ha hw ho h1 (by omega) (by omega) (by omega) (kept_refl w)
      have ST := Lib.hid st; clear st
      cases ho
      rw [if_pos (by rfl)]
      have t22 := ha.new 12 (h2 ⟨12, .data⟩ (by simp) rfl) (d := 22) rfl rfl (by simp)
      simp [openVs] at t22
      go_simp
      exact ST.out
  case hend =>
    rintro listed a w hall ⟨v, err, pp, ha, hw⟩
    rw [show on listed 9 = true from hall 9 (by simp), show on listed 13 = true from hall 13 (by simp), show on listed 14 = true from hall 14 (by simp)] at hw
    obtain ⟨y, hy, hae⟩ := ha.lit (n := 32) rfl
    have y1 := (hy 1).symm.trans (ha.old 1 (by kernel_rfl))
    have y2 := (hy 2).symm.trans (ha.old 2 (by kernel_rfl))
    have y3 := (hy 3).symm.trans (ha.old 3 (by kernel_rfl))
    have y6 := (hy 6).symm.trans (ha.old 6 (by kernel_rfl))
    have y7 := (hy 7).symm.trans (ha.old 7 (by kernel_rfl))
    have y8 := (hy 8).symm.trans (ha.new 13 (hall 13 (by simp)) (d := 8) rfl rfl (by simp))
    have y9 := (hy 9).symm.trans (ha.new 15 (hall 15 (by simp)) (d := 9) rfl rfl (by simp))
    simp at y1 y2 y3 y6 y7
    simp [openVs] at y8 y9
    simp only [List.range, List.range.loop, List.map] at hae
    rw [y1, y2, y3, y6, y7, y8, y9] at hae
    subst hae
    clear ha hy y1 y2 y3 y6 y7 y8 y9
    refine (by assumption : ∀ a w, Code.wpIn _ _ _ _ _ a w → _) _ w ?_
    have kW := kept_trans hk0 hw.kept
    obtain ⟨hpb, hpz, _, _⟩ := hw.box rfl
    obtain ⟨_, xs, hv, hxl, hxc⟩ := hw.put rfl
    have u0 := kcell hw.kept s0
    have uf0 := ((kturns hw.kept (fun _ => False)).frozen (Go.Ai.lt_of_cell s0) (fun h => h)).trans sf0
    have u1 := kcell hw.kept s1
    have uf1 := ((kturns hw.kept (fun _ => False)).frozen (Go.Ai.lt_of_cell s1) (fun h => h)).trans sf1
    have hsp : ¬ pp = sb := by have := Go.Ai.lt_of_cell s0; omega
    have hzs := Go.Ai.lt_of_cell u0
    rcases (hw.res rfl).here with ⟨rfl, hcan, bm, l, rfl, hB, hbn⟩ | ⟨rfl, hnc, rfl⟩
    · have e4 := congrArg (fun u => match u with | Value.agg cs => cs.toList | _ => []) hv
      simp only at e4
      have b0 := hxc 0 (.int .i64 X.pipes) (by rw [← e4]; rfl)
      have b1 := hxc 1 (.slice X.tp X.tunes.length X.tcap) (by rw [← e4]; rfl)
      have b2 := hxc 2 (.slice X.fp X.forks.length X.fcap) (by rw [← e4]; rfl)
      have b3 := hxc 3 (.slice X.p X.B.boys.length X.cap) (by rw [← e4]; rfl)
      have b4 := hxc 4 (.int .i64 X.B.weeks) (by rw [← e4]; rfl)
      have b5 := hxc 5 (.slice X.q X.B.trials.length X.capt) (by rw [← e4]; rfl)
      have b6 := hxc 6 (.map (some bm)) (by rw [← e4]; rfl)
      have HB := Lib.hid hB
      have HCN := Lib.hid hcan
      clear e4 hv hxc hxl hB hcan hw hbn
      have hzl := Go.Ai.lt_of_cell b0
      gi_wp2_with fail
      refine ⟨trivial, rfl, (callsIn_wide.2 (HCALL.out bm l _ HB.out)).mono ?_⟩
      rintro e w2 ⟨rfl, hk2⟩
      have kW2 := kept_trans kW hk2
      replace uf0 := ((kturns hk2 (fun _ => False)).frozen hzs (fun h => h)).trans uf0
      replace u0 := kcell hk2 u0
      replace uf1 := ((kturns hk2 (fun _ => False)).frozen hzs (fun h => h)).trans uf1
      replace u1 := kcell hk2 u1
      replace hzs := Go.Ai.lt_of_cell u0
      have hTS : Turns (fun c => c = sb) w2 ((w2.setCell ⟨sb, 0, none⟩ (.int .i64 (-(loftF P X b a)))).setCell ⟨sb, 1, none⟩ (.int .i64 (loftF P X a b))) := ((Turns.refl (fun c => c = sb) w2).setCell rfl _ _).setCell rfl _ _
      have v0 : ((w2.setCell ⟨sb, 0, none⟩ (.int .i64 (-(loftF P X b a)))).setCell ⟨sb, 1, none⟩ (.int .i64 (loftF P X a b))).cell? ⟨sb, 0, none⟩ = some (.int .i64 (-(loftF P X b a))) := by go_simp
      have v1 : ((w2.setCell ⟨sb, 0, none⟩ (.int .i64 (-(loftF P X b a)))).setCell ⟨sb, 1, none⟩ (.int .i64 (loftF P X a b))).cell? ⟨sb, 1, none⟩ = some (.int .i64 (loftF P X a b)) := by go_simp
      gi_wp2_with fail
      generalize ((w2.setCell ⟨sb, 0, none⟩ (.int .i64 (-(loftF P X b a)))).setCell ⟨sb, 1, none⟩ (.int .i64 (loftF P X a b))) = WN at *
      refine bodyPost_ret (v := .tuple #[.agg #[.int .i64 (-(loftF P X b a)), .int .i64 (loftF P X a b)], .int .i64 0]) (by simp [results, Tryz.results17, go_sem, v0, v1]) rfl ?_
      exact ⟨_, _, 0, rfl, Below.trans kW2 (hTS.toBelow (n := W.heap.size) (by rintro b rfl; omega) kW2.size), .inl ⟨rfl, HCN.out, rfl, rfl⟩⟩
    · have HNC := Lib.hid hnc
      clear hv hxc hxl hnc hw
      have hTS : Turns (fun c => c = sb) w ((w.setCell ⟨sb, 0, none⟩ (.int .i64 0)).setCell ⟨sb, 1, none⟩ (.int .i64 0)) := ((Turns.refl (fun c => c = sb) w).setCell rfl _ _).setCell rfl _ _
      have v0 : ((w.setCell ⟨sb, 0, none⟩ (.int .i64 0)).setCell ⟨sb, 1, none⟩ (.int .i64 0)).cell? ⟨sb, 0, none⟩ = some (.int .i64 0) := by go_simp
      have v1 : ((w.setCell ⟨sb, 0, none⟩ (.int .i64 0)).setCell ⟨sb, 1, none⟩ (.int .i64 0)).cell? ⟨sb, 1, none⟩ = some (.int .i64 0) := by go_simp
      gi_wp2_with fail
      generalize ((w.setCell ⟨sb, 0, none⟩ (.int .i64 0)).setCell ⟨sb, 1, none⟩ (.int .i64 0)) = WN at *
      refine bodyPost_ret (v := .tuple #[.agg #[.int .i64 0, .int .i64 0], .int .i64 82]) (by simp [results, Tryz.results17, go_sem, v0, v1]) rfl ?_
      exact ⟨_, _, 82, rfl, Below.trans kW (hTS.toBelow (n := W.heap.size) (by rintro b rfl; omega) kW.size), .inr ⟨rfl, HNC.out, rfl, rfl⟩⟩

theorem oPitch_any (X : OBook) (P a : Nat) (W : World) (h : OBookAt W X) (hg : Nothing W) (hn : ONothing W) (hok : X.okB = true) (hP : X.pipes = (P : Int)) (ha : a < P) :
    Calls Tryz.prog 18 #[.agg #[.int .i64 X.pipes, .slice X.tp X.tunes.length X.tcap, .slice X.fp X.forks.length X.fcap, .slice X.p X.B.boys.length X.cap, .int .i64 X.B.weeks, .slice X.q X.B.trials.length X.capt], .int .i64 (a : Int)] W (SpanO X P (-(loftF P X a P)) (loftF P X P a) W) := by
  obtain ⟨hp, _, _, _, _, hvok⟩ := okO_parts hok
  have hP5 : 1 ≤ P ∧ P ≤ 5 := by omega
  have HOP := Lib.hid (fun V (kk : Kept W V) => oOpen_any X P V (h.kept kk) (hg.kept kk) (hn.kept kk) hok hP)
  have HIa := Lib.hid (fun V => isPipe_eq X (a : Int) (g := true) V hp (by simp [inB]; omega))
  have HCALL := Lib.hid (fun bm l V (hh : BoundsAt V bm l (loftF P X)) => pitch_any X P bm l (loftF P X) a V hh (loft_low hok hP hP5.2) hP hP5.2 (by omega))
  clear h hg hn hvok
  refine callsIn_wide.1 (callsIn_of_wp (n := 0) Tryz.func18 rfl trivial ?_ rfl)
  simp only [Tryz.ntmps18, List.size_toArray, List.length_cons, List.length_nil, Nat.reduceAdd, Nat.reduceSub, Array.replicate_succ, Array.replicate_zero, List.push_toArray, List.append_toArray, List.nil_append, List.cons_append]
  have HPX := Lib.hid (And.intro hP hp); clear hP hp hok
  gi_wp2_with fail
  have hk0 : Kept W ((W.alloc (Obj.cells #[.int .i64 X.pipes, .slice X.tp X.tunes.length X.tcap, .slice X.fp X.forks.length X.fcap, .slice X.p X.B.boys.length X.cap, .int .i64 X.B.weeks, .slice X.q X.B.trials.length X.capt] 29)).alloc (Obj.cells #[.int .i64 0, .int .i64 0] 35)) := kept_alloc (kept_alloc (kept_refl _) _) _
  have x0 : ((W.alloc (Obj.cells #[.int .i64 X.pipes, .slice X.tp X.tunes.length X.tcap, .slice X.fp X.forks.length X.fcap, .slice X.p X.B.boys.length X.cap, .int .i64 X.B.weeks, .slice X.q X.B.trials.length X.capt] 29)).alloc (Obj.cells #[.int .i64 0, .int .i64 0] 35)).cell? ⟨W.heap.size, 0, none⟩ = some (.int .i64 X.pipes) := by go_simp
  have x1 : ((W.alloc (Obj.cells #[.int .i64 X.pipes, .slice X.tp X.tunes.length X.tcap, .slice X.fp X.forks.length X.fcap, .slice X.p X.B.boys.length X.cap, .int .i64 X.B.weeks, .slice X.q X.B.trials.length X.capt] 29)).alloc (Obj.cells #[.int .i64 0, .int .i64 0] 35)).cell? ⟨W.heap.size, 1, none⟩ = some (.slice X.tp X.tunes.length X.tcap) := by go_simp
  have x2 : ((W.alloc (Obj.cells #[.int .i64 X.pipes, .slice X.tp X.tunes.length X.tcap, .slice X.fp X.forks.length X.fcap, .slice X.p X.B.boys.length X.cap, .int .i64 X.B.weeks, .slice X.q X.B.trials.length X.capt] 29)).alloc (Obj.cells #[.int .i64 0, .int .i64 0] 35)).cell? ⟨W.heap.size, 2, none⟩ = some (.slice X.fp X.forks.length X.fcap) := by go_simp
  have x3 : ((W.alloc (Obj.cells #[.int .i64 X.pipes, .slice X.tp X.tunes.length X.tcap, .slice X.fp X.forks.length X.fcap, .slice X.p X.B.boys.length X.cap, .int .i64 X.B.weeks, .slice X.q X.B.trials.length X.capt] 29)).alloc (Obj.cells #[.int .i64 0, .int .i64 0] 35)).cell? ⟨W.heap.size, 3, none⟩ = some (.slice X.p X.B.boys.length X.cap) := by go_simp
  have x4 : ((W.alloc (Obj.cells #[.int .i64 X.pipes, .slice X.tp X.tunes.length X.tcap, .slice X.fp X.forks.length X.fcap, .slice X.p X.B.boys.length X.cap, .int .i64 X.B.weeks, .slice X.q X.B.trials.length X.capt] 29)).alloc (Obj.cells #[.int .i64 0, .int .i64 0] 35)).cell? ⟨W.heap.size, 4, none⟩ = some (.int .i64 X.B.weeks) := by go_simp
  have x5 : ((W.alloc (Obj.cells #[.int .i64 X.pipes, .slice X.tp X.tunes.length X.tcap, .slice X.fp X.forks.length X.fcap, .slice X.p X.B.boys.length X.cap, .int .i64 X.B.weeks, .slice X.q X.B.trials.length X.capt] 29)).alloc (Obj.cells #[.int .i64 0, .int .i64 0] 35)).cell? ⟨W.heap.size, 5, none⟩ = some (.slice X.q X.B.trials.length X.capt) := by go_simp
  have s0 : ((W.alloc (Obj.cells #[.int .i64 X.pipes, .slice X.tp X.tunes.length X.tcap, .slice X.fp X.forks.length X.fcap, .slice X.p X.B.boys.length X.cap, .int .i64 X.B.weeks, .slice X.q X.B.trials.length X.capt] 29)).alloc (Obj.cells #[.int .i64 0, .int .i64 0] 35)).cell? ⟨W.heap.size + 1, 0, none⟩ = some (.int .i64 0) := by go_simp
  have sf0 : ((W.alloc (Obj.cells #[.int .i64 X.pipes, .slice X.tp X.tunes.length X.tcap, .slice X.fp X.forks.length X.fcap, .slice X.p X.B.boys.length X.cap, .int .i64 X.B.weeks, .slice X.q X.B.trials.length X.capt] 29)).alloc (Obj.cells #[.int .i64 0, .int .i64 0] 35)).frozen? ⟨W.heap.size + 1, 0, none⟩ = false := by go_simp
  have s1 : ((W.alloc (Obj.cells #[.int .i64 X.pipes, .slice X.tp X.tunes.length X.tcap, .slice X.fp X.forks.length X.fcap, .slice X.p X.B.boys.length X.cap, .int .i64 X.B.weeks, .slice X.q X.B.trials.length X.capt] 29)).alloc (Obj.cells #[.int .i64 0, .int .i64 0] 35)).cell? ⟨W.heap.size + 1, 1, none⟩ = some (.int .i64 0) := by go_simp
  have sf1 : ((W.alloc (Obj.cells #[.int .i64 X.pipes, .slice X.tp X.tunes.length X.tcap, .slice X.fp X.forks.length X.fcap, .slice X.p X.B.boys.length X.cap, .int .i64 X.B.weeks, .slice X.q X.B.trials.length X.capt] 29)).alloc (Obj.cells #[.int .i64 0, .int .i64 0] 35)).frozen? ⟨W.heap.size + 1, 1, none⟩ = false := by go_simp
  generalize ((W.alloc (Obj.cells #[.int .i64 X.pipes, .slice X.tp X.tunes.length X.tcap, .slice X.fp X.forks.length X.fcap, .slice X.p X.B.boys.length X.cap, .int .i64 X.B.weeks, .slice X.q X.B.trials.length X.capt] 29)).alloc (Obj.cells #[.int .i64 0, .int .i64 0] 35)) = W0 at *
  generalize hsb : W.heap.size + 1 = sb at *
  refine wpIn_region_invL (StP 4 (fun j => match j with | 0 => (.agg #[.int .i64 X.pipes, .slice X.tp X.tunes.length X.tcap, .slice X.fp X.forks.length X.fcap, .slice X.p X.B.boys.length X.cap, .int .i64 X.B.weeks, .slice X.q X.B.trials.length X.capt]) | 1 => (.agg #[.int .i64 X.pipes, .slice X.tp X.tunes.length X.tcap, .slice X.fp X.forks.length X.fcap, .slice X.p X.B.boys.length X.cap, .int .i64 X.B.weeks, .slice X.q X.B.trials.length X.capt]) | 2 => .int .i64 (a : Int) | _ => .bool true) W0 zeroO (OpenO X P W.heap.size)) (by kernel_rfl) (by kernel_rfl) StP.start ?hop ?hend
  case hop =>
    rintro i o listed a w hl ho h1 h2 hcl ⟨v, err, pp, ha, hw⟩
    have hi11 : i < 11 := (List.getElem?_eq_some_iff.1 ho).1
    match i, ho with
    | 0, ho =>
      have st := StP.same (by kernel_rfl) ha hw ho h1 (by omega) (by omega) (by omega) (kept_refl w)
      have ST := Lib.hid st; clear st
      cases ho
      rw [if_pos (by rfl)]
      have t2 := ha.old 2 (by kernel_rfl)
      simp at t2
      have r0 := kcell hw.kept x0
      have r1 := kcell hw.kept x1
      have r2 := kcell hw.kept x2
      have r3 := kcell hw.kept x3
      have r4 := kcell hw.kept x4
      have r5 := kcell hw.kept x5
      go_simp
      exact ST.out
    | 1, ho =>
      have st := StP.same (by kernel_rfl) ha hw ho h1 (by omega) (by omega) (by omega) (kept_refl w)
      have ST := Lib.hid st; clear st
      cases ho
      rw [if_pos (by rfl)]
      have t2 := ha.old 2 (by kernel_rfl)
      simp at t2
      have r0 := kcell hw.kept x0
      have r1 := kcell hw.kept x1
      have r2 := kcell hw.kept x2
      have r3 := kcell hw.kept x3
      have r4 := kcell hw.kept x4
      have r5 := kcell hw.kept x5
      go_simp
      exact ST.out
    | 2, ho =>
      have st := StP.same (by kernel_rfl) ha hw ho h1 (by omega) (by omega) (by omega) (kept_refl w)
      have ST := Lib.hid st; clear st
      cases ho
      rw [if_pos (by rfl)]
      have t1 := ha.old 1 (by kernel_rfl)
      simp at t1
      go_simp
      exact ST.out
    | 3, ho =>
      have st := fun w' (k : Kept w w') => StP.same (by kernel_rfl) ha hw ho h1 (by omega) (by omega) (by omega) k
      have ST := Lib.hid st; clear st
      cases ho
      rw [if_pos (by rfl)]
      have t10 := ha.new 1 (h2 ⟨1, .data⟩ (by simp) rfl) (d := 10) rfl rfl (by simp)
      simp [openVs] at t10
      have t11 := ha.new 2 (h2 ⟨2, .data⟩ (by simp) rfl) (d := 11) rfl rfl (by simp)
      simp [openVs] at t11
      have hcall := HIa.out w
      have HCL := Lib.hid hcall; clear hcall
      go_simp
      refine ⟨trivial, rfl, (callsIn_wide.2 HCL.out).mono ?_⟩
      rintro e w' ⟨rfl, hk⟩
      exact ST.out _ hk
    | 4, ho =>
      obtain ⟨n5, n6, n7, n9, n10⟩ := open_first hcl h1 ⟨_, rfl, ⟨4, .data⟩, by simp, rfl, rfl⟩ ⟨_, rfl, ⟨5, .data⟩, by simp, rfl, rfl⟩ ⟨_, rfl, ⟨5, .data⟩, by simp, rfl, rfl⟩ ⟨_, rfl, ⟨6, .data⟩, by simp, rfl, rfl⟩ ⟨_, rfl, ⟨7, .data⟩, by simp, rfl, rfl⟩
      have st := fun v' err' w' (k : OReg W0 zeroO (OpenO X P W.heap.size) v' err' pp true (on listed 8) (on listed 9) w') => StP.opened (by kernel_rfl) ha hl ho h1 n5 n6 n7 n9 n10 k
      have ST := Lib.hid st; clear st
      cases ho
      rw [if_pos (by rfl)]
      have t9 := ha.new 0 (h2 ⟨0, .data⟩ (by simp) rfl) (d := 9) rfl rfl (by simp)
      simp [openVs] at t9
      have t12 := ha.new 3 (h2 ⟨3, .data⟩ (by simp) rfl) (d := 12) rfl rfl (by simp)
      simp [openVs] at t12
      have HCL := Lib.hid (HOP.out w (kept_trans hk0 hw.kept))
      have HW := Lib.hid hw; clear hw
      go_simp
      refine ⟨trivial, rfl, (callsIn_wide.2 HCL.out).mono ?_⟩
      rintro e w' ⟨v', err', rfl, k', hr⟩
      exact ST.out v' err' w' (HW.out.opened n9 k' W.heap.size hk0.size (fun D U kU hU => OpenO.mono (OpenO.turns hr kU (fun b h1 h2 => hU b h1 (.inr h2))) (kept_trans hk0 HW.out.kept).size))
    | 5, ho =>
      have st := StP.same (by kernel_rfl) ha hw ho h1 (by omega) (by omega) (by omega) (kept_refl w)
      have ST := Lib.hid st; clear st
      cases ho
      rw [if_pos (by rfl)]
      have t13 := ha.new 4 (h2 ⟨4, .data⟩ (by simp) rfl) (d := 13) rfl rfl (by simp)
      simp [openVs] at t13
      go_simp
      exact ST.out
    | 6, ho =>
      have st := StP.same (by kernel_rfl) ha hw ho h1 (by omega) (by omega) (by omega) (kept_refl w)
      have ST := Lib.hid st; clear st
      cases ho
      rw [if_pos (by rfl)]
      have t8 := ha.new 5 (h2 ⟨5, .data⟩ (by simp) rfl) (d := 8) rfl rfl (by simp)
      simp [openVs] at t8
      go_simp
      exact ST.out
    | 7, ho =>
      have st := StP.same (by kernel_rfl) ha hw ho h1 (by omega) (by omega) (by omega) (kept_refl w)
      have ST := Lib.hid st; clear st
      cases ho
      rw [if_pos (by rfl)]
      have t8 := ha.new 5 (h2 ⟨5, .data⟩ (by simp) rfl) (d := 8) rfl rfl (by simp)
      simp [openVs] at t8
      go_simp
      exact ST.out
    | 8, ho =>
      have n9 : on listed 9 = false := by
        cases hb : on listed 9 with
        | false => rfl
        | true => have := hcl 9 _ rfl hb ⟨8, .data⟩ (by simp) rfl; rw [on_no h1] at this; cases this
      have st := StP.boxed 76 (by kernel_rfl) ha hw hl ho h1 n9
      have ST := Lib.hid st; clear st
      cases ho
      rw [if_pos (by rfl)]
      go_simp
      exact ST.out
    | 9, ho =>
      have y8 : on listed 8 = true := h2 ⟨8, .data⟩ (by cases ho; simp) rfl
      have y4 : on listed 4 = true := h2 ⟨4, .chain⟩ (by cases ho; simp) rfl
      have t6 := ha.new 8 y8 (d := 6) rfl rfl (by simp)
      simp [openVs] at t6
      have t14 := ha.new 6 (h2 ⟨6, .data⟩ (by cases ho; simp) rfl) (d := 14) rfl rfl (by simp)
      simp [openVs] at t14
      obtain ⟨hbp, hbz, hcs, hbf⟩ := hw.box y8
      obtain ⟨f0, b0⟩ := hcs 0 (by simp [zeroO])
      obtain ⟨f1, b1⟩ := hcs 1 (by simp [zeroO])
      obtain ⟨f2, b2⟩ := hcs 2 (by simp [zeroO])
      obtain ⟨f3, b3⟩ := hcs 3 (by simp [zeroO])
      obtain ⟨f4, b4⟩ := hcs 4 (by simp [zeroO])
      obtain ⟨f5, b5⟩ := hcs 5 (by simp [zeroO])
      obtain ⟨f6, b6⟩ := hcs 6 (by simp [zeroO])
      have bf0 := hbf 0
      have bf1 := hbf 1
      have bf2 := hbf 2
      have bf3 := hbf 3
      have bf4 := hbf 4
      have bf5 := hbf 5
      have bf6 := hbf 6
      rcases (hw.res y4).here with ⟨_, _, bm, l, rfl, _, _⟩ | ⟨_, _, rfl⟩
      · skip
        have st := StP.stored (by kernel_rfl) ha hw hl ho (by cases ho; rfl) h1 y8 (xs := [.int .i64 X.pipes, .slice X.tp X.tunes.length X.tcap, .slice X.fp X.forks.length X.fcap, .slice X.p X.B.boys.length X.cap, .int .i64 X.B.weeks, .slice X.q X.B.trials.length X.capt, .map (some bm)]) rfl rfl
        simp only [setAll, Nat.reduceAdd] at st
        have ST := Lib.hid st; clear st
        cases ho
        rw [if_pos (by rfl)]
        clear hbf hcs
        go_simp
        exact ST.out
      · skip
        have st := StP.stored (by kernel_rfl) ha hw hl ho (by cases ho; rfl) h1 y8 (xs := [.int .i64 0, .slice none 0 0, .slice none 0 0, .slice none 0 0, .int .i64 0, .slice none 0 0, .map none]) rfl rfl
        simp only [setAll, Nat.reduceAdd] at st
        have ST := Lib.hid st; clear st
        cases ho
        rw [if_pos (by rfl)]
        clear hbf hcs
        go_simp
        exact ST.out
    | 10, ho =>
      have st := StP.same (by kernel_rfl) ha hw ho h1 (by omega) (by omega) (by omega) (kept_refl w)
      have ST := Lib.hid st; clear st
      cases ho
      rw [if_pos (by rfl)]
      have t15 := ha.new 7 (h2 ⟨7, .data⟩ (by simp) rfl) (d := 15) rfl rfl (by simp)
      simp [openVs] at t15
      go_simp
      exact ST.out
  case hend =>
    rintro listed a w hall ⟨v, err, pp, ha, hw⟩
    rw [show on listed 4 = true from hall 4 (by simp), show on listed 8 = true from hall 8 (by simp), show on listed 9 = true from hall 9 (by simp)] at hw
    obtain ⟨y, hy, hae⟩ := ha.lit (n := 23) rfl
    have y1 := (hy 1).symm.trans (ha.old 1 (by kernel_rfl))
    have y2 := (hy 2).symm.trans (ha.old 2 (by kernel_rfl))
    have y4 := (hy 4).symm.trans (ha.old 4 (by kernel_rfl))
    have y5 := (hy 5).symm.trans (ha.old 5 (by kernel_rfl))
    have y6 := (hy 6).symm.trans (ha.new 8 (hall 8 (by simp)) (d := 6) rfl rfl (by simp))
    have y7 := (hy 7).symm.trans (ha.new 10 (hall 10 (by simp)) (d := 7) rfl rfl (by simp))
    simp at y1 y2 y4 y5
    simp [openVs] at y6 y7
    simp only [List.range, List.range.loop, List.map] at hae
    rw [y1, y2, y4, y5, y6, y7] at hae
    subst hae
    clear ha hy y1 y2 y4 y5 y6 y7
    refine (by assumption : ∀ a w, Code.wpIn _ _ _ _ _ a w → _) _ w ?_
    have kW := kept_trans hk0 hw.kept
    obtain ⟨hpb, hpz, _, _⟩ := hw.box rfl
    obtain ⟨_, xs, hv, hxl, hxc⟩ := hw.put rfl
    have u0 := kcell hw.kept s0
    have uf0 := ((kturns hw.kept (fun _ => False)).frozen (Go.Ai.lt_of_cell s0) (fun h => h)).trans sf0
    have u1 := kcell hw.kept s1
    have uf1 := ((kturns hw.kept (fun _ => False)).frozen (Go.Ai.lt_of_cell s1) (fun h => h)).trans sf1
    have hsp : ¬ pp = sb := by have := Go.Ai.lt_of_cell s0; omega
    have hzs := Go.Ai.lt_of_cell u0
    rcases (hw.res rfl).here with ⟨rfl, hcan, bm, l, rfl, hB, hbn⟩ | ⟨rfl, hnc, rfl⟩
    · have e4 := congrArg (fun u => match u with | Value.agg cs => cs.toList | _ => []) hv
      simp only at e4
      have b0 := hxc 0 (.int .i64 X.pipes) (by rw [← e4]; rfl)
      have b1 := hxc 1 (.slice X.tp X.tunes.length X.tcap) (by rw [← e4]; rfl)
      have b2 := hxc 2 (.slice X.fp X.forks.length X.fcap) (by rw [← e4]; rfl)
      have b3 := hxc 3 (.slice X.p X.B.boys.length X.cap) (by rw [← e4]; rfl)
      have b4 := hxc 4 (.int .i64 X.B.weeks) (by rw [← e4]; rfl)
      have b5 := hxc 5 (.slice X.q X.B.trials.length X.capt) (by rw [← e4]; rfl)
      have b6 := hxc 6 (.map (some bm)) (by rw [← e4]; rfl)
      have HB := Lib.hid hB
      have HCN := Lib.hid hcan
      clear e4 hv hxc hxl hB hcan hw hbn
      have hzl := Go.Ai.lt_of_cell b0
      gi_wp2_with fail
      refine ⟨trivial, rfl, (callsIn_wide.2 (HCALL.out bm l _ HB.out)).mono ?_⟩
      rintro e w2 ⟨rfl, hk2⟩
      have kW2 := kept_trans kW hk2
      replace uf0 := ((kturns hk2 (fun _ => False)).frozen hzs (fun h => h)).trans uf0
      replace u0 := kcell hk2 u0
      replace uf1 := ((kturns hk2 (fun _ => False)).frozen hzs (fun h => h)).trans uf1
      replace u1 := kcell hk2 u1
      replace hzs := Go.Ai.lt_of_cell u0
      have hTS : Turns (fun c => c = sb) w2 ((w2.setCell ⟨sb, 0, none⟩ (.int .i64 (-(loftF P X a P)))).setCell ⟨sb, 1, none⟩ (.int .i64 (loftF P X P a))) := ((Turns.refl (fun c => c = sb) w2).setCell rfl _ _).setCell rfl _ _
      have v0 : ((w2.setCell ⟨sb, 0, none⟩ (.int .i64 (-(loftF P X a P)))).setCell ⟨sb, 1, none⟩ (.int .i64 (loftF P X P a))).cell? ⟨sb, 0, none⟩ = some (.int .i64 (-(loftF P X a P))) := by go_simp
      have v1 : ((w2.setCell ⟨sb, 0, none⟩ (.int .i64 (-(loftF P X a P)))).setCell ⟨sb, 1, none⟩ (.int .i64 (loftF P X P a))).cell? ⟨sb, 1, none⟩ = some (.int .i64 (loftF P X P a)) := by go_simp
      gi_wp2_with fail
      generalize ((w2.setCell ⟨sb, 0, none⟩ (.int .i64 (-(loftF P X a P)))).setCell ⟨sb, 1, none⟩ (.int .i64 (loftF P X P a))) = WN at *
      refine bodyPost_ret (v := .tuple #[.agg #[.int .i64 (-(loftF P X a P)), .int .i64 (loftF P X P a)], .int .i64 0]) (by simp [results, Tryz.results18, go_sem, v0, v1]) rfl ?_
      exact ⟨_, _, 0, rfl, Below.trans kW2 (hTS.toBelow (n := W.heap.size) (by rintro b rfl; omega) kW2.size), .inl ⟨rfl, HCN.out, rfl, rfl⟩⟩
    · have HNC := Lib.hid hnc
      clear hv hxc hxl hnc hw
      have hTS : Turns (fun c => c = sb) w ((w.setCell ⟨sb, 0, none⟩ (.int .i64 0)).setCell ⟨sb, 1, none⟩ (.int .i64 0)) := ((Turns.refl (fun c => c = sb) w).setCell rfl _ _).setCell rfl _ _
      have v0 : ((w.setCell ⟨sb, 0, none⟩ (.int .i64 0)).setCell ⟨sb, 1, none⟩ (.int .i64 0)).cell? ⟨sb, 0, none⟩ = some (.int .i64 0) := by go_simp
      have v1 : ((w.setCell ⟨sb, 0, none⟩ (.int .i64 0)).setCell ⟨sb, 1, none⟩ (.int .i64 0)).cell? ⟨sb, 1, none⟩ = some (.int .i64 0) := by go_simp
      gi_wp2_with fail
      generalize ((w.setCell ⟨sb, 0, none⟩ (.int .i64 0)).setCell ⟨sb, 1, none⟩ (.int .i64 0)) = WN at *
      refine bodyPost_ret (v := .tuple #[.agg #[.int .i64 0, .int .i64 0], .int .i64 82]) (by simp [results, Tryz.results18, go_sem, v0, v1]) rfl ?_
      exact ⟨_, _, 82, rfl, Below.trans kW (hTS.toBelow (n := W.heap.size) (by rintro b rfl; omega) kW.size), .inr ⟨rfl, HNC.out, rfl, rfl⟩⟩
end Go.Proofs.YthgfbokfaidklaaGreatDoor
set_option linter.all false
namespace Go.Proofs.YthgfbokfaidklaaGreatDoor
open Go.RowKit Go.Sort Go.Rg
set_option maxRecDepth 100000

theorem bounds_is (a b : Int) (w : World) : Calls Tryz.prog 19 #[.int .i64 a, .int .i64 b] w fun e w' => e = .returned (.agg #[.int .i64 a, .int .i64 b]) ∧ Kept w w' := by
  go_enter Tryz.func19, Tryz.ntmps19
  go_wp2_with fail
  refine bodyPost_ret (v := .agg #[.int .i64 a, .int .i64 b]) (by simp [results, Tryz.results19, go_sem]) rfl ⟨rfl, ?_⟩
  exact kept_alloc (kept_refl _) _
theorem under_true (a b c d : Int) (w : World) (h1 : c ≤ a) (h2 : b ≤ d) : Calls Tryz.prog 20 #[.agg #[.int .i64 a, .int .i64 b], .agg #[.int .i64 c, .int .i64 d]] w fun e w' => e = .returned (.bool true) ∧ Kept w w' := by
  go_enter Tryz.func20, Tryz.ntmps20
  go_wp2_with fail
  go_ret
  exact ⟨rfl, kept_alloc (kept_alloc (kept_refl _) _) _⟩
end Go.Proofs.YthgfbokfaidklaaGreatDoor
set_option linter.all false
namespace Go.Proofs.YthgfbokfaidklaaGreatDoor
open Go.RowKit Go.Sort Go.Rg
set_option maxRecDepth 100000
set_option maxHeartbeats 4000000

theorem tuned_is (w : World) (hL : Laid w) (hN : Nothing w) (hR : ONothing w) : Calls Tryz.prog 8 #[] w fun e w' => e = .returned (.bool true) ∧ Kept w w' := by
  obtain ⟨l0, l1⟩ := hL
  have I : Go.Ai.Inv 3 (fun b => ⟨b, 0, 0⟩) seTop.heap w := by
    refine Go.Ai.start_inv (G := 3) (by decide) (by decide) (by decide) fun b x hx => ?_
    simp only [seTop, gC, List.mem_cons, List.not_mem_nil, or_false, Prod.mk.injEq] at hx
    rcases hx with ⟨rfl, rfl⟩ | ⟨rfl, rfl⟩ | ⟨rfl, rfl⟩
    · refine .inr ⟨_, rfl, by decide, fun i v hv => ?_, Go.Ai.lt_of_cell (hR 0 (by omega))⟩
      match i, hv with
      | 0, hv => cases hv; exact hR 0 (by omega)
      | 1, hv => cases hv; exact hR 1 (by omega)
      | 2, hv => cases hv; exact hR 2 (by omega)
      | 3, hv => cases hv; exact hR 3 (by omega)
      | 4, hv => cases hv; exact hR 4 (by omega)
    · refine .inr ⟨_, rfl, by decide, fun i v hv => ?_, Go.Ai.lt_of_cell (hN 0 (by omega))⟩
      match i, hv with
      | 0, hv => cases hv; exact hN 0 (by omega)
      | 1, hv => cases hv; exact hN 1 (by omega)
      | 2, hv => cases hv; exact hN 2 (by omega)
      | 3, hv => cases hv; exact hN 3 (by omega)
      | 4, hv => cases hv; exact hN 4 (by omega)
    · obtain ⟨m0, m1, m2, m3, m4, m5, m6, m7, m8, m9⟩ := l1
      refine .inr ⟨_, rfl, by decide, fun i v hv => ?_, l0⟩
      match i, hv with
      | 0, hv => cases hv; exact m0
      | 1, hv => cases hv; exact m1
      | 2, hv => cases hv; exact m2
      | 3, hv => cases hv; exact m3
      | 4, hv => cases hv; exact m4
      | 5, hv => cases hv; exact m5
      | 6, hv => cases hv; exact m6
      | 7, hv => cases hv; exact m7
      | 8, hv => cases hv; exact m8
      | 9, hv => cases hv; exact m9
  refine (Go.Ai.calls_of_ent seTop_h rfl I rfl).mono fun e w' ⟨j2, he, A⟩ => ⟨?_, ⟨A.os, A.tape, A.output, A.size, A.heap⟩⟩
  rw [he]; rfl

theorem eqSpan (a b c d : Int) (w : World) : (Op.equalIn 10000 35 (.agg #[.int .i64 a, .int .i64 b]) (.agg #[.int .i64 c, .int .i64 d])).run Tryz.prog w = .ok (a == c && b == d) w := by
  have u3 := Tryz.underlying3
  have hS : Tryz.prog.underlying 35 = some (.struct (Tryz.prog.fieldsOf 35)) := by kernel_rfl
  have hp : Tryz.prog.stoodInHeld 35 = false := by kernel_rfl
  rw [show (10000 : Nat) = 9999 + 1 from rfl, run_equalIn_agg w 9999 35 _ _ hS hp]
  simp only [Program.fieldsOf, Tryz.underlying35]
  go_simp
  by_cases h1 : a = c <;> by_cases h2 : b = d <;> simp [h1, h2]
end Go.Proofs.YthgfbokfaidklaaGreatDoor
set_option linter.all false
namespace Go.Proofs.YthgfbokfaidklaaGreatDoor
open Go.RowKit Go.Sort Go.Rg
set_option maxRecDepth 100000
attribute [local go_sem] Oper.semAt_some

/-- a loft that can be: no bound is greater than by way of another pipe, or the town's -/
theorem loft_tri {P : Nat} {X : OBook} (hok : X.okB = true) (hP : X.pipes = (P : Int)) (hc : canR (loftF P X) P = true) {m i j : Nat} (hm : m ≤ P) (hi : i ≤ P) (hj : j ≤ P) : loftF P X i j ≤ loftF P X i m + loftF P X m j :=
  (fw_tri P (tunsF P X (tuningsL P X).length) (fun i _ => diag_tuns hok hP i _) (canR_diag hc)).1 m (by omega) i j hi hj

end Go.Proofs.YthgfbokfaidklaaGreatDoor
