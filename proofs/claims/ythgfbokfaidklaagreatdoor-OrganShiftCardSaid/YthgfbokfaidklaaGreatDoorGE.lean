/- How a bound is asked and bound anew. No conditions but what the map holds. -/
import Derived.Test.YthgfbokfaidklaaGreatDoorGC
import Derived.Test.YthgfbokfaidklaaGreatDoorGD
import Derived.OwnWalkIn
import Derived.Laws.StructEq
set_option linter.all false
set_option linter.all false
namespace Go.Proofs.YthgfbokfaidklaaGreatDoor
open Go.RowKit Go.Sort Go.Rg
set_option maxRecDepth 100000
set_option maxHeartbeats 4000000

theorem okO_parts {X : OBook} (h : X.okB = true) : (1 ≤ X.pipes ∧ X.pipes ≤ 5) ∧ X.tunes.length ≤ 6 ∧ (∀ t ∈ X.tunes, t.okB X.pipes = true) ∧ X.forks.length ≤ 3 ∧ (∀ t ∈ X.forks, t.okB X.pipes = true) ∧ X.B.okB = true := by
  simp only [OBook.okB, inB, Bool.and_eq_true, decide_eq_true_eq, List.all_eq_true] at h
  obtain ⟨⟨⟨⟨⟨h1, h2⟩, h3⟩, h4⟩, h5⟩, h6⟩ := h
  exact ⟨h1, h2, h3, h4, h5, h6⟩
theorem tune_parts {P : Int} {t : Tune} (h : t.okB P = true) : (0 ≤ t.src ∧ t.src ≤ P - 1) ∧ (0 ≤ t.dst ∧ t.dst ≤ P - 1) ∧ t.src ≠ t.dst ∧ (-30 ≤ t.off ∧ t.off ≤ 30) ∧ 0 ≤ t.err ∧ t.err ≤ 5 := by
  simp only [Tune.okB, inB, Bool.and_eq_true, decide_eq_true_eq, bne_iff_ne] at h
  obtain ⟨⟨⟨⟨h1, h2⟩, h3⟩, h4⟩, h5⟩ := h
  exact ⟨h1, h2, h3, h4, h5⟩
theorem fork_parts {P : Int} {t : Fork} (h : t.okB P = true) : (0 ≤ t.pipe ∧ t.pipe ≤ P - 1) ∧ (-60 ≤ t.read ∧ t.read ≤ 60) ∧ 0 ≤ t.err ∧ t.err ≤ 5 := by
  simp only [Fork.okB, inB, Bool.and_eq_true, decide_eq_true_eq] at h
  obtain ⟨⟨h1, h2⟩, h3⟩ := h
  exact ⟨h1, h2, h3⟩
theorem vcheck_ok (X : OBook) (w : World) (h : BookAt w X.p X.q X.cap X.capt X.B) (hok : X.B.okB = true) : Calls Tryz.prog 24 #[.agg #[.slice X.p X.B.boys.length X.cap, .int .i64 X.B.weeks, .slice X.q X.B.trials.length X.capt]] w fun e w' => e = .returned (.int .i64 0) ∧ Kept w w' := by
  have := check_any X.p X.q X.cap X.capt X.B w h
  unfold Book.val at this
  rw [hok, if_pos rfl] at this
  exact this
theorem vcheck_no (X : OBook) (w : World) (h : BookAt w X.p X.q X.cap X.capt X.B) (hok : X.B.okB = false) : Calls Tryz.prog 24 #[.agg #[.slice X.p X.B.boys.length X.cap, .int .i64 X.B.weeks, .slice X.q X.B.trials.length X.capt]] w fun e w' => e = .returned (.int .i64 20) ∧ Kept w w' := by
  have := check_any X.p X.q X.cap X.capt X.B w h
  unfold Book.val at this
  rw [hok, if_neg (by simp)] at this
  exact this
theorem allTune_eq (p : Option Addr) (cap bb : Nat) (X : OBook) (l : List Tune) (w : World) {g : Bool} (hg : l.all (Tune.okB X.pipes) = g) (hT : TunesAt w p l) (hn : l.length ≤ 6) (hb : BoxO w bb X) (hP : 1 ≤ X.pipes ∧ X.pipes ≤ 5) :
   Calls Tryz.prog 80 #[.slice p l.length cap, .func (.func 81) #[] #[.pointer (some ⟨bb, 0, none⟩)]] w fun e w' => e = .returned (.bool g) ∧ Kept w w' := hg ▸ allTune_any p cap bb X l w hT hn hb hP
theorem allFork_eq (p : Option Addr) (cap bb : Nat) (X : OBook) (l : List Fork) (w : World) {g : Bool} (hg : l.all (Fork.okB X.pipes) = g) (hT : ForksAt w p l) (hn : l.length ≤ 6) (hb : BoxO w bb X) (hP : 1 ≤ X.pipes ∧ X.pipes ≤ 5) :
   Calls Tryz.prog 82 #[.slice p l.length cap, .func (.func 83) #[] #[.pointer (some ⟨bb, 0, none⟩)]] w fun e w' => e = .returned (.bool g) ∧ Kept w w' := hg ▸ allFork_any p cap bb X l w hT hn hb hP

theorem oValid_any (X : OBook) (w : World) (h : OBookAt w X) : Calls Tryz.prog 49 #[.agg #[.int .i64 X.pipes, .slice X.tp X.tunes.length X.tcap, .slice X.fp X.forks.length X.fcap, .slice X.p X.B.boys.length X.cap, .int .i64 X.B.weeks, .slice X.q X.B.trials.length X.capt]] w fun e w' => e = .returned (.bool X.okB) ∧ Kept w w' := by
  have hk0 : Kept w (w.alloc (Obj.cells #[.int .i64 X.pipes, .slice X.tp X.tunes.length X.tcap, .slice X.fp X.forks.length X.fcap, .slice X.p X.B.boys.length X.cap, .int .i64 X.B.weeks, .slice X.q X.B.trials.length X.capt] 29)) := kept_alloc (kept_refl _) _
  have HBX := Lib.hid (boxO_new w X)
  obtain ⟨x0, x1, x2, x3, x4, x5⟩ := boxO_new w X
  have hz0 : w.heap.size < (w.alloc (Obj.cells #[.int .i64 X.pipes, .slice X.tp X.tunes.length X.tcap, .slice X.fp X.forks.length X.fcap, .slice X.p X.B.boys.length X.cap, .int .i64 X.B.weeks, .slice X.q X.B.trials.length X.capt] 29)).heap.size := Go.Ai.lt_of_cell x0
  have HI := Lib.hid (fun n l h g W (hg : inB n l h = g) => oIsIn_eq n l h W hg)
  have HT := Lib.hid (fun V g (hg : X.tunes.all (Tune.okB X.pipes) = g) (kk : Kept w V) hn (hb : BoxO V w.heap.size X) hP => allTune_eq X.tp X.tcap w.heap.size X X.tunes V hg (h.tunes.kept kk) hn hb hP)
  have HF := Lib.hid (fun V g (hg : X.forks.all (Fork.okB X.pipes) = g) (kk : Kept w V) hn (hb : BoxO V w.heap.size X) hP => allFork_eq X.fp X.fcap w.heap.size X X.forks V hg (h.forks.kept kk) hn hb hP)
  have HV1 := Lib.hid (fun V (kk : Kept w V) hok => vcheck_ok X V (h.book.kept kk) hok)
  have HV0 := Lib.hid (fun V (kk : Kept w V) hok => vcheck_no X V (h.book.kept kk) hok)
  clear h
  rcases h0 : inB X.pipes 1 5 with _ | _
  · skip
    have H0 := Lib.hid h0; clear h0
    have HR := Lib.hid (show X.okB = false by simp only [OBook.okB, H0.out]; simp)
    go_enter Tryz.func49, Tryz.ntmps49
    go_wp2_with fail
    generalize (w.alloc (Obj.cells #[.int .i64 X.pipes, .slice X.tp X.tunes.length X.tcap, .slice X.fp X.forks.length X.fcap, .slice X.p X.B.boys.length X.cap, .int .i64 X.B.weeks, .slice X.q X.B.trials.length X.capt] 29)) = W0 at *
    with_reducible refine (HI.out _ _ _ _ _ H0.out).mono ?_
    rintro e w0 ⟨rfl, rfl⟩
    go_wp2_with fail
    go_ret
    exact ⟨by rw [HR.out]; rfl, hk0⟩
  · skip
    have HP5 := Lib.hid (show 1 ≤ X.pipes ∧ X.pipes ≤ 5 by simpa [inB] using h0)
    have H0 := Lib.hid h0; clear h0
    rcases h1 : decide (X.tunes.length ≤ 6) with _ | _
    · skip
      have d1 : decide ((X.tunes.length : Int) ≤ 6) = false := by have := of_decide_eq_false h1; simp; omega
      have H1 := Lib.hid h1; clear h1
      have HR := Lib.hid (show X.okB = false by simp only [OBook.okB, H1.out]; simp)
      go_enter Tryz.func49, Tryz.ntmps49
      go_wp2_with fail
      generalize (w.alloc (Obj.cells #[.int .i64 X.pipes, .slice X.tp X.tunes.length X.tcap, .slice X.fp X.forks.length X.fcap, .slice X.p X.B.boys.length X.cap, .int .i64 X.B.weeks, .slice X.q X.B.trials.length X.capt] 29)) = W0 at *
      with_reducible refine (HI.out _ _ _ _ _ H0.out).mono ?_
      rintro e w0 ⟨rfl, rfl⟩
      go_wp2_with fail
      go_ret
      exact ⟨by rw [HR.out]; rfl, hk0⟩
    · skip
      have HN1 := Lib.hid (of_decide_eq_true h1)
      have d1 : decide ((X.tunes.length : Int) ≤ 6) = true := by have := HN1.out; simp; omega
      have H1 := Lib.hid h1; clear h1
      rcases h2 : X.tunes.all (Tune.okB X.pipes) with _ | _
      · skip
        have H2 := Lib.hid h2; clear h2
        have HR := Lib.hid (show X.okB = false by simp only [OBook.okB, H2.out]; simp)
        go_enter Tryz.func49, Tryz.ntmps49
        go_wp2_with fail
        generalize (w.alloc (Obj.cells #[.int .i64 X.pipes, .slice X.tp X.tunes.length X.tcap, .slice X.fp X.forks.length X.fcap, .slice X.p X.B.boys.length X.cap, .int .i64 X.B.weeks, .slice X.q X.B.trials.length X.capt] 29)) = W0 at *
        with_reducible refine (HI.out _ _ _ _ _ H0.out).mono ?_
        rintro e w0 ⟨rfl, rfl⟩
        go_wp2_with fail
        with_reducible refine (HT.out _ _ H2.out hk0 HN1.out HBX.out HP5.out).mono ?_
        rintro e w2 ⟨rfl, k2⟩
        have kk2 := kept_trans hk0 k2
        have HBX2 := Lib.hid (HBX.out.kept k2)
        replace x0 := kcell k2 x0
        replace x1 := kcell k2 x1
        replace x2 := kcell k2 x2
        replace x3 := kcell k2 x3
        replace x4 := kcell k2 x4
        replace x5 := kcell k2 x5
        go_wp2_with fail
        go_ret
        exact ⟨by rw [HR.out]; rfl, kk2⟩
      · skip
        have H2 := Lib.hid h2; clear h2
        rcases h3 : decide (X.forks.length ≤ 3) with _ | _
        · skip
          have d3 : decide ((X.forks.length : Int) ≤ 3) = false := by have := of_decide_eq_false h3; simp; omega
          have H3 := Lib.hid h3; clear h3
          have HR := Lib.hid (show X.okB = false by simp only [OBook.okB, H3.out]; simp)
          go_enter Tryz.func49, Tryz.ntmps49
          go_wp2_with fail
          generalize (w.alloc (Obj.cells #[.int .i64 X.pipes, .slice X.tp X.tunes.length X.tcap, .slice X.fp X.forks.length X.fcap, .slice X.p X.B.boys.length X.cap, .int .i64 X.B.weeks, .slice X.q X.B.trials.length X.capt] 29)) = W0 at *
          with_reducible refine (HI.out _ _ _ _ _ H0.out).mono ?_
          rintro e w0 ⟨rfl, rfl⟩
          go_wp2_with fail
          with_reducible refine (HT.out _ _ H2.out hk0 HN1.out HBX.out HP5.out).mono ?_
          rintro e w2 ⟨rfl, k2⟩
          have kk2 := kept_trans hk0 k2
          have HBX2 := Lib.hid (HBX.out.kept k2)
          replace x0 := kcell k2 x0
          replace x1 := kcell k2 x1
          replace x2 := kcell k2 x2
          replace x3 := kcell k2 x3
          replace x4 := kcell k2 x4
          replace x5 := kcell k2 x5
          go_wp2_with fail
          go_ret
          exact ⟨by rw [HR.out]; rfl, kk2⟩
        · skip
          have HN3 := Lib.hid (of_decide_eq_true h3)
          have d3 : decide ((X.forks.length : Int) ≤ 3) = true := by have := HN3.out; simp; omega
          have H3 := Lib.hid h3; clear h3
          rcases h4 : X.forks.all (Fork.okB X.pipes) with _ | _
          · skip
            have H4 := Lib.hid h4; clear h4
            have HR := Lib.hid (show X.okB = false by simp only [OBook.okB, H4.out]; simp)
            go_enter Tryz.func49, Tryz.ntmps49
            go_wp2_with fail
            generalize (w.alloc (Obj.cells #[.int .i64 X.pipes, .slice X.tp X.tunes.length X.tcap, .slice X.fp X.forks.length X.fcap, .slice X.p X.B.boys.length X.cap, .int .i64 X.B.weeks, .slice X.q X.B.trials.length X.capt] 29)) = W0 at *
            with_reducible refine (HI.out _ _ _ _ _ H0.out).mono ?_
            rintro e w0 ⟨rfl, rfl⟩
            go_wp2_with fail
            with_reducible refine (HT.out _ _ H2.out hk0 HN1.out HBX.out HP5.out).mono ?_
            rintro e w2 ⟨rfl, k2⟩
            have kk2 := kept_trans hk0 k2
            have HBX2 := Lib.hid (HBX.out.kept k2)
            replace x0 := kcell k2 x0
            replace x1 := kcell k2 x1
            replace x2 := kcell k2 x2
            replace x3 := kcell k2 x3
            replace x4 := kcell k2 x4
            replace x5 := kcell k2 x5
            go_wp2_with fail
            with_reducible refine (HF.out _ _ H4.out kk2 (by have := HN3.out; omega) HBX2.out HP5.out).mono ?_
            rintro e w4 ⟨rfl, k4⟩
            have kk4 := kept_trans kk2 k4
            have HBX4 := Lib.hid (HBX2.out.kept k4)
            replace x0 := kcell k4 x0
            replace x1 := kcell k4 x1
            replace x2 := kcell k4 x2
            replace x3 := kcell k4 x3
            replace x4 := kcell k4 x4
            replace x5 := kcell k4 x5
            go_wp2_with fail
            go_ret
            exact ⟨by rw [HR.out]; rfl, kk4⟩
          · skip
            have H4 := Lib.hid h4; clear h4
            rcases h5 : X.B.okB with _ | _
            · skip
              have H5 := Lib.hid h5; clear h5
              have HR := Lib.hid (show X.okB = false by simp only [OBook.okB, H5.out]; simp)
              go_enter Tryz.func49, Tryz.ntmps49
              go_wp2_with fail
              generalize (w.alloc (Obj.cells #[.int .i64 X.pipes, .slice X.tp X.tunes.length X.tcap, .slice X.fp X.forks.length X.fcap, .slice X.p X.B.boys.length X.cap, .int .i64 X.B.weeks, .slice X.q X.B.trials.length X.capt] 29)) = W0 at *
              with_reducible refine (HI.out _ _ _ _ _ H0.out).mono ?_
              rintro e w0 ⟨rfl, rfl⟩
              go_wp2_with fail
              with_reducible refine (HT.out _ _ H2.out hk0 HN1.out HBX.out HP5.out).mono ?_
              rintro e w2 ⟨rfl, k2⟩
              have kk2 := kept_trans hk0 k2
              have HBX2 := Lib.hid (HBX.out.kept k2)
              replace x0 := kcell k2 x0
              replace x1 := kcell k2 x1
              replace x2 := kcell k2 x2
              replace x3 := kcell k2 x3
              replace x4 := kcell k2 x4
              replace x5 := kcell k2 x5
              go_wp2_with fail
              with_reducible refine (HF.out _ _ H4.out kk2 (by have := HN3.out; omega) HBX2.out HP5.out).mono ?_
              rintro e w4 ⟨rfl, k4⟩
              have kk4 := kept_trans kk2 k4
              have HBX4 := Lib.hid (HBX2.out.kept k4)
              replace x0 := kcell k4 x0
              replace x1 := kcell k4 x1
              replace x2 := kcell k4 x2
              replace x3 := kcell k4 x3
              replace x4 := kcell k4 x4
              replace x5 := kcell k4 x5
              go_wp2_with fail
              with_reducible refine (HV0.out _ kk4 H5.out).mono ?_
              rintro e w5 ⟨rfl, k5⟩
              have kk5 := kept_trans kk4 k5
              have HBX5 := Lib.hid (HBX4.out.kept k5)
              replace x0 := kcell k5 x0
              replace x1 := kcell k5 x1
              replace x2 := kcell k5 x2
              replace x3 := kcell k5 x3
              replace x4 := kcell k5 x4
              replace x5 := kcell k5 x5
              go_wp2_with fail
              go_ret
              exact ⟨by rw [HR.out]; rfl, kk5⟩
            · skip
              have H5 := Lib.hid h5; clear h5
              have HR := Lib.hid (show X.okB = true by simp only [OBook.okB, H0.out, H1.out, H2.out, H3.out, H4.out, H5.out]; rfl)
              go_enter Tryz.func49, Tryz.ntmps49
              go_wp2_with fail
              generalize (w.alloc (Obj.cells #[.int .i64 X.pipes, .slice X.tp X.tunes.length X.tcap, .slice X.fp X.forks.length X.fcap, .slice X.p X.B.boys.length X.cap, .int .i64 X.B.weeks, .slice X.q X.B.trials.length X.capt] 29)) = W0 at *
              with_reducible refine (HI.out _ _ _ _ _ H0.out).mono ?_
              rintro e w0 ⟨rfl, rfl⟩
              go_wp2_with fail
              with_reducible refine (HT.out _ _ H2.out hk0 HN1.out HBX.out HP5.out).mono ?_
              rintro e w2 ⟨rfl, k2⟩
              have kk2 := kept_trans hk0 k2
              have HBX2 := Lib.hid (HBX.out.kept k2)
              replace x0 := kcell k2 x0
              replace x1 := kcell k2 x1
              replace x2 := kcell k2 x2
              replace x3 := kcell k2 x3
              replace x4 := kcell k2 x4
              replace x5 := kcell k2 x5
              go_wp2_with fail
              with_reducible refine (HF.out _ _ H4.out kk2 (by have := HN3.out; omega) HBX2.out HP5.out).mono ?_
              rintro e w4 ⟨rfl, k4⟩
              have kk4 := kept_trans kk2 k4
              have HBX4 := Lib.hid (HBX2.out.kept k4)
              replace x0 := kcell k4 x0
              replace x1 := kcell k4 x1
              replace x2 := kcell k4 x2
              replace x3 := kcell k4 x3
              replace x4 := kcell k4 x4
              replace x5 := kcell k4 x5
              go_wp2_with fail
              with_reducible refine (HV1.out _ kk4 H5.out).mono ?_
              rintro e w5 ⟨rfl, k5⟩
              have kk5 := kept_trans kk4 k5
              have HBX5 := Lib.hid (HBX4.out.kept k5)
              replace x0 := kcell k5 x0
              replace x1 := kcell k5 x1
              replace x2 := kcell k5 x2
              replace x3 := kcell k5 x3
              replace x4 := kcell k5 x4
              replace x5 := kcell k5 x5
              go_wp2_with fail
              go_ret
              exact ⟨by rw [HR.out]; rfl, kk5⟩

theorem oCheck_any (X : OBook) (w : World) (h : OBookAt w X) : Calls Tryz.prog 23 #[.agg #[.int .i64 X.pipes, .slice X.tp X.tunes.length X.tcap, .slice X.fp X.forks.length X.fcap, .slice X.p X.B.boys.length X.cap, .int .i64 X.B.weeks, .slice X.q X.B.trials.length X.capt]] w fun e w' => e = .returned (.int .i64 (if X.okB then 0 else 80)) ∧ Kept w w' := by
  have hk0 : Kept w (w.alloc (Obj.cells #[.int .i64 X.pipes, .slice X.tp X.tunes.length X.tcap, .slice X.fp X.forks.length X.fcap, .slice X.p X.B.boys.length X.cap, .int .i64 X.B.weeks, .slice X.q X.B.trials.length X.capt] 29)) := kept_alloc (kept_refl _) _
  have HC := Lib.hid (oValid_any X _ (h.kept hk0))
  rcases hg : X.okB with _ | _
  all_goals
    rw [hg] at HC
    clear hg
    go_enter Tryz.func23, Tryz.ntmps23
    go_wp2_with fail
    refine HC.out.mono ?_
    rintro e w' ⟨rfl, hk⟩
    go_wp2_with fail
    go_ret
    exact ⟨by simp, kept_trans hk0 hk⟩
theorem lies_eq (n l h : Int) (W : World) {g : Bool} (hg : inB n l h = g) : Calls Tryz.prog 16 #[.int .i64 n, .int .i64 l, .int .i64 h] W fun e w' => e = .returned (.bool g) ∧ W = w' := hg ▸ lies_any n l h W

theorem smallO_any (X : OBook) (w : World) (h : OBookAt w X) : Calls Tryz.prog 7 #[.agg #[.int .i64 X.pipes, .slice X.tp X.tunes.length X.tcap, .slice X.fp X.forks.length X.fcap, .slice X.p X.B.boys.length X.cap, .int .i64 X.B.weeks, .slice X.q X.B.trials.length X.capt]] w fun e w' => e = .returned (.bool X.okB) ∧ Kept w w' := by
  have hk0 : Kept w (w.alloc (Obj.cells #[.int .i64 X.pipes, .slice X.tp X.tunes.length X.tcap, .slice X.fp X.forks.length X.fcap, .slice X.p X.B.boys.length X.cap, .int .i64 X.B.weeks, .slice X.q X.B.trials.length X.capt] 29)) := kept_alloc (kept_refl _) _
  obtain ⟨x0, x1, x2, x3, x4, x5⟩ := boxO_new w X
  have HC := Lib.hid (oCheck_any X _ (h.kept hk0))
  rcases hok : X.okB with _ | _
  · rw [hok, if_neg (by simp)] at HC
    clear hok h
    go_enter Tryz.func7, Tryz.ntmps7
    go_wp2_with fail
    generalize (w.alloc (Obj.cells #[.int .i64 X.pipes, .slice X.tp X.tunes.length X.tcap, .slice X.fp X.forks.length X.fcap, .slice X.p X.B.boys.length X.cap, .int .i64 X.B.weeks, .slice X.q X.B.trials.length X.capt] 29)) = V0 at *
    with_reducible refine HC.out.mono ?_
    rintro e V1 ⟨rfl, hk1⟩
    have hk01 := kept_trans hk0 hk1
    go_wp2_with fail
    go_loopw [3, 4] (fun t i V => t = .bool false ∧ i = .int .i64 0 ∧ Kept w V) (fun _ _ _ => 0)
    case atStart => exact ⟨rfl, rfl, hk01⟩
    case round =>
      obtain ⟨rfl, rfl, hkV⟩ := hrel
      go_wp2_with fail
      go_loopw [3, 6] (fun t i V => t = .bool false ∧ i = .int .i64 0 ∧ Kept w V) (fun _ _ _ => 0)
      case atStart => exact ⟨rfl, rfl, hkV⟩
      case round =>
        obtain ⟨rfl, rfl, hkV2⟩ := hrel
        go_wp2_with fail
        go_ret
        exact ⟨rfl, hkV2⟩
  · rw [hok, if_pos rfl] at HC
    obtain ⟨hP, hn1, htt, hn2, hff, hv⟩ := okO_parts hok
    have hvv := hv
    simp only [Book.okB, inB, Bool.and_eq_true, decide_eq_true_eq] at hvv
    have HV := Lib.hid (fun V (kk : Kept w V) => vcheck_ok X V (h.book.kept kk) hv)
    have HTT := Lib.hid htt; clear htt
    have HFF := Lib.hid hff; clear hff
    have HAT := Lib.hid h.tunes
    have HAF := Lib.hid h.forks
    have l1 := Lib.hid (fun V => lies_eq X.pipes 1 5 V (g := true) (by simp [inB]; omega))
    have l2 := Lib.hid (fun V => lies_eq (X.B.boys.length) 1 4 V (g := true) (by simp [inB]; omega))
    have l3 := Lib.hid (fun V => lies_eq X.B.weeks 1 6 V (g := true) (by simp [inB]; omega))
    have d1 : decide ((X.tunes.length : Int) ≤ 6) = true := by simp; omega
    have d2 : decide ((X.forks.length : Int) ≤ 3) = true := by simp; omega
    have hwr : IntKind.i64.wrap (X.pipes - 1) = X.pipes - 1 := IntWalk.i64_in _ (by omega)
    clear hvv hok hv h
    go_enter Tryz.func7, Tryz.ntmps7
    go_wp2_with fail
    generalize (w.alloc (Obj.cells #[.int .i64 X.pipes, .slice X.tp X.tunes.length X.tcap, .slice X.fp X.forks.length X.fcap, .slice X.p X.B.boys.length X.cap, .int .i64 X.B.weeks, .slice X.q X.B.trials.length X.capt] 29)) = V0 at *
    with_reducible refine HC.out.mono ?_
    rintro e V1 ⟨rfl, hk1⟩
    have hk01 := kept_trans hk0 hk1
    replace x0 := kcell hk1 x0
    replace x1 := kcell hk1 x1
    replace x2 := kcell hk1 x2
    replace x3 := kcell hk1 x3
    replace x4 := kcell hk1 x4
    replace x5 := kcell hk1 x5
    go_wp2_with fail
    with_reducible refine (HV.out V1 hk01).mono ?_
    rintro e V2 ⟨rfl, hk2⟩
    have hk02 := kept_trans hk01 hk2
    replace x0 := kcell hk2 x0
    replace x1 := kcell hk2 x1
    replace x2 := kcell hk2 x2
    replace x3 := kcell hk2 x3
    replace x4 := kcell hk2 x4
    replace x5 := kcell hk2 x5
    go_wp2_with (go_at_call 16; first | (with_reducible refine (l1.out _).mono ?_; rintro e w' ⟨rfl, rfl⟩) | (with_reducible refine (l2.out _).mono ?_; rintro e w' ⟨rfl, rfl⟩) | (with_reducible refine (l3.out _).mono ?_; rintro e w' ⟨rfl, rfl⟩))
    go_loopw [3, 4] (fun t i V => ∃ j : Nat, j ≤ X.tunes.length ∧ t = .bool true ∧ i = .int .i64 j ∧ Kept V2 V) (fun _ i _ => X.tunes.length - (intOf i).toNat)
    case atStart => exact ⟨0, by omega, rfl, rfl, kept_refl _⟩
    case round =>
      obtain ⟨j, hj, rfl, rfl, hkV⟩ := hrel
      have hk0V := kept_trans hk02 hkV
      have e0 := kcell hkV x0
      have e1 := kcell hkV x1
      have e2 := kcell hkV x2
      by_cases hlt : j < X.tunes.length
      · have hltI : (j : Int) < X.tunes.length := by omega
        obtain ⟨t, ht⟩ : ∃ t, X.tunes[j]? = some t := ⟨_, List.getElem?_eq_getElem hlt⟩
        obtain ⟨b, oo, htp, hTI⟩ : ∃ b o, X.tp = some ⟨b, o, none⟩ ∧ TunesIn w b o X.tunes := by
          rcases HAT.out with e | h
          · rw [e] at hlt; simp at hlt
          · exact h
        obtain ⟨c0, c1, c2, c3⟩ := (hTI.kept hk0V).2 j t ht
        have hbz := (hTI.kept hk0V).1
        obtain ⟨q1, q2, q3, q4, q5⟩ := tune_parts (HTT.out t (List.mem_of_getElem? ht))
        have m1 := Lib.hid (fun V => lies_eq t.src 0 (X.pipes - 1) V (g := true) (by simp [inB]; omega))
        have m2 := Lib.hid (fun V => lies_eq t.dst 0 (X.pipes - 1) V (g := true) (by simp [inB]; omega))
        have m3 := Lib.hid (fun V => lies_eq t.off (-30) 30 V (g := true) (by simp [inB]; omega))
        have m4 := Lib.hid (fun V => lies_eq t.err 0 5 V (g := true) (by simp [inB]; omega))
        have hne : (t.src != t.dst) = true := by simp; omega
        rw [htp] at e1
        clear ht hTI q1 q2 q3 q4 q5 htp
        have hbx := Go.Ai.lt_of_cell e0
        have kx : Kept wr (wr.alloc (Obj.cells #[.int .i64 t.src, .int .i64 t.dst, .int .i64 t.off, .int .i64 t.err] 67)) := kept_alloc (kept_refl _) _
        go_wp2_with (go_at_call 16; first | (with_reducible refine (m1.out _).mono ?_; rintro e w' ⟨rfl, rfl⟩) | (with_reducible refine (m2.out _).mono ?_; rintro e w' ⟨rfl, rfl⟩) | (with_reducible refine (m3.out _).mono ?_; rintro e w' ⟨rfl, rfl⟩) | (with_reducible refine (m4.out _).mono ?_; rintro e w' ⟨rfl, rfl⟩))
        go_roundw
        case rel => exact ⟨j + 1, by omega, rfl, by go_num, kept_trans hkV kx⟩
        case measure => simp [intOf]; omega
      · have hltI : ¬ (j : Int) < X.tunes.length := by omega
        obtain rfl : j = X.tunes.length := by omega
        go_wp2_with fail
        go_loopw [3, 6] (fun t i V => ∃ j : Nat, j ≤ X.forks.length ∧ t = .bool true ∧ i = .int .i64 j ∧ Kept V2 V) (fun _ i _ => X.forks.length - (intOf i).toNat)
        case atStart => exact ⟨0, by omega, rfl, rfl, hkV⟩
        case round =>
          obtain ⟨j, hj, rfl, rfl, hkV⟩ := hrel
          have hk0V := kept_trans hk02 hkV
          have e0 := kcell hkV x0
          have e2 := kcell hkV x2
          by_cases hlt : j < X.forks.length
          · have hltI : (j : Int) < X.forks.length := by omega
            obtain ⟨t, ht⟩ : ∃ t, X.forks[j]? = some t := ⟨_, List.getElem?_eq_getElem hlt⟩
            obtain ⟨b, oo, htp, hTI⟩ : ∃ b o, X.fp = some ⟨b, o, none⟩ ∧ ForksIn w b o X.forks := by
              rcases HAF.out with e | h
              · rw [e] at hlt; simp at hlt
              · exact h
            obtain ⟨c0, c1, c2⟩ := (hTI.kept hk0V).2 j t ht
            have hbz := (hTI.kept hk0V).1
            obtain ⟨q1, q4, q5⟩ := fork_parts (HFF.out t (List.mem_of_getElem? ht))
            have m1 := Lib.hid (fun V => lies_eq t.pipe 0 (X.pipes - 1) V (g := true) (by simp [inB]; omega))
            have m3 := Lib.hid (fun V => lies_eq t.read (-60) 60 V (g := true) (by simp [inB]; omega))
            have m4 := Lib.hid (fun V => lies_eq t.err 0 5 V (g := true) (by simp [inB]; omega))
            rw [htp] at e2
            clear ht hTI q1 q4 q5 htp
            have hbx := Go.Ai.lt_of_cell e0
            have kx : Kept wr (wr.alloc (Obj.cells #[.int .i64 t.pipe, .int .i64 t.read, .int .i64 t.err] 63)) := kept_alloc (kept_refl _) _
            go_wp2_with (go_at_call 16; first | (with_reducible refine (m1.out _).mono ?_; rintro e w' ⟨rfl, rfl⟩) | (with_reducible refine (m3.out _).mono ?_; rintro e w' ⟨rfl, rfl⟩) | (with_reducible refine (m4.out _).mono ?_; rintro e w' ⟨rfl, rfl⟩))
            go_roundw
            case rel => exact ⟨j + 1, by omega, rfl, by go_num, kept_trans hkV kx⟩
            case measure => simp [intOf]; omega
          · have hltI : ¬ (j : Int) < X.forks.length := by omega
            go_wp2_with fail
            go_ret
            exact ⟨rfl, hk0V⟩
end Go.Proofs.YthgfbokfaidklaaGreatDoor
set_option linter.all false
namespace Go.Proofs.YthgfbokfaidklaaGreatDoor
open Go.RowKit Go.Sort Go.Rg
set_option maxRecDepth 100000

/-- what is known while a region is carried out, in whatever order, of which one operation alone, number c, makes memory, and those behind it hand its answer on -/
def StC (c : Nat) (vs : Nat → Value) (R : Value → World → Prop) (V : World) (l : List Oper) (a0 : Act) (listed : Array Bool) (a : Act) (w : World) : Prop :=
  ∃ v, AtSt l.toArray (fun j => if j < c then vs j else v) a0 listed a ∧ Kept V w ∧ (on listed c = true → R v w)
section
variable {l : List Oper} {a0 a : Act} {c : Nat} {vs : Nat → Value} {R : Value → World → Prop} {V w w' : World} {listed : Array Bool} {v : Value} {i : Nat} {o : Oper}
theorem StC.start : StC c vs R V l a0 (Array.replicate l.length false) a0 V.drew := by
  have no : ∀ j, on (Array.replicate l.length false) j = false := fun j => by
    unfold on
    simp only [Array.getD_eq_getD_getElem?, Array.getElem?_replicate]
    split <;> simp
  refine ⟨undef, ⟨rfl, rfl, fun j o d hj => ?_, fun t _ => rfl⟩, kept_drew (kept_refl _), fun h => by rw [no] at h; cases h⟩
  have := no j
  unfold on at this
  rw [this] at hj; cases hj
theorem StC.pure (hd : distFrom l = true) (ha : AtSt l.toArray (fun j => if j < c then vs j else v) a0 listed a) (hk : Kept V w) (hR : on listed c = true → R v w) (ho : l[i]? = some o) (h1 : listed.getD i true = false) (ic : i ≠ c) :
    StC c vs R V l a0 (listed.setIfInBounds i true) (a.put o.dst (if i < c then vs i else v)) w :=
  ⟨v, ha.put (by simpa using ho) h1 (dist_arr hd), hk, by rw [on_set (Ne.symm ic)]; exact hR⟩
end
end Go.Proofs.YthgfbokfaidklaaGreatDoor
set_option linter.all false
namespace Go.Proofs.YthgfbokfaidklaaGreatDoor
open Go.RowKit Go.Sort Go.Rg
set_option maxRecDepth 100000

/-- what is known while a region is carried out, in whatever order, that makes one block (operation b), appends it (operation c) and stores the answer (operation s) -/
def StA (b c s : Nat) (pre : Nat → Value) (V WB : World) (R : Value → World → Prop) (X : Addr) (l : List Oper) (a0 : Act) (listed : Array Bool) (a : Act) (w : World) : Prop :=
  ∃ r, AtSt l.toArray (fun j => if j = c then r else pre j) a0 listed a ∧ (on listed c = false → w = if on listed b then WB else V.drew) ∧
    (on listed c = true → ∃ wc, R r wc ∧ w = if on listed s then wc.setCell X r else wc)
section
variable {l : List Oper} {a0 a : Act} {b c s : Nat} {pre : Nat → Value} {V WB w : World} {R : Value → World → Prop} {X : Addr} {listed : Array Bool} {i : Nat} {o : Oper} {r : Value}
theorem StA.start : StA b c s pre V WB R X l a0 (Array.replicate l.length false) a0 V.drew := by
  have no : ∀ j, on (Array.replicate l.length false) j = false := fun j => by
    unfold on
    simp only [Array.getD_eq_getD_getElem?, Array.getElem?_replicate]
    split <;> simp
  refine ⟨undef, ⟨rfl, rfl, fun j o d hj => ?_, fun t _ => rfl⟩, (fun _ => by rw [no]; rfl), fun h => by rw [no] at h; cases h⟩
  have := no j
  unfold on at this
  rw [this] at hj; cases hj
theorem StA.pure (hd : distFrom l = true) (ha : AtSt l.toArray (fun j => if j = c then r else pre j) a0 listed a) (hf : on listed c = false → w = if on listed b then WB else V.drew) (ht : on listed c = true → ∃ wc, R r wc ∧ w = if on listed s then wc.setCell X r else wc)
    (ho : l[i]? = some o) (h1 : listed.getD i true = false) (ib : i ≠ b) (ic : i ≠ c) (is : i ≠ s) : StA b c s pre V WB R X l a0 (listed.setIfInBounds i true) (a.put o.dst (pre i)) w := by
  have := ha.put (i := i) (by simpa using ho) h1 (dist_arr hd)
  simp only [if_neg ic] at this
  refine ⟨r, this, ?_, ?_⟩
  · rw [on_set (Ne.symm ic), on_set (Ne.symm ib)]; exact hf
  · rw [on_set (Ne.symm ic), on_set (Ne.symm is)]; exact ht
theorem StA.appended (hd : distFrom l = true) (ha : AtSt l.toArray (fun j => if j = c then r else pre j) a0 listed a) (hf : on listed c = false → w = if on listed b then WB else V.drew) (hl : listed.size = l.length)
    (ho : l[c]? = some o) (h1 : listed.getD c true = false) (cs : c ≠ s) (hb : on listed b = true) (hs : on listed s = false) : w = WB ∧ ∀ r' wc, R r' wc → StA b c s pre V WB R X l a0 (listed.setIfInBounds c true) (a.put o.dst r') wc := by
  have hz : c < listed.size := by rw [hl]; exact (List.getElem?_eq_some_iff.1 ho).1
  have hcn := on_no h1
  have hw := hf hcn
  rw [hb] at hw
  refine ⟨hw, fun r' wc hr => ⟨r', ?_, ?_, ?_⟩⟩
  · have hsw : ∀ j, listed.getD j false = true → (fun j => if j = c then r else pre j) j = (fun j => if j = c then r' else pre j) j := fun j hj => by
      by_cases e : j = c
      · subst e; unfold on at hcn; rw [hcn] at hj; cases hj
      · simp [e]
    have := (ha.swap hsw).put (i := c) (by simpa using ho) h1 (dist_arr hd)
    simpa using this
  · rw [on_self hz]; intro h; cases h
  · intro _; exact ⟨wc, hr, by rw [on_set (Ne.symm cs), hs]; rfl⟩
theorem StA.stored (hd : distFrom l = true) (ha : AtSt l.toArray (fun j => if j = c then r else pre j) a0 listed a) (ht : on listed c = true → ∃ wc, R r wc ∧ w = if on listed s then wc.setCell X r else wc) (hl : listed.size = l.length)
    (ho : l[s]? = some o) (h1 : listed.getD s true = false) (hn : o.dst = none) (cs : c ≠ s) (hc : on listed c = true) : R r w ∧ StA b c s pre V WB R X l a0 (listed.setIfInBounds s true) a (w.setCell X r) := by
  have hz : s < listed.size := by rw [hl]; exact (List.getElem?_eq_some_iff.1 ho).1
  obtain ⟨wc, hr, hw⟩ := ht hc
  rw [on_no h1] at hw
  have hw : w = wc := hw
  subst hw
  have := ha.put (i := s) (by simpa using ho) h1 (dist_arr hd)
  rw [hn] at this
  refine ⟨hr, r, this, ?_, ?_⟩
  · rw [on_set cs, hc]; intro h; cases h
  · intro _; exact ⟨w, hr, by rw [on_self hz]; rfl⟩
end
end Go.Proofs.YthgfbokfaidklaaGreatDoor
set_option linter.all false
namespace Go.Proofs.YthgfbokfaidklaaGreatDoor
open Go.RowKit Go.Sort Go.Rg
set_option maxRecDepth 100000

def trialC (t : Trial) : List Value := [.int .i64 t.boy, .int .i64 t.week, .int .i64 t.note, .int .i64 t.sang]
theorem trials_get : ∀ (l : List Trial) (i k : Nat) (x : Trial), l[i]? = some x → k < 4 → (l.flatMap trialC)[i * 4 + k]? = (trialC x)[k]?
  | y :: l, 0, k, x, h, hk => by
    simp only [List.getElem?_cons_zero, Option.some.injEq] at h
    subst h
    rw [List.flatMap_cons, List.getElem?_append_left (by show 0 * 4 + k < 4; omega)]
    simp
  | y :: l, i + 1, k, x, h, hk => by
    simp only [List.getElem?_cons_succ] at h
    rw [List.flatMap_cons, List.getElem?_append_right (by show 4 ≤ (i + 1) * 4 + k; omega)]
    have : (i + 1) * 4 + k - (trialC y).length = i * 4 + k := by show (i + 1) * 4 + k - 4 = _; omega
    rw [this]
    exact trials_get l i k x h hk
  | [], _, _, _, h, _ => by simp at h
/-- a row of trials that a call owns reads as these trials -/
theorem trialsAt_own {w : World} {base g cap : Nat} {l : List Trial} (h : w.ownsRow base 143 4 (.slice (some ⟨g, 0, none⟩) l.length cap) l.length (l.flatMap trialC)) : TrialsAt w g 0 l := by
  refine ⟨(h.lt g rfl).2, fun i x hx => ?_⟩
  have hi : i < l.length := (List.getElem?_eq_some_iff.1 hx).1
  have hc : ∀ k v, k < 4 → (trialC x)[k]? = some v → w.cell? ⟨g, 0 + i * 4 + k, none⟩ = some v := fun k v hk hv => by
    have h1 := h.cellAt (i * 4 + k) (by omega)
    rw [trials_get _ _ _ _ hx hk, hv] at h1
    simpa using h1
  exact ⟨hc 0 _ (by omega) rfl, hc 1 _ (by omega) rfl, hc 2 _ (by omega) rfl, hc 3 _ (by omega) rfl⟩
theorem getD_some {t : Array Value} {i : Nat} (h : i < t.size) : t.toList[i]? = some (t.getD i undef) := by simp [Array.getD_eq_getD_getElem?, h]
/-- a book at block xb whose trials, so far, are these: a row of its own -/
structure Gathers (V0 V : World) (xb : Nat) (p : Option Addr) (n cap : Nat) (weeks : Int) (v : Value) (ts : List Trial) : Prop where
  kept : Below xb V0 V
  c0 : V.cell? ⟨xb, 0, none⟩ = some (.slice p n cap)
  c1 : V.cell? ⟨xb, 1, none⟩ = some (.int .i64 weeks)
  c2 : V.cell? ⟨xb, 2, none⟩ = some v
  fr : V.frozen? ⟨xb, 2, none⟩ = false
  row : V.ownsRow (xb + 1) 143 4 v ts.length (ts.flatMap trialC)
/-- what an append of one more trial answers -/
def Grew (wr : World) (xb : Nat) (v : Value) (ts : List Trial) (t : Trial) (r : Value) (wc : World) : Prop :=
  ∃ g cap, r = .slice (some ⟨g, 0, none⟩) (ts.length + 1) cap ∧ wc.ownsRow (xb + 1) 143 4 r (ts.length + 1) (ts.flatMap trialC ++ trialC t) ∧ wr.grownBy wc v.ownBlock
theorem Gathers.go {V0 V W : World} {xb n cap : Nat} {p : Option Addr} {weeks : Int} {v : Value} {ts : List Trial} (h : Gathers V0 V xb p n cap weeks v ts) (hk : Kept V W) : Gathers V0 W xb p n cap weeks v ts where
  kept := h.kept.trans (hk.mono (by have := Go.Ai.lt_of_cell h.c0; omega))
  c0 := kcell hk h.c0
  c1 := kcell hk h.c1
  c2 := kcell hk h.c2
  fr := (World.frozen?_of_block (a := ⟨xb, 2, none⟩) (hk.block xb (Go.Ai.lt_of_cell h.c0))).trans h.fr
  row := by
    obtain ⟨h1, h2⟩ := h.row
    refine ⟨h1, h2.imp id ?_⟩
    rintro ⟨g, cap', cur, e1, e2, e3, e4⟩
    refine ⟨g, cap', cur, e1, e2, (hk.block g ?_).trans e3, e4⟩
    rcases Nat.lt_or_ge g V.heap.size with hlt | hge
    · exact hlt
    · rw [Array.getElem?_eq_none hge] at e3; cases e3
theorem Gathers.own {V0 V : World} {xb n cap : Nat} {p : Option Addr} {weeks : Int} {v : Value} {ts : List Trial} (h : Gathers V0 V xb p n cap weeks v ts) {k : Nat} (hk : k ≤ xb) : v.ownBlock ≠ some k := fun e => by
  have := (h.row.lt k e).1
  omega
theorem Gathers.trials {V0 V : World} {xb n cap : Nat} {p : Option Addr} {weeks : Int} {v : Value} {ts : List Trial} (h : Gathers V0 V xb p n cap weeks v ts) : ∃ q capt, v = .slice q ts.length capt ∧ (ts = [] ∨ ∃ b o, q = some ⟨b, o, none⟩ ∧ TrialsAt V b o ts) ∧ ts.length ≤ capt := by
  have hrow := h.row
  obtain ⟨h1, h2⟩ := h.row
  rcases h2 with ⟨e, h0⟩ | ⟨g, cap', cur, e, _, _, hnc, _⟩
  · have : ts = [] := List.length_eq_zero_iff.1 h0
    exact ⟨none, 0, by rw [e, h0], .inl this, by omega⟩
  · rw [e] at hrow
    exact ⟨some ⟨g, 0, none⟩, cap', e, .inr ⟨g, 0, rfl, trialsAt_own hrow⟩, hnc⟩
end Go.Proofs.YthgfbokfaidklaaGreatDoor
set_option linter.all false
namespace Go.Proofs.YthgfbokfaidklaaGreatDoor
open Go.RowKit Go.Sort Go.Rg
set_option maxRecDepth 100000

end Go.Proofs.YthgfbokfaidklaaGreatDoor
set_option linter.all false
namespace Go.Proofs.YthgfbokfaidklaaGreatDoor
open Go.RowKit Go.Sort Go.Rg
set_option maxRecDepth 100000

/-- what is known while a region is carried out, in whatever order: an invariant of its values, of the operations that are over, and of the world -/
def StG (I : (Nat → Value) → (Nat → Bool) → World → Prop) (l : List Oper) (a0 : Act) (listed : Array Bool) (a : Act) (w : World) : Prop :=
  ∃ vs, AtSt l.toArray vs a0 listed a ∧ I vs (on listed) w
theorem on_rep (n j : Nat) : on (Array.replicate n false) j = false := by
  unfold on
  simp only [Array.getD_eq_getD_getElem?, Array.getElem?_replicate]
  split <;> simp
theorem StG.start {I : (Nat → Value) → (Nat → Bool) → World → Prop} {l : List Oper} {a0 : Act} {w : World} (h : I (fun _ => undef) (fun _ => false) w) : StG I l a0 (Array.replicate l.length false) a0 w := by
  refine ⟨fun _ => undef, ⟨rfl, rfl, fun j o d hj => ?_, fun t _ => rfl⟩, ?_⟩
  · have := on_rep l.length j
    unfold on at this
    rw [this] at hj; cases hj
  · rw [show on (Array.replicate l.length false) = fun _ => false from funext (on_rep l.length)]; exact h
theorem StG.step {I : (Nat → Value) → (Nat → Bool) → World → Prop} {l : List Oper} {a0 a : Act} {vs : Nat → Value} {listed : Array Bool} {i : Nat} {o : Oper} (hd : distFrom l = true) (ha : AtSt l.toArray vs a0 listed a) (hl : listed.size = l.length) (ho : l[i]? = some o) (h1 : listed.getD i true = false) {v : Value} {w' : World}
    (hI : I (fun j => if j = i then v else vs j) (fun j => if j = i then true else on listed j) w') : StG I l a0 (listed.setIfInBounds i true) (a.put o.dst v) w' := by
  have hz : i < listed.size := by rw [hl]; exact (List.getElem?_eq_some_iff.1 ho).1
  have hn := on_no h1
  have hsw : ∀ j, listed.getD j false = true → vs j = (fun j => if j = i then v else vs j) j := fun j hj => by
    by_cases e : j = i
    · subst e; unfold on at hn; rw [hn] at hj; cases hj
    · simp [e]
  have hp := (ha.swap hsw).put (i := i) (by simpa using ho) h1 (dist_arr hd)
  simp only [if_true] at hp
  refine ⟨_, hp, ?_⟩
  rw [show on (listed.setIfInBounds i true) = fun j => if j = i then true else on listed j from funext fun j => by
    by_cases e : j = i
    · subst e; rw [on_self hz]; simp
    · rw [on_set e]; simp [e]]
  exact hI

/-- a region 'y.f = append(append([]T{}, xs...), news)': the empty row (0), the first append (3), the row of the new one (5), the second append (6), the store (8) -/
structure Apps (V : World) (e : TypeId) (size n : Nat) (xs news : List Value) (X : Addr) (vs : Nat → Value) (on : Nat → Bool) (w : World) : Prop where
  o30 : on 3 = true → on 0 = true
  o63 : on 6 = true → on 3 = true
  o65 : on 6 = true → on 5 = true
  o86 : on 8 = true → on 6 = true
  kept : on 8 = false → Kept V w
  r0 : on 0 = true → on 3 = false → ∃ g, vs 0 = .slice (some ⟨g, 0, none⟩) 0 0 ∧ w.ownsRow V.heap.size e size (vs 0) 0 []
  r3 : on 3 = true → on 6 = false → w.ownsRow V.heap.size e size (vs 3) n xs
  r5 : on 5 = true → on 6 = false → ∃ g, vs 5 = .slice (some ⟨g, 0, none⟩) 1 1 ∧ g < w.heap.size ∧ V.heap.size ≤ g ∧ (∀ (k : Nat) (u : Value), news[k]? = some u → w.cell? ((⟨g, 0, none⟩ : Addr).add k) = some u) ∧ (on 0 = true → on 3 = false → (vs 0).ownBlock ≠ some g) ∧ (on 3 = true → (vs 3).ownBlock ≠ some g)
  r6 : on 6 = true → ∃ wc, Kept V wc ∧ (∃ g cap, vs 6 = .slice (some ⟨g, 0, none⟩) (n + 1) cap) ∧ wc.ownsRow V.heap.size e size (vs 6) (n + 1) (xs ++ news) ∧ w = if on 8 then wc.setCell X (vs 6) else wc
section
variable {V w w' : World} {e : TypeId} {size n : Nat} {xs news : List Value} {X : Addr} {vs : Nat → Value} {on : Nat → Bool} {v : Value}
theorem Apps.start : Apps V e size n xs news X (fun _ => undef) (fun _ => false) V.drew :=
  ⟨nofun, nofun, nofun, nofun, fun _ => kept_drew (kept_refl V), nofun, nofun, nofun, nofun⟩
theorem Apps.pure (h : Apps V e size n xs news X vs on w) (i : Nat) (h0 : 0 ≠ i) (h3 : 3 ≠ i) (h5 : 5 ≠ i) (h6 : 6 ≠ i) (h8 : 8 ≠ i) : Apps V e size n xs news X (fun j => if j = i then v else vs j) (fun j => if j = i then true else on j) w := by
  obtain ⟨a1, a2, a3, a4, a5, a6, a7, a8, a9⟩ := h
  constructor <;> simp only [if_neg h0, if_neg h3, if_neg h5, if_neg h6, if_neg h8] <;> assumption
theorem tf {p : Prop} {b : Bool} (h1 : b = true) (h2 : b = false) : p := by rw [h1] at h2; cases h2
theorem Apps.stored (h : Apps V e size n xs news X vs on w) (h8 : on 8 = false) (h6 : on 6 = true) :
    Apps V e size n xs news X (fun j => if j = 8 then v else vs j) (fun j => if j = 8 then true else on j) (w.setCell X (vs 6)) := by
  refine ⟨h.o30, h.o63, h.o65, fun _ => h6, fun b => (nomatch b), fun _ b3 => tf (h.o63 h6) b3, fun _ b6 => tf h6 b6, fun _ b6 => tf h6 b6, fun _ => ?_⟩
  obtain ⟨wc, c1, c2, c3, c4⟩ := h.r6 h6
  rw [h8] at c4
  refine ⟨wc, c1, c2, c3, ?_⟩
  rw [c4]; rfl
end
end Go.Proofs.YthgfbokfaidklaaGreatDoor
set_option linter.all false
namespace Go.Proofs.YthgfbokfaidklaaGreatDoor
open Go.RowKit Go.Sort Go.Rg
set_option maxRecDepth 100000

/-- something that is so of memory of one's own, which the box at p is no part of -/
def Own (P : World → Prop) (p : Nat) (boxed : Bool) (C : World) : Prop :=
  ∃ S : Nat → Prop, (∀ b, S b → b < C.heap.size) ∧ (boxed = true → ¬ S p) ∧ ∀ D U, Turns U C D → (∀ b, S b → ¬ U b) → P D
theorem Own.here {P : World → Prop} {p : Nat} {o : Bool} {C : World} (h : Own P p o C) : P C := by
  obtain ⟨S, _, _, h3⟩ := h
  exact h3 C (fun _ => False) (Turns.refl _ _) (fun _ _ h => h)
theorem Own.turns {P : World → Prop} {p : Nat} {o : Bool} {C D : World} {U : Nat → Prop} (h : Own P p o C) (k : Turns U C D) (hu : ∀ S : Nat → Prop, (o = true → ¬ S p) → (∀ b, S b → b < C.heap.size) → ∀ b, S b → ¬ U b) : Own P p o D := by
  obtain ⟨S, h1, h2, h3⟩ := h
  refine ⟨S, fun b hb => Nat.lt_of_lt_of_le (h1 b hb) k.size, h2, fun E U' k' hu' => h3 E (fun b => U b ∨ U' b) ⟨k'.os.trans k.os, k'.tape.trans k.tape, k'.output.trans k.output, Nat.le_trans k.size k'.size, fun i hi hne => ?_⟩ (fun b hb => fun e => e.elim (hu S h2 h1 b hb) (hu' b hb))⟩
  exact (k'.block i (Nat.lt_of_lt_of_le hi k.size) (fun e => hne (.inr e))).trans (k.block i hi (fun e => hne (.inl e)))

/-- the cells of a box, one behind the other -/
def setAll : World → Nat → Nat → List Value → World
  | w, _, _, [] => w
  | w, p, i, x :: xs => setAll (w.setCell ⟨p, i, none⟩ x) p (i + 1) xs
theorem setAll_turns : ∀ (xs : List Value) (w : World) (p i : Nat), Turns (fun b => b = p) w (setAll w p i xs)
  | [], w, p, i => Turns.refl _ _
  | x :: xs, w, p, i => ((Turns.refl (fun b => b = p) w).setCell rfl _ _).trans (Ext.refl _ _) (setAll_turns xs (w.setCell ⟨p, i, none⟩ x) p (i + 1))
theorem setAll_frozen : ∀ (xs : List Value) (w : World) (p i : Nat) (a : Addr), (setAll w p i xs).frozen? a = w.frozen? a
  | [], w, p, i, a => rfl
  | x :: xs, w, p, i, a => (setAll_frozen xs _ p (i + 1) a).trans (World.frozen?_setCell _ _ _ _)
theorem setAll_below : ∀ (xs : List Value) (w : World) (p i j : Nat), j < i → (setAll w p i xs).cell? ⟨p, j, none⟩ = w.cell? ⟨p, j, none⟩
  | [], w, p, i, j, h => rfl
  | x :: xs, w, p, i, j, h => (setAll_below xs _ p (i + 1) j (by omega)).trans (cell_set_ne (by omega))
theorem setAll_cell : ∀ (xs : List Value) (w : World) (p i : Nat), (∀ j, j < xs.length → ∃ f, w.cell? ⟨p, i + j, none⟩ = some f) → ∀ (j : Nat) (x : Value), xs[j]? = some x → (setAll w p i xs).cell? ⟨p, i + j, none⟩ = some x
  | [], w, p, i, h, j, x, hx => by simp at hx
  | y :: xs, w, p, i, h, j, x, hx => by
    have h0 := h 0 (by simp)
    obtain ⟨f, hf⟩ := h0
    match j, hx with
    | 0, hx =>
      simp at hx; subst hx
      exact (setAll_below xs _ p (i + 1) (i + 0) (by omega)).trans (cell_set_eq hf)
    | j + 1, hx =>
      simp at hx
      have := setAll_cell xs (w.setCell ⟨p, i, none⟩ y) p (i + 1) (fun j' hj' => by
        obtain ⟨f', hf'⟩ := h (j' + 1) (by simp; omega)
        refine ⟨f', (cell_set_ne (by omega)).trans ?_⟩
        rw [show i + 1 + j' = i + (j' + 1) by omega]; exact hf') j x hx
      rw [show i + (j + 1) = i + 1 + j by omega]
      exact this

/-- what is known while 'c, e := open(b, cond)' is carried out, in whatever order: the struct has the cells zs at first -/
structure OReg (W0 : World) (zs : List Value) (P : Value → Int → World → Prop) (v : Value) (err : Int) (p : Nat) (o4 o8 o9 : Bool) (w : World) : Prop where
  kept : Kept W0 w
  box : o8 = true → W0.heap.size ≤ p ∧ p < w.heap.size ∧ (∀ i, i < zs.length → ∃ f, w.cell? ⟨p, i, none⟩ = some f) ∧ ∀ i, w.frozen? ⟨p, i, none⟩ = false
  res : o4 = true → Own (P v err) p o8 w
  put : o9 = true → o8 = true ∧ ∃ xs : List Value, v = .agg xs.toArray ∧ xs.length = zs.length ∧ ∀ i x, xs[i]? = some x → w.cell? ⟨p, i, none⟩ = some x
section
variable {W0 : World} {zs : List Value} {P : Value → Int → World → Prop} {v : Value} {err : Int} {p : Nat} {o4 o8 o9 : Bool} {w w' : World}
theorem OReg.go (h : OReg W0 zs P v err p o4 o8 o9 w) (k : Kept w w') : OReg W0 zs P v err p o4 o8 o9 w' where
  kept := kept_trans h.kept k
  box := fun e => by
    obtain ⟨h1, h2, h3, h4⟩ := h.box e
    exact ⟨h1, Nat.lt_of_lt_of_le h2 k.size, fun i hi => (h3 i hi).imp fun f hf => kcell k hf, fun i => ((kturns k (fun _ => False)).frozen h2 (fun h => h)).trans (h4 i)⟩
  res := fun e => (h.res e).turns (kturns k (fun _ => False)) (fun _ _ _ _ _ h => h)
  put := fun e => by
    obtain ⟨h0, xs, e1, e2, a⟩ := h.put e
    exact ⟨h0, xs, e1, e2, fun i x hx => kcell k (a i x hx)⟩
theorem OReg.opened (h : OReg W0 zs P v err p o4 o8 o9 w) (h9 : o9 = false) {v' : Value} {err' : Int} (k : Kept w w') (n0 : Nat) (hn : n0 ≤ W0.heap.size)
    (hP : ∀ D U, Turns U w' D → (∀ b, b < w'.heap.size → (b < n0 ∨ w.heap.size ≤ b) → ¬ U b) → P v' err' D) : OReg W0 zs P v' err' p true o8 o9 w' := by
  have hb := (h.go k).box
  refine ⟨kept_trans h.kept k, hb, fun _ => ⟨fun b => b < w'.heap.size ∧ (b < n0 ∨ w.heap.size ≤ b), fun b hb => hb.1, fun e hS => ?_, fun D U kU hU => hP D U kU (fun b h1 h2 => hU b ⟨h1, h2⟩)⟩, fun e => by rw [h9] at e; cases e⟩
  obtain ⟨b1, b2, _⟩ := h.box e
  have := hS.2
  omega
theorem OReg.boxed (h : OReg W0 zs P v err p o4 false o9 w) (h9 : o9 = false) (T : TypeId) :
    OReg W0 zs P v err w.heap.size o4 true o9 (w.alloc (Obj.cells zs.toArray T)) := by
  have k : Kept w (w.alloc (Obj.cells zs.toArray T)) := kept_alloc (kept_refl _) _
  refine ⟨kept_trans h.kept k, fun _ => ⟨h.kept.size, by simp, fun i hi => ⟨zs[i], ?_⟩, fun i => by go_simp⟩, fun e4 => ?_, fun e => by rw [h9] at e; cases e⟩
  · have := World.news_of_block (World.alloc_heap_new w (Obj.cells zs.toArray T)) i zs[i] (by simp)
    have e : (⟨w.heap.size, 0, none⟩ : Addr).add i = ⟨w.heap.size, i, none⟩ := by
      unfold Addr.add
      split
      · rename_i h0; rw [h0]
      · simp
    rw [← e]; exact this
  · obtain ⟨S, h1, h2, h3⟩ := h.res e4
    refine ⟨S, fun b hb => Nat.lt_of_lt_of_le (h1 b hb) k.size, fun _ hS => by have := h1 _ hS; omega, fun D U kU hU => ?_⟩
    have := (Own.turns (P := P v err) (p := p) (o := false) ⟨S, h1, h2, h3⟩ (kturns k (fun _ => False)) (fun _ _ _ _ _ h => h))
    exact h3 D U ⟨kU.os.trans k.os, kU.tape.trans k.tape, kU.output.trans k.output, Nat.le_trans k.size kU.size, fun i hi hne => (kU.block i (Nat.lt_of_lt_of_le hi k.size) hne).trans (k.block i hi)⟩ hU
theorem OReg.stored {xs : List Value} (h : OReg W0 zs P v err p o4 true false w) (hv : v = .agg xs.toArray) (hl : xs.length = zs.length) :
    OReg W0 zs P v err p o4 true true (setAll w p 0 xs) := by
  obtain ⟨hb, hz, hc, hf⟩ := h.box rfl
  have hT := setAll_turns xs w p 0
  have cells : ∀ i x, xs[i]? = some x → (setAll w p 0 xs).cell? ⟨p, i, none⟩ = some x := fun i x hx => by
    have := setAll_cell xs w p 0 (fun j hj => by simpa using hc j (by omega)) i x hx
    simpa using this
  refine ⟨Below.trans h.kept (hT.toBelow (n := W0.heap.size) (by rintro b rfl; exact hb) h.kept.size), fun _ => ⟨hb, Nat.lt_of_lt_of_le hz hT.size, fun i hi => ⟨xs[i]'(by omega), cells i _ (List.getElem?_eq_getElem (by omega))⟩, fun i => (setAll_frozen xs w p 0 _).trans (hf i)⟩, fun e4 => ?_, fun _ => ⟨rfl, xs, hv, hl, cells⟩⟩
  exact (h.res e4).turns hT (fun S h1 _ b hb e => h1 rfl (e ▸ hb))
theorem OReg.start (W0 : World) (zs : List Value) (P : Value → Int → World → Prop) : OReg W0 zs P undef 0 0 false false false W0.drew :=
  ⟨kept_drew (kept_refl _), (fun e => nomatch e), (fun e => nomatch e), (fun e => nomatch e)⟩
end
def StP (O : Nat) (pre : Nat → Value) (W0 : World) (zs : List Value) (P : Value → Int → World → Prop) (l : List Oper) (a0 : Act) (listed : Array Bool) (a : Act) (w : World) : Prop :=
  ∃ v err p, AtSt l.toArray (openVs O pre v err p) a0 listed a ∧ OReg W0 zs P v err p (on listed O) (on listed (O + 4)) (on listed (O + 5)) w
section
variable {l : List Oper} {a0 a : Act} {O : Nat} {pre : Nat → Value} {W0 w w' : World} {zs : List Value} {P : Value → Int → World → Prop} {listed : Array Bool} {v : Value} {err : Int} {p i : Nat} {o : Oper}
theorem StP.start : StP O pre W0 zs P l a0 (Array.replicate l.length false) a0 W0.drew := by
  have no : ∀ j, on (Array.replicate l.length false) j = false := fun j => by
    unfold on
    simp only [Array.getD_eq_getD_getElem?, Array.getElem?_replicate]
    split <;> simp
  refine ⟨undef, 0, 0, ⟨rfl, rfl, fun j o d hj => ?_, fun t _ => rfl⟩, by rw [no, no, no]; exact OReg.start W0 zs P⟩
  have := no j
  unfold on at this
  rw [this] at hj; cases hj
theorem StP.same (hd : distFrom l = true) (ha : AtSt l.toArray (openVs O pre v err p) a0 listed a) (hw : OReg W0 zs P v err p (on listed O) (on listed (O + 4)) (on listed (O + 5)) w) (ho : l[i]? = some o) (h1 : listed.getD i true = false)
    (i4 : i ≠ O) (i8 : i ≠ O + 4) (i9 : i ≠ O + 5) (k : Kept w w') : StP O pre W0 zs P l a0 (listed.setIfInBounds i true) (a.put o.dst (openVs O pre v err p i)) w' :=
  ⟨v, err, p, ha.put (by simpa using ho) h1 (dist_arr hd), by rw [on_set (Ne.symm i4), on_set (Ne.symm i8), on_set (Ne.symm i9)]; exact hw.go k⟩
theorem StP.opened (hd : distFrom l = true) (ha : AtSt l.toArray (openVs O pre v err p) a0 listed a) (hl : listed.size = l.length) (ho : l[O]? = some o) (h1 : listed.getD O true = false)
    (h5 : on listed (O + 1) = false) (h6 : on listed (O + 2) = false) (h7 : on listed (O + 3) = false) (h9 : on listed (O + 5) = false) (h10 : on listed (O + 6) = false) {v' : Value} {err' : Int} (hw' : OReg W0 zs P v' err' p true (on listed (O + 4)) (on listed (O + 5)) w') :
    StP O pre W0 zs P l a0 (listed.setIfInBounds O true) (a.put o.dst (.tuple #[v', .int .i64 err'])) w' := by
  have hs : ∀ j, listed.getD j false = true → openVs O pre v err p j = openVs O pre v' err' p j := fun j hj => by
    have h4 := on_no h1
    unfold on at h4 h5 h6 h7 h9 h10
    unfold openVs
    by_cases hjo : j < O
    · rw [if_pos hjo, if_pos hjo]
    · rw [if_neg hjo, if_neg hjo]
      obtain ⟨k, rfl⟩ : ∃ k, j = O + k := ⟨j - O, by omega⟩
      rw [Nat.add_sub_cancel_left]
      match k with
      | 0 => rw [Nat.add_zero, h4] at hj; cases hj
      | 1 => rw [h5] at hj; cases hj
      | 2 => rw [h6] at hj; cases hj
      | 3 => rw [h7] at hj; cases hj
      | 4 => rfl
      | 5 => rfl
      | 6 => rw [h10] at hj; cases hj
      | n + 7 => rfl
  have hz : O < listed.size := by rw [hl]; exact (List.getElem?_eq_some_iff.1 ho).1
  have hv : openVs O pre v' err' p O = .tuple #[v', .int .i64 err'] := by simp [openVs]
  have := (ha.swap hs).put (i := O) (by simpa using ho) h1 (dist_arr hd)
  rw [hv] at this
  exact ⟨v', err', p, this, by rw [on_self hz, on_set (by omega), on_set (by omega)]; exact hw'⟩
theorem StP.boxed (T : TypeId) (hd : distFrom l = true) (ha : AtSt l.toArray (openVs O pre v err p) a0 listed a) (hw : OReg W0 zs P v err p (on listed O) (on listed (O + 4)) (on listed (O + 5)) w) (hl : listed.size = l.length) (ho : l[O + 4]? = some o) (h1 : listed.getD (O + 4) true = false) (h9 : on listed (O + 5) = false) :
    StP O pre W0 zs P l a0 (listed.setIfInBounds (O + 4) true) (a.put o.dst (.pointer (some ⟨w.heap.size, 0, none⟩))) (w.alloc (Obj.cells zs.toArray T)) := by
  have hs : ∀ j, listed.getD j false = true → openVs O pre v err p j = openVs O pre v err w.heap.size j := fun j hj => by
    have h8 := on_no h1
    unfold on at h8
    by_cases e : j = O + 4
    · subst e; rw [h8] at hj; cases hj
    · unfold openVs
      by_cases hjo : j < O
      · rw [if_pos hjo, if_pos hjo]
      · rw [if_neg hjo, if_neg hjo]
        split <;> first | rfl | (exfalso; omega)
  have hz : O + 4 < listed.size := by rw [hl]; exact (List.getElem?_eq_some_iff.1 ho).1
  have h8 := on_no h1
  rw [h8] at hw
  have hv : openVs O pre v err w.heap.size (O + 4) = .pointer (some ⟨w.heap.size, 0, none⟩) := by
    unfold openVs
    rw [if_neg (by omega), Nat.add_sub_cancel_left]
    rfl
  have := (ha.swap hs).put (i := O + 4) (by simpa using ho) h1 (dist_arr hd)
  rw [hv] at this
  exact ⟨v, err, w.heap.size, this, by rw [on_self hz, on_set (by omega), on_set (by omega)]; exact hw.boxed h9 T⟩
theorem StP.stored (hd : distFrom l = true) (ha : AtSt l.toArray (openVs O pre v err p) a0 listed a) (hw : OReg W0 zs P v err p (on listed O) (on listed (O + 4)) (on listed (O + 5)) w) (hl : listed.size = l.length) (ho : l[O + 5]? = some o) (hno : o.dst = none) (h1 : listed.getD (O + 5) true = false) (h8 : on listed (O + 4) = true)
    {xs : List Value} (hv : v = .agg xs.toArray) (hlz : xs.length = zs.length) :
    StP O pre W0 zs P l a0 (listed.setIfInBounds (O + 5) true) a (setAll w p 0 xs) := by
  have hz : O + 5 < listed.size := by rw [hl]; exact (List.getElem?_eq_some_iff.1 ho).1
  have h9 := on_no h1
  rw [h8, h9] at hw
  have := ha.put (i := O + 5) (by simpa using ho) h1 (dist_arr hd)
  rw [hno] at this
  exact ⟨v, err, p, this, by rw [on_self hz, on_set (by omega), on_set (by omega), h8]; exact hw.stored hv hlz⟩
end
end Go.Proofs.YthgfbokfaidklaaGreatDoor
set_option linter.all false
namespace Go.Proofs.YthgfbokfaidklaaGreatDoor
open Go.RowKit Go.Sort Go.Rg
set_option maxRecDepth 100000

/-- a local variable that a region lays: the operation that lays it, the one that stores it, its cells at first and behind -/
structure Loc where
  al : Nat
  st : Nat
  zs : List Value
  xs : List Value
def isLoc (A : List Loc) (j : Nat) : Bool := A.any fun a => a.al == j
/-- what is known while a region that lays local variables is carried out, in whatever order -/
structure Locs (V : World) (vals : Nat → Value) (A : List Loc) (vs : Nat → Value) (on : Nat → Bool) (w : World) : Prop where
  kept : Kept V w
  val : ∀ j, on j = true → isLoc A j = false → vs j = vals j
  loc : ∀ a ∈ A, on a.al = true → ∃ b, vs a.al = .pointer (some ⟨b, 0, none⟩) ∧ V.heap.size ≤ b ∧ b < w.heap.size ∧ (∀ i, i < a.zs.length → ∃ f, w.cell? ⟨b, i, none⟩ = some f) ∧ (∀ i, w.frozen? ⟨b, i, none⟩ = false) ∧ (on a.st = true → ∀ i x, a.xs[i]? = some x → w.cell? ⟨b, i, none⟩ = some x)
  apart : ∀ a ∈ A, ∀ c ∈ A, a.al ≠ c.al → on a.al = true → on c.al = true → vs a.al ≠ vs c.al
section
variable {V w w' : World} {vals : Nat → Value} {A : List Loc} {vs : Nat → Value} {on : Nat → Bool} {v : Value}
theorem Locs.start : Locs V vals A (fun _ => undef) (fun _ => false) V.drew := ⟨kept_drew (kept_refl V), nofun, nofun, nofun⟩
/-- an operation that keeps what is there, and tells what is known ahead -/
theorem Locs.pure (h : Locs V vals A vs on w) (j : Nat) (hj : isLoc A j = false) (hs : ∀ a ∈ A, a.st ≠ j) (k : Kept w w') : Locs V vals A (fun i => if i = j then vals j else vs i) (fun i => if i = j then true else on i) w' := by
  have hne : ∀ a ∈ A, a.al ≠ j := fun a ha e => by
    have : isLoc A j = true := List.any_eq_true.2 ⟨a, ha, by simp [e]⟩
    rw [hj] at this; cases this
  refine ⟨kept_trans h.kept k, fun i hi hl => ?_, fun a ha hon => ?_, fun a ha c hc hac h1 h2 => ?_⟩
  · by_cases e : i = j
    · subst e; simp
    · simp only [e, if_false] at hi ⊢; exact h.val i hi hl
  · simp only [hne a ha, if_false] at hon ⊢
    obtain ⟨b, e1, e2, e3, e4, e5, e6⟩ := h.loc a ha hon
    refine ⟨b, e1, e2, Nat.lt_of_lt_of_le e3 k.size, fun i hi => (e4 i hi).imp fun f hf => kcell k hf, fun i => ((kturns k (fun _ => False)).frozen e3 (fun h => h)).trans (e5 i), fun hst i x hx => ?_⟩
    simp only [hs a ha, if_false] at hst
    exact kcell k (e6 hst i x hx)
  · simp only [hne a ha, hne c hc, if_false] at h1 h2 ⊢
    exact h.apart a ha c hc hac h1 h2
theorem Locs.laid (h : Locs V vals A vs on w) (a : Loc) (ha : a ∈ A) (hu : ∀ c ∈ A, c.al = a.al → c = a) (hs : ∀ c ∈ A, c.st ≠ a.al) (hst : on a.st = false) (T : TypeId) :
    Locs V vals A (fun i => if i = a.al then .pointer (some ⟨w.heap.size, 0, none⟩) else vs i) (fun i => if i = a.al then true else on i) (w.alloc (Obj.cells a.zs.toArray T)) := by
  have k : Kept w (w.alloc (Obj.cells a.zs.toArray T)) := kept_alloc (kept_refl _) _
  refine ⟨kept_trans h.kept k, fun i hi hl => ?_, fun c hc hon => ?_, fun c hc d hd hcd h1 h2 => ?_⟩
  · by_cases e : i = a.al
    · subst e
      have : isLoc A a.al = true := List.any_eq_true.2 ⟨a, ha, by simp⟩
      rw [hl] at this; cases this
    · simp only [e, if_false] at hi ⊢; exact h.val i hi hl
  · by_cases e : c.al = a.al
    · have := hu c hc e
      subst this
      simp only [if_true]
      refine ⟨w.heap.size, rfl, h.kept.size, by simp, fun i hi => ⟨c.zs[i], ?_⟩, fun i => by go_simp, fun hst' => ?_⟩
      · have := World.news_of_block (World.alloc_heap_new w (Obj.cells c.zs.toArray T)) i c.zs[i] (by simp)
        have e : (⟨w.heap.size, 0, none⟩ : Addr).add i = ⟨w.heap.size, i, none⟩ := by
          unfold Addr.add
          split
          · rename_i h0; rw [h0]
          · simp
        rw [← e]; exact this
      · simp only [hs c hc, if_false] at hst'
        rw [hst] at hst'; cases hst'
    · simp only [e, if_false] at hon ⊢
      obtain ⟨b, e1, e2, e3, e4, e5, e6⟩ := h.loc c hc hon
      refine ⟨b, e1, e2, Nat.lt_of_lt_of_le e3 k.size, fun i hi => (e4 i hi).imp fun f hf => kcell k hf, fun i => ((kturns k (fun _ => False)).frozen e3 (fun h => h)).trans (e5 i), fun hst i x hx => ?_⟩
      simp only [hs c hc, if_false] at hst
      exact kcell k (e6 hst i x hx)
  · by_cases e : c.al = a.al
    · by_cases e' : d.al = a.al
      · exact absurd (e.trans e'.symm) hcd
      · simp only [e, e', if_true, if_false] at h1 h2 ⊢
        obtain ⟨b, e1, _, e3, _⟩ := h.loc d hd h2
        rw [e1]
        intro he
        simp only [Value.pointer.injEq, Option.some.injEq, Addr.mk.injEq] at he
        omega
    · by_cases e' : d.al = a.al
      · simp only [e, e', if_true, if_false] at h1 h2 ⊢
        obtain ⟨b, e1, _, e3, _⟩ := h.loc c hc h1
        rw [e1]
        intro he
        simp only [Value.pointer.injEq, Option.some.injEq, Addr.mk.injEq] at he
        omega
      · simp only [e, e', if_false] at h1 h2 ⊢
        exact h.apart c hc d hd hcd h1 h2
theorem Locs.stored (h : Locs V vals A vs on w) (a : Loc) (ha : a ∈ A) (hal : isLoc A a.st = false) (hu : ∀ c ∈ A, c.st = a.st → c = a) (hal' : ∀ c ∈ A, ∀ d ∈ A, c.al = d.al → c = d) (hon : on a.al = true) (hl : a.xs.length = a.zs.length) {b : Nat} (hb : vs a.al = .pointer (some ⟨b, 0, none⟩)) :
    Locs V vals A (fun i => if i = a.st then vals a.st else vs i) (fun i => if i = a.st then true else on i) (setAll w b 0 a.xs) := by
  have hne : ∀ c ∈ A, c.al ≠ a.st := fun c hc e => by
    have : isLoc A a.st = true := List.any_eq_true.2 ⟨c, hc, by simp [e]⟩
    rw [hal] at this; cases this
  have hT := setAll_turns a.xs w b 0
  obtain ⟨b', e1, e2, e3, e4, e5, e6⟩ := h.loc a ha hon
  rw [hb] at e1
  obtain rfl : b = b' := by simp only [Value.pointer.injEq, Option.some.injEq, Addr.mk.injEq] at e1; omega
  have hK : Kept V (setAll w b 0 a.xs) := Below.trans h.kept (hT.toBelow (n := V.heap.size) (by rintro i rfl; exact e2) h.kept.size)
  refine ⟨hK, fun i hi hl' => ?_, fun c hc hc1 => ?_, fun c hc d hd hcd h1 h2 => ?_⟩
  · by_cases e : i = a.st
    · subst e; simp
    · simp only [e, if_false] at hi ⊢; exact h.val i hi hl'
  · simp only [hne c hc, if_false] at hc1 ⊢
    obtain ⟨b2, f1, f2, f3, f4, f5, f6⟩ := h.loc c hc hc1
    refine ⟨b2, f1, f2, Nat.lt_of_lt_of_le f3 hT.size, fun i hi => ?_, fun i => (setAll_frozen _ _ _ _ _).trans (f5 i), fun hst i x hx => ?_⟩
    · by_cases e : b2 = b
      · subst e
        by_cases hca : c = a
        · subst hca
          have hi2 : i < c.xs.length := by omega
          exact ⟨c.xs[i], by simpa using setAll_cell c.xs w b2 0 (fun j hj => by simpa using e4 j (by omega)) i _ (List.getElem?_eq_getElem hi2)⟩
        · exact absurd (f1.trans hb.symm) (h.apart c hc a ha (fun e => hca (hal' c hc a ha e)) hc1 hon)
      · obtain ⟨f, hf⟩ := f4 i hi
        exact ⟨f, tcell hT e hf⟩
    · by_cases hca : c = a
      · subst hca
        obtain rfl : b2 = b := by
          rw [hb] at f1
          simp only [Value.pointer.injEq, Option.some.injEq, Addr.mk.injEq] at f1; omega
        simpa using setAll_cell c.xs w b2 0 (fun j hj => by simpa using e4 j (by omega)) i x hx
      · have hst' : c.st ≠ a.st := fun e => hca (hu c hc e)
        simp only [hst', if_false] at hst
        have e : b2 ≠ b := fun e => by
          subst e
          exact absurd (f1.trans hb.symm) (h.apart c hc a ha (fun e => hca (hal' c hc a ha e)) hc1 hon)
        exact tcell hT e (f6 hst i x hx)
  · simp only [hne c hc, hne d hd, if_false] at h1 h2 ⊢
    exact h.apart c hc d hd hcd h1 h2
end
end Go.Proofs.YthgfbokfaidklaaGreatDoor
set_option linter.all false
namespace Go.Proofs.YthgfbokfaidklaaGreatDoor
open Go.RowKit Go.Sort Go.Rg
open Go.ChangeMaps (setBlock)
set_option maxRecDepth 100000
set_option maxHeartbeats 4000000
attribute [local go_sem] Oper.semAt_some

theorem eqTwo (a b c d : Int) (w : World) : (Op.equalIn 10000 106 (.agg #[.int .i64 a, .int .i64 b]) (.agg #[.int .i64 c, .int .i64 d])).run Tryz.prog w = .ok (a == c && b == d) w := by
  have u3 := Tryz.underlying3
  have hS : Tryz.prog.underlying 106 = some (.struct (Tryz.prog.fieldsOf 106)) := by kernel_rfl
  have hp : Tryz.prog.stoodInHeld 106 = false := by kernel_rfl
  rw [show (10000 : Nat) = 9999 + 1 from rfl, run_equalIn_agg w 9999 106 _ _ hS hp]
  simp only [Program.fieldsOf, Tryz.underlying106]
  go_simp
  trace_state
  by_cases h1 : a = c <;> by_cases h2 : b = d <;> simp [h1, h2]
theorem oLeast2 (n x : Int) (a : Addr) (w : World) (hc : w.cell? a = some (.int .i64 x)) : Calls Tryz.prog 63 #[.int .i64 n, .slice (some a) 1 1] w fun e w' => e = .returned (.int .i64 (min n x)) ∧ w = w' := by
  go_enter Tryz.func63, Tryz.ntmps63
  go_wp2
  go_loop [0, 9] (fun s i => ∃ k : Nat, k ≤ 1 ∧ i = .int .i64 k ∧ s = .int .i64 (if k = 0 then n else min n x)) (fun _ i => 1 - (intOf i).toNat)
  case atStart => exact ⟨0, by omega, rfl, rfl⟩
  case round =>
    obtain ⟨k, hk, rfl, rfl⟩ := hrel
    by_cases h0 : k = 0
    · subst h0
      have hc2 : w.cell? (a.add 0) = some (.int .i64 x) := by simpa [Addr.add] using hc
      by_cases hx : x < n
      · have hmin : min n x = x := by omega
        go_wp2
        go_round
        case rel => exact ⟨1, by omega, by go_num, by simp [hmin]⟩
        case measure => simp [intOf]
      · have hmin : min n x = n := by omega
        go_wp2
        go_round
        case rel => exact ⟨1, by omega, by go_num, by simp [hmin]⟩
        case measure => simp [intOf]
    · have h1 : k = 1 := by omega
      subst h1
      go_wp2
      go_ret
      exact ⟨by simp, rfl⟩
theorem turned_any (a b : Int) (w : World) : Calls Tryz.prog 90 #[.agg #[.int .i64 a, .int .i64 b]] w fun e w' => e = .returned (.agg #[.int .i64 b, .int .i64 a]) ∧ Kept w w' := by
  go_enter Tryz.func90, Tryz.ntmps90
  go_wp2_with fail
  refine bodyPost_ret (v := .agg #[.int .i64 b, .int .i64 a]) (by simp [results, Tryz.results90, go_sem]) rfl ⟨rfl, ?_⟩
  unfold Kept
  repeat (first | exact Below.refl _ _ | refine Below.alloc ?_ (by simp) _ | refine Below.setCell ?_ (by simp [Addr.add]; done) _ )

theorem atMost_any (X : OBook) (bm : Nat) (l : List OSlot) (f : Fm) (a b : Nat) (w : World) (h : BoundsAt w bm l f) (ha : a < 6) (hb : b < 6) :
    Calls Tryz.prog 78 #[.agg #[.int .i64 X.pipes, .slice X.tp X.tunes.length X.tcap, .slice X.fp X.forks.length X.fcap, .slice X.p X.B.boys.length X.cap, .int .i64 X.B.weeks, .slice X.q X.B.trials.length X.capt, .map (some bm)], .agg #[.int .i64 (a : Int), .int .i64 (b : Int)]] w fun e w' => e = .returned (.int .i64 (f a b)) ∧ Kept w w' := by
  have hk0 : Kept w ((w.alloc (Obj.cells #[.int .i64 X.pipes, .slice X.tp X.tunes.length X.tcap, .slice X.fp X.forks.length X.fcap, .slice X.p X.B.boys.length X.cap, .int .i64 X.B.weeks, .slice X.q X.B.trials.length X.capt, .map (some bm)] 76)).alloc (Obj.cells #[.int .i64 (a : Int), .int .i64 (b : Int)] 106)) := kept_alloc (kept_alloc (kept_refl _) _) _
  obtain ⟨v, kn, hlook, hv⟩ := h.look ha hb
  unfold keyV at hlook
  have hlk := hlook ((w.alloc (Obj.cells #[.int .i64 X.pipes, .slice X.tp X.tunes.length X.tcap, .slice X.fp X.forks.length X.fcap, .slice X.p X.B.boys.length X.cap, .int .i64 X.B.weeks, .slice X.q X.B.trials.length X.capt, .map (some bm)] 76)).alloc (Obj.cells #[.int .i64 (a : Int), .int .i64 (b : Int)] 106)) (hk0.block bm h.lt)
  have y0 : ((w.alloc (Obj.cells #[.int .i64 X.pipes, .slice X.tp X.tunes.length X.tcap, .slice X.fp X.forks.length X.fcap, .slice X.p X.B.boys.length X.cap, .int .i64 X.B.weeks, .slice X.q X.B.trials.length X.capt, .map (some bm)] 76)).alloc (Obj.cells #[.int .i64 (a : Int), .int .i64 (b : Int)] 106)).cell? ⟨w.heap.size + 1, 0, none⟩ = some (.int .i64 (a : Int)) := by go_simp
  have y1 : ((w.alloc (Obj.cells #[.int .i64 X.pipes, .slice X.tp X.tunes.length X.tcap, .slice X.fp X.forks.length X.fcap, .slice X.p X.B.boys.length X.cap, .int .i64 X.B.weeks, .slice X.q X.B.trials.length X.capt, .map (some bm)] 76)).alloc (Obj.cells #[.int .i64 (a : Int), .int .i64 (b : Int)] 106)).cell? ⟨w.heap.size + 1, 1, none⟩ = some (.int .i64 (b : Int)) := by go_simp
  have x6 : ((w.alloc (Obj.cells #[.int .i64 X.pipes, .slice X.tp X.tunes.length X.tcap, .slice X.fp X.forks.length X.fcap, .slice X.p X.B.boys.length X.cap, .int .i64 X.B.weeks, .slice X.q X.B.trials.length X.capt, .map (some bm)] 76)).alloc (Obj.cells #[.int .i64 (a : Int), .int .i64 (b : Int)] 106)).cell? ⟨w.heap.size, 6, none⟩ = some (.map (some bm)) := by go_simp
  have hzx : w.heap.size < ((w.alloc (Obj.cells #[.int .i64 X.pipes, .slice X.tp X.tunes.length X.tcap, .slice X.fp X.forks.length X.fcap, .slice X.p X.B.boys.length X.cap, .int .i64 X.B.weeks, .slice X.q X.B.trials.length X.capt, .map (some bm)] 76)).alloc (Obj.cells #[.int .i64 (a : Int), .int .i64 (b : Int)] 106)).heap.size := by simp; omega
  have hzy : w.heap.size + 1 < ((w.alloc (Obj.cells #[.int .i64 X.pipes, .slice X.tp X.tunes.length X.tcap, .slice X.fp X.forks.length X.fcap, .slice X.p X.B.boys.length X.cap, .int .i64 X.B.weeks, .slice X.q X.B.trials.length X.capt, .map (some bm)] 76)).alloc (Obj.cells #[.int .i64 (a : Int), .int .i64 (b : Int)] 106)).heap.size := by simp
  have HTU := Lib.hid (fun V => turned_any (a : Int) (b : Int) V)
  have HVV := Lib.hid hv
  clear hlook h
  rcases kn with _ | _
  · have hf : f a b = dfltF a b := by
      rcases hv with ⟨h1, _⟩ | ⟨_, h2⟩
      · cases h1
      · exact h2
    clear hv HVV
    have HF := Lib.hid hf; clear hf
    go_enter Tryz.func78, Tryz.ntmps78
    go_wp2_with fail
    generalize ((w.alloc (Obj.cells #[.int .i64 X.pipes, .slice X.tp X.tunes.length X.tcap, .slice X.fp X.forks.length X.fcap, .slice X.p X.B.boys.length X.cap, .int .i64 X.B.weeks, .slice X.q X.B.trials.length X.capt, .map (some bm)] 76)).alloc (Obj.cells #[.int .i64 (a : Int), .int .i64 (b : Int)] 106)) = W0 at *
    have HTW := Lib.hid (fun d os => Calls.regrown_of (HTU.out (grow (redrawn W0 d) os)))
    have f0 := cell_regrown y0
    have f1 := cell_regrown y1
    rcases hg : ((a : Int) == (b : Int) && (b : Int) == (a : Int)) with _ | _
    all_goals
      have hE := fun V => (eqTwo (a : Int) (b : Int) (b : Int) (a : Int) V).trans (by rw [hg])
      have HG := Lib.hid hg; clear hg
      refine wp_region_quiet_below (by kernel_rfl) (by kernel_rfl) ?_
      repeat (any_goals (first | go_big_quiet_skip | quiet_step (first | with_reducible exact HTW.out _ _)))
      refine wpQuiet_nil ?_
      intro _ hw'
      obtain ⟨⟨dq, osq⟩, hw''⟩ := hw'
      subst hw''
      have kQ := below_regrown W0 dq osq
      go_wp2_with fail
      go_ret
      refine ⟨?_, kept_trans hk0 kQ⟩
      rw [HF.out]
      have hgg := HG.out
      unfold dfltF
      by_cases e : a = b
      · subst e
        simp at hgg
        try simp
      · have e2 : ¬ (a : Int) = b := by omega
        simp [e2] at hgg
        try simp [e]
  · obtain rfl : v = f a b := by
      rcases hv with ⟨_, h2⟩ | ⟨h1, _⟩
      · exact h2
      · cases h1
    clear hv HVV
    go_enter Tryz.func78, Tryz.ntmps78
    go_wp2_with fail
    go_ret
    exact ⟨rfl, hk0⟩

/-- what is known while a bound is bound anew, in whatever order -/
structure BindI (V : World) (vals : Nat → Value) (x : Int) (R : World → Prop) (vs : Nat → Value) (on : Nat → Bool) (w : World) : Prop where
  kept : on 9 = false → Kept V w
  val : ∀ j, on j = true → j ≠ 7 → j ≠ 9 → vs j = vals j
  sl : on 9 = false → on 7 = true → ∃ g, vs 7 = .slice (some ⟨g, 0, none⟩) 1 1 ∧ w.cell? ⟨g, 0, none⟩ = some (.int .i64 x)
  made : on 9 = true → R w
section
variable {V w w' : World} {vals : Nat → Value} {x : Int} {R : World → Prop} {vs : Nat → Value} {on : Nat → Bool}
theorem BindI.start : BindI V vals x R (fun _ => undef) (fun _ => false) V.drew := ⟨fun _ => kept_drew (kept_refl V), nofun, nofun, nofun⟩
theorem BindI.pure (h : BindI V vals x R vs on w) (j : Nat) (h7 : j ≠ 7) (h9 : j ≠ 9) (n9 : on 9 = false) (k : Kept w w') : BindI V vals x R (fun i => if i = j then vals j else vs i) (fun i => if i = j then true else on i) w' := by
  refine ⟨fun _ => kept_trans (h.kept n9) k, fun i hi g7 g9 => ?_, fun _ h2 => ?_, fun h2 => ?_⟩
  · by_cases e : i = j
    · subst e; simp
    · simp only [e, if_false] at hi ⊢; exact h.val i hi g7 g9
  · simp only [Ne.symm h7, if_false] at h2 ⊢
    obtain ⟨g, e, hc⟩ := h.sl n9 h2
    exact ⟨g, e, kcell k hc⟩
  · simp only [Ne.symm h9, if_false] at h2
    rw [n9] at h2; cases h2
theorem BindI.slice (h : BindI V vals x R vs on w) (n9 : on 9 = false) (T : TypeId) : BindI V vals x R (fun i => if i = 7 then .slice (some ⟨w.heap.size, 0, none⟩) 1 1 else vs i) (fun i => if i = 7 then true else on i) (w.alloc (Obj.cells #[.int .i64 x] T)) := by
  refine ⟨fun _ => kept_trans (h.kept n9) (kept_alloc (kept_refl _) _), fun i hi g7 g9 => ?_, fun _ _ => ⟨w.heap.size, rfl, by go_simp⟩, fun h2 => ?_⟩
  · simp only [g7, if_false] at hi ⊢; exact h.val i hi g7 g9
  · simp at h2; rw [n9] at h2; cases h2
theorem BindI.done (h : BindI V vals x R vs on w) {v : Value} (r : R w') : BindI V vals x R (fun i => if i = 9 then v else vs i) (fun i => if i = 9 then true else on i) w' := by
  refine ⟨fun h2 => by simp at h2, fun i hi g7 g9 => ?_, fun h2 => by simp at h2, fun _ => r⟩
  simp only [g9, if_false] at hi ⊢
  exact h.val i hi g7 g9
end
def bindV (w : World) (X : OBook) (bm a b : Nat) (m : Int) (f : Fm) : Nat → Value := fun j => match j with | 0 => .pointer (some ⟨w.heap.size, 6, none⟩) | 1 => .map (some bm) | 2 => .agg #[.int .i64 (a : Int), .int .i64 (b : Int)] | 3 => .int .i64 m | 4 => .agg #[.int .i64 X.pipes, .slice X.tp X.tunes.length X.tcap, .slice X.fp X.forks.length X.fcap, .slice X.p X.B.boys.length X.cap, .int .i64 X.B.weeks, .slice X.q X.B.trials.length X.capt, .map (some bm)] | 5 => .agg #[.int .i64 (a : Int), .int .i64 (b : Int)] | 6 => .int .i64 (f a b) | 8 => .int .i64 (min m (f a b)) | _ => undef
theorem bind_any (X : OBook) (bm : Nat) (l : List OSlot) (f : Fm) (a b : Nat) (m : Int) (w : World) (h : BoundsAt w bm l f) (ha : a < 6) (hb : b < 6) :
    Calls Tryz.prog 89 #[.agg #[.int .i64 X.pipes, .slice X.tp X.tunes.length X.tcap, .slice X.fp X.forks.length X.fcap, .slice X.p X.B.boys.length X.cap, .int .i64 X.B.weeks, .slice X.q X.B.trials.length X.capt, .map (some bm)], .agg #[.int .i64 (a : Int), .int .i64 (b : Int)], .int .i64 m] w fun e w' => e = .returned (.tuple #[]) ∧ Turns (fun c => c = bm) w w' ∧ ∃ l', BoundsAt w' bm l' (updF f a b m) := by
  have hk0 : Kept w ((w.alloc (Obj.cells #[.int .i64 X.pipes, .slice X.tp X.tunes.length X.tcap, .slice X.fp X.forks.length X.fcap, .slice X.p X.B.boys.length X.cap, .int .i64 X.B.weeks, .slice X.q X.B.trials.length X.capt, .map (some bm)] 76)).alloc (Obj.cells #[.int .i64 (a : Int), .int .i64 (b : Int)] 106)) := kept_alloc (kept_alloc (kept_refl _) _) _
  have HAM := Lib.hid (fun V (hh : BoundsAt V bm l f) => atMost_any X bm l f a b V hh ha hb)
  have y0 : ((w.alloc (Obj.cells #[.int .i64 X.pipes, .slice X.tp X.tunes.length X.tcap, .slice X.fp X.forks.length X.fcap, .slice X.p X.B.boys.length X.cap, .int .i64 X.B.weeks, .slice X.q X.B.trials.length X.capt, .map (some bm)] 76)).alloc (Obj.cells #[.int .i64 (a : Int), .int .i64 (b : Int)] 106)).cell? ⟨w.heap.size + 1, 0, none⟩ = some (.int .i64 (a : Int)) := by go_simp
  have y1 : ((w.alloc (Obj.cells #[.int .i64 X.pipes, .slice X.tp X.tunes.length X.tcap, .slice X.fp X.forks.length X.fcap, .slice X.p X.B.boys.length X.cap, .int .i64 X.B.weeks, .slice X.q X.B.trials.length X.capt, .map (some bm)] 76)).alloc (Obj.cells #[.int .i64 (a : Int), .int .i64 (b : Int)] 106)).cell? ⟨w.heap.size + 1, 1, none⟩ = some (.int .i64 (b : Int)) := by go_simp
  have x0 : ((w.alloc (Obj.cells #[.int .i64 X.pipes, .slice X.tp X.tunes.length X.tcap, .slice X.fp X.forks.length X.fcap, .slice X.p X.B.boys.length X.cap, .int .i64 X.B.weeks, .slice X.q X.B.trials.length X.capt, .map (some bm)] 76)).alloc (Obj.cells #[.int .i64 (a : Int), .int .i64 (b : Int)] 106)).cell? ⟨w.heap.size, 0, none⟩ = some (.int .i64 X.pipes) := by go_simp
  have x1 : ((w.alloc (Obj.cells #[.int .i64 X.pipes, .slice X.tp X.tunes.length X.tcap, .slice X.fp X.forks.length X.fcap, .slice X.p X.B.boys.length X.cap, .int .i64 X.B.weeks, .slice X.q X.B.trials.length X.capt, .map (some bm)] 76)).alloc (Obj.cells #[.int .i64 (a : Int), .int .i64 (b : Int)] 106)).cell? ⟨w.heap.size, 1, none⟩ = some (.slice X.tp X.tunes.length X.tcap) := by go_simp
  have x2 : ((w.alloc (Obj.cells #[.int .i64 X.pipes, .slice X.tp X.tunes.length X.tcap, .slice X.fp X.forks.length X.fcap, .slice X.p X.B.boys.length X.cap, .int .i64 X.B.weeks, .slice X.q X.B.trials.length X.capt, .map (some bm)] 76)).alloc (Obj.cells #[.int .i64 (a : Int), .int .i64 (b : Int)] 106)).cell? ⟨w.heap.size, 2, none⟩ = some (.slice X.fp X.forks.length X.fcap) := by go_simp
  have x3 : ((w.alloc (Obj.cells #[.int .i64 X.pipes, .slice X.tp X.tunes.length X.tcap, .slice X.fp X.forks.length X.fcap, .slice X.p X.B.boys.length X.cap, .int .i64 X.B.weeks, .slice X.q X.B.trials.length X.capt, .map (some bm)] 76)).alloc (Obj.cells #[.int .i64 (a : Int), .int .i64 (b : Int)] 106)).cell? ⟨w.heap.size, 3, none⟩ = some (.slice X.p X.B.boys.length X.cap) := by go_simp
  have x4 : ((w.alloc (Obj.cells #[.int .i64 X.pipes, .slice X.tp X.tunes.length X.tcap, .slice X.fp X.forks.length X.fcap, .slice X.p X.B.boys.length X.cap, .int .i64 X.B.weeks, .slice X.q X.B.trials.length X.capt, .map (some bm)] 76)).alloc (Obj.cells #[.int .i64 (a : Int), .int .i64 (b : Int)] 106)).cell? ⟨w.heap.size, 4, none⟩ = some (.int .i64 X.B.weeks) := by go_simp
  have x5 : ((w.alloc (Obj.cells #[.int .i64 X.pipes, .slice X.tp X.tunes.length X.tcap, .slice X.fp X.forks.length X.fcap, .slice X.p X.B.boys.length X.cap, .int .i64 X.B.weeks, .slice X.q X.B.trials.length X.capt, .map (some bm)] 76)).alloc (Obj.cells #[.int .i64 (a : Int), .int .i64 (b : Int)] 106)).cell? ⟨w.heap.size, 5, none⟩ = some (.slice X.q X.B.trials.length X.capt) := by go_simp
  have x6 : ((w.alloc (Obj.cells #[.int .i64 X.pipes, .slice X.tp X.tunes.length X.tcap, .slice X.fp X.forks.length X.fcap, .slice X.p X.B.boys.length X.cap, .int .i64 X.B.weeks, .slice X.q X.B.trials.length X.capt, .map (some bm)] 76)).alloc (Obj.cells #[.int .i64 (a : Int), .int .i64 (b : Int)] 106)).cell? ⟨w.heap.size, 6, none⟩ = some (.map (some bm)) := by go_simp
  have hzx : w.heap.size < ((w.alloc (Obj.cells #[.int .i64 X.pipes, .slice X.tp X.tunes.length X.tcap, .slice X.fp X.forks.length X.fcap, .slice X.p X.B.boys.length X.cap, .int .i64 X.B.weeks, .slice X.q X.B.trials.length X.capt, .map (some bm)] 76)).alloc (Obj.cells #[.int .i64 (a : Int), .int .i64 (b : Int)] 106)).heap.size := by simp; omega
  have hzy : w.heap.size + 1 < ((w.alloc (Obj.cells #[.int .i64 X.pipes, .slice X.tp X.tunes.length X.tcap, .slice X.fp X.forks.length X.fcap, .slice X.p X.B.boys.length X.cap, .int .i64 X.B.weeks, .slice X.q X.B.trials.length X.capt, .map (some bm)] 76)).alloc (Obj.cells #[.int .i64 (a : Int), .int .i64 (b : Int)] 106)).heap.size := by simp
  have H0 := Lib.hid (h.kept hk0)
  have hbmw := h.lt
  have ha6 := ha
  have hb6 := hb
  clear h ha hb
  go_enter Tryz.func89, Tryz.ntmps89
  go_wp2_with fail
  generalize ((w.alloc (Obj.cells #[.int .i64 X.pipes, .slice X.tp X.tunes.length X.tcap, .slice X.fp X.forks.length X.fcap, .slice X.p X.B.boys.length X.cap, .int .i64 X.B.weeks, .slice X.q X.B.trials.length X.capt, .map (some bm)] 76)).alloc (Obj.cells #[.int .i64 (a : Int), .int .i64 (b : Int)] 106)) = W0 at *
  refine (wpIn_wide (n := 0)).1 (wpIn_region_invL (StG (BindI W0 (bindV w X bm a b m f) (f a b) (fun U => Turns (fun c => c = bm) W0 U ∧ ∃ l', BoundsAt U bm l' (updF f a b m)))) (by kernel_rfl) (by kernel_rfl) (StG.start BindI.start) ?hop ?hend)
  case hop =>
    rintro i o listed a' V hl ho h1 h2 hcl ⟨vs, ha, hI⟩
    have hi10 : i < 10 := (List.getElem?_eq_some_iff.1 ho).1
    match i, ho with
    | 0, ho =>
      have n9 : on listed 9 = false := by
        cases hb : on listed 9 with
        | false => rfl
        | true => have := hcl 9 _ rfl hb ⟨0, .phase⟩ (by simp) rfl; rw [on_no h1] at this; cases this
      have hKK := hI.kept n9
      have r0 := kcell hKK x0
      have r1 := kcell hKK x1
      have r2 := kcell hKK x2
      have r3 := kcell hKK x3
      have r4 := kcell hKK x4
      have r5 := kcell hKK x5
      have r6 := kcell hKK x6
      have s0 := kcell hKK y0
      have s1 := kcell hKK y1
      have st := StG.step (by kernel_rfl) ha hl ho h1 (hI.pure 0 (by simp) (by simp) n9 (kept_refl _))
      have ST := Lib.hid st; clear st
      cases ho
      rw [if_pos (by rfl)]
      have t3 := ha.old 3 (by kernel_rfl)
      simp at t3
      have HI := Lib.hid hI; clear hI
      go_simp
      exact ST.out
    | 1, ho =>
      have n9 : on listed 9 = false := by
        cases hb : on listed 9 with
        | false => rfl
        | true => have := hcl 9 _ rfl hb ⟨1, .phase⟩ (by simp) rfl; rw [on_no h1] at this; cases this
      have hKK := hI.kept n9
      have r0 := kcell hKK x0
      have r1 := kcell hKK x1
      have r2 := kcell hKK x2
      have r3 := kcell hKK x3
      have r4 := kcell hKK x4
      have r5 := kcell hKK x5
      have r6 := kcell hKK x6
      have s0 := kcell hKK y0
      have s1 := kcell hKK y1
      have st := StG.step (by kernel_rfl) ha hl ho h1 (hI.pure 1 (by simp) (by simp) n9 (kept_refl _))
      have ST := Lib.hid st; clear st
      cases ho
      rw [if_pos (by rfl)]
      have t6 := (ha.new 0 (h2 ⟨0, .data⟩ (by simp) rfl) (d := 6) rfl rfl (by simp)).trans (hI.val 0 (h2 ⟨0, .data⟩ (by simp) rfl) (by simp) (by simp))
      simp [bindV] at t6
      have HI := Lib.hid hI; clear hI
      go_simp
      exact ST.out
    | 2, ho =>
      have n9 : on listed 9 = false := by
        cases hb : on listed 9 with
        | false => rfl
        | true => have := hcl 9 _ rfl hb ⟨2, .phase⟩ (by simp) rfl; rw [on_no h1] at this; cases this
      have hKK := hI.kept n9
      have r0 := kcell hKK x0
      have r1 := kcell hKK x1
      have r2 := kcell hKK x2
      have r3 := kcell hKK x3
      have r4 := kcell hKK x4
      have r5 := kcell hKK x5
      have r6 := kcell hKK x6
      have s0 := kcell hKK y0
      have s1 := kcell hKK y1
      have st := StG.step (by kernel_rfl) ha hl ho h1 (hI.pure 2 (by simp) (by simp) n9 (kept_refl _))
      have ST := Lib.hid st; clear st
      cases ho
      rw [if_pos (by rfl)]
      have t4 := ha.old 4 (by kernel_rfl)
      simp at t4
      have HI := Lib.hid hI; clear hI
      go_simp
      exact ST.out
    | 3, ho =>
      have n9 : on listed 9 = false := by
        cases hb : on listed 9 with
        | false => rfl
        | true => have := hcl 9 _ rfl hb ⟨3, .phase⟩ (by simp) rfl; rw [on_no h1] at this; cases this
      have hKK := hI.kept n9
      have r0 := kcell hKK x0
      have r1 := kcell hKK x1
      have r2 := kcell hKK x2
      have r3 := kcell hKK x3
      have r4 := kcell hKK x4
      have r5 := kcell hKK x5
      have r6 := kcell hKK x6
      have s0 := kcell hKK y0
      have s1 := kcell hKK y1
      have st := StG.step (by kernel_rfl) ha hl ho h1 (hI.pure 3 (by simp) (by simp) n9 (kept_refl _))
      have ST := Lib.hid st; clear st
      cases ho
      rw [if_pos (by rfl)]
      have t2 := ha.old 2 (by kernel_rfl)
      simp at t2
      have HI := Lib.hid hI; clear hI
      go_simp
      exact ST.out
    | 4, ho =>
      have n9 : on listed 9 = false := by
        cases hb : on listed 9 with
        | false => rfl
        | true => have := hcl 9 _ rfl hb ⟨4, .phase⟩ (by simp) rfl; rw [on_no h1] at this; cases this
      have hKK := hI.kept n9
      have r0 := kcell hKK x0
      have r1 := kcell hKK x1
      have r2 := kcell hKK x2
      have r3 := kcell hKK x3
      have r4 := kcell hKK x4
      have r5 := kcell hKK x5
      have r6 := kcell hKK x6
      have s0 := kcell hKK y0
      have s1 := kcell hKK y1
      have st := StG.step (by kernel_rfl) ha hl ho h1 (hI.pure 4 (by simp) (by simp) n9 (kept_refl _))
      have ST := Lib.hid st; clear st
      cases ho
      rw [if_pos (by rfl)]
      have t3 := ha.old 3 (by kernel_rfl)
      simp at t3
      have HI := Lib.hid hI; clear hI
      go_simp
      exact ST.out
    | 5, ho =>
      have n9 : on listed 9 = false := by
        cases hb : on listed 9 with
        | false => rfl
        | true => have := hcl 9 _ rfl hb ⟨5, .phase⟩ (by simp) rfl; rw [on_no h1] at this; cases this
      have hKK := hI.kept n9
      have r0 := kcell hKK x0
      have r1 := kcell hKK x1
      have r2 := kcell hKK x2
      have r3 := kcell hKK x3
      have r4 := kcell hKK x4
      have r5 := kcell hKK x5
      have r6 := kcell hKK x6
      have s0 := kcell hKK y0
      have s1 := kcell hKK y1
      have st := StG.step (by kernel_rfl) ha hl ho h1 (hI.pure 5 (by simp) (by simp) n9 (kept_refl _))
      have ST := Lib.hid st; clear st
      cases ho
      rw [if_pos (by rfl)]
      have t4 := ha.old 4 (by kernel_rfl)
      simp at t4
      have HI := Lib.hid hI; clear hI
      go_simp
      exact ST.out
    | 6, ho =>
      have n9 : on listed 9 = false := by
        cases hb : on listed 9 with
        | false => rfl
        | true => have := hcl 9 _ rfl hb ⟨6, .phase⟩ (by simp) rfl; rw [on_no h1] at this; cases this
      have hKK := hI.kept n9
      have r0 := kcell hKK x0
      have r1 := kcell hKK x1
      have r2 := kcell hKK x2
      have r3 := kcell hKK x3
      have r4 := kcell hKK x4
      have r5 := kcell hKK x5
      have r6 := kcell hKK x6
      have s0 := kcell hKK y0
      have s1 := kcell hKK y1
      have st := fun V' (kk : Kept V V') => StG.step (by kernel_rfl) ha hl ho h1 (hI.pure 6 (by simp) (by simp) n9 kk)
      have ST := Lib.hid st; clear st
      cases ho
      rw [if_pos (by rfl)]
      have t10 := (ha.new 4 (h2 ⟨4, .data⟩ (by simp) rfl) (d := 10) rfl rfl (by simp)).trans (hI.val 4 (h2 ⟨4, .data⟩ (by simp) rfl) (by simp) (by simp))
      simp [bindV] at t10
      have t11 := (ha.new 5 (h2 ⟨5, .data⟩ (by simp) rfl) (d := 11) rfl rfl (by simp)).trans (hI.val 5 (h2 ⟨5, .data⟩ (by simp) rfl) (by simp) (by simp))
      simp [bindV] at t11
      have hcall := HAM.out V (H0.out.kept hKK)
      have HCL := Lib.hid hcall; clear hcall
      have HI := Lib.hid hI; clear hI
      go_simp
      refine ⟨trivial, rfl, (callsIn_wide.2 HCL.out).mono ?_⟩
      rintro e V' ⟨rfl, hk⟩
      exact ST.out V' hk
    | 7, ho =>
      have n9 : on listed 9 = false := by
        cases hb : on listed 9 with
        | false => rfl
        | true => have := hcl 9 _ rfl hb ⟨7, .phase⟩ (by simp) rfl; rw [on_no h1] at this; cases this
      have hKK := hI.kept n9
      have r0 := kcell hKK x0
      have r1 := kcell hKK x1
      have r2 := kcell hKK x2
      have r3 := kcell hKK x3
      have r4 := kcell hKK x4
      have r5 := kcell hKK x5
      have r6 := kcell hKK x6
      have s0 := kcell hKK y0
      have s1 := kcell hKK y1
      have st := StG.step (by kernel_rfl) ha hl ho h1 (hI.slice n9 3)
      have ST := Lib.hid st; clear st
      cases ho
      rw [if_pos (by rfl)]
      have t12 := (ha.new 6 (h2 ⟨6, .data⟩ (by simp) rfl) (d := 12) rfl rfl (by simp)).trans (hI.val 6 (h2 ⟨6, .data⟩ (by simp) rfl) (by simp) (by simp))
      simp [bindV] at t12
      have HI := Lib.hid hI; clear hI
      go_simp
      exact ST.out
    | 8, ho =>
      have n9 : on listed 9 = false := by
        cases hb : on listed 9 with
        | false => rfl
        | true => have := hcl 9 _ rfl hb ⟨8, .phase⟩ (by simp) rfl; rw [on_no h1] at this; cases this
      have hKK := hI.kept n9
      have r0 := kcell hKK x0
      have r1 := kcell hKK x1
      have r2 := kcell hKK x2
      have r3 := kcell hKK x3
      have r4 := kcell hKK x4
      have r5 := kcell hKK x5
      have r6 := kcell hKK x6
      have s0 := kcell hKK y0
      have s1 := kcell hKK y1
      have y7 : on listed 7 = true := h2 ⟨7, .data⟩ (by cases ho; simp) rfl
      obtain ⟨g, hg7, hgc⟩ := hI.sl n9 y7
      have st := fun V' (kk : Kept V V') => StG.step (by kernel_rfl) ha hl ho h1 (hI.pure 8 (by simp) (by simp) n9 kk)
      have ST := Lib.hid st; clear st
      have t13 := (ha.new 7 y7 (d := 13) rfl rfl (by simp)).trans hg7
      simp at t13
      cases ho
      rw [if_pos (by rfl)]
      have t9 := (ha.new 3 (h2 ⟨3, .data⟩ (by simp) rfl) (d := 9) rfl rfl (by simp)).trans (hI.val 3 (h2 ⟨3, .data⟩ (by simp) rfl) (by simp) (by simp))
      simp [bindV] at t9
      have hcall := oLeast2 m (f a b) _ V hgc
      have HCL := Lib.hid hcall; clear hcall
      have HI := Lib.hid hI; clear hI
      go_simp
      refine ⟨trivial, rfl, (callsIn_wide.2 HCL.out).mono ?_⟩
      rintro e V' ⟨rfl, rfl⟩
      exact ST.out _ (kept_refl _)
    | 9, ho =>
      have n9 : on listed 9 = false := on_no h1
      have hKK := hI.kept n9
      obtain ⟨l', hrun, hB⟩ := (H0.out.kept hKK).write ha6 hb6 (min m (f a b))
      unfold keyV at hrun
      have st := StG.step (v := undef) (by kernel_rfl) ha hl ho h1 (hI.done (v := undef) (show (fun U => Turns (fun c => c = bm) W0 U ∧ ∃ l', BoundsAt U bm l' (updF f a b m)) _ from ⟨(kturns hKK (fun c => c = bm)).trans (Ext.refl _ _) (turns_set V bm (.map (oentries l') l'.length)), l', by rw [updF_eq]; exact hB⟩))
      have ST := Lib.hid st; clear st
      cases ho
      rw [if_pos (by rfl)]
      have t7 := (ha.new 1 (h2 ⟨1, .data⟩ (by simp) rfl) (d := 7) rfl rfl (by simp)).trans (hI.val 1 (h2 ⟨1, .data⟩ (by simp) rfl) (by simp) (by simp))
      simp [bindV] at t7
      have t8 := (ha.new 2 (h2 ⟨2, .data⟩ (by simp) rfl) (d := 8) rfl rfl (by simp)).trans (hI.val 2 (h2 ⟨2, .data⟩ (by simp) rfl) (by simp) (by simp))
      simp [bindV] at t8
      have t14 := (ha.new 8 (h2 ⟨8, .data⟩ (by simp) rfl) (d := 14) rfl rfl (by simp)).trans (hI.val 8 (h2 ⟨8, .data⟩ (by simp) rfl) (by simp) (by simp))
      simp [bindV] at t14
      have HI := Lib.hid hI; clear hI
      clear hB
      go_simp
      exact ST.out
  case hend =>
    rintro listed a' V hall ⟨vs, ha, hI⟩
    obtain ⟨hT, hB⟩ := hI.made (hall 9 (by simp))
    obtain ⟨y, hy, hae⟩ := ha.lit (n := 15) rfl
    subst hae
    clear hI ha hy
    go_end0
    exact ⟨rfl, (kturns hk0 _).trans (Ext.refl _ _) hT, hB⟩
end Go.Proofs.YthgfbokfaidklaaGreatDoor
