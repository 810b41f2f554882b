import Derived.Test.YtbhgicggpkibeaaDoorVY5
set_option linter.all false
set_option linter.all false
namespace Go.Proofs.YtbhgicggpkibeaaDoor
open Go.RowKit Go.Sort Go.Rg
set_option maxRecDepth 100000

set_option maxHeartbeats 4000000 in
theorem law_false (p q : Option Addr) (cap capt : Nat) (B : Book) (n0 n1 n2 : Int) (W : World) (h : BookAt W p q cap capt B) (hg : Nothing W) (hok : B.okB = false) :
    Calls Tryd.prog 3 #[B.val p q cap capt, .agg #[.int .i64 n0, .int .i64 n1, .int .i64 n2]] W fun e C => e = .returned (.bool true) ∧ Kept W C := by
  have hk0 : Kept W ((W.alloc (Obj.cells #[.slice p B.boys.length cap, .int .i64 B.weeks, .slice q B.trials.length capt] 25)).alloc (Obj.cells #[.int .i64 n0, .int .i64 n1, .int .i64 n2] 26)) := kept_alloc (kept_alloc (kept_refl _) _) _
  have hcall := small_any p q cap capt B _ (h.kept hk0)
  rw [hok] at hcall
  unfold Book.val at hcall ⊢
  have HC := Lib.hid hcall; clear hcall
  go_enter Tryd.func3, Tryd.ntmps3
  go_wp2_with fail
  generalize (W.alloc (Obj.cells #[.slice p B.boys.length cap, .int .i64 B.weeks, .slice q B.trials.length capt] 25)).alloc (Obj.cells #[.int .i64 n0, .int .i64 n1, .int .i64 n2] 26) = W0 at *
  refine HC.out.mono ?_
  rintro e w2 ⟨rfl, hk2⟩
  have hk02 := kept_trans hk0 hk2
  have HS := Lib.hid (sung_is w2 (h.laid.kept hk02) (hg.kept hk02))
  go_wp2_with fail
  refine HS.out.mono ?_
  rintro e w3 ⟨rfl, hk3⟩
  go_wp2_with fail
  go_ret
  exact ⟨rfl, kept_trans hk02 hk3⟩

set_option maxHeartbeats 8000000 in
theorem law_true (p q : Option Addr) (cap capt : Nat) (B : Book) (n0 n1 n2 : Int) (W : World) (h : BookAt W p q cap capt B) (hg : Nothing W) (hok : B.okB = true) :
    Calls Tryd.prog 3 #[B.val p q cap capt, .agg #[.int .i64 n0, .int .i64 n1, .int .i64 n2]] W fun e C => e = .returned (.bool true) ∧ Kept W C := by
  obtain ⟨⟨q1, q2, q3, q4, q5⟩, -, -⟩ := okB_boys hok
  have hk0 : Kept W ((W.alloc (Obj.cells #[.slice p B.boys.length cap, .int .i64 B.weeks, .slice q B.trials.length capt] 25)).alloc (Obj.cells #[.int .i64 n0, .int .i64 n1, .int .i64 n2] 26)) := kept_alloc (kept_alloc (kept_refl _) _) _
  have hcall := small_any p q cap capt B _ (h.kept hk0)
  rw [hok] at hcall
  unfold Book.val at hcall ⊢
  have HC := Lib.hid hcall; clear hcall
  have a0c : ((W.alloc (Obj.cells #[.slice p B.boys.length cap, .int .i64 B.weeks, .slice q B.trials.length capt] 25)).alloc (Obj.cells #[.int .i64 n0, .int .i64 n1, .int .i64 n2] 26)).cell? ⟨W.heap.size, 0, none⟩ = some (.slice p B.boys.length cap) := by go_simp
  have a1c : ((W.alloc (Obj.cells #[.slice p B.boys.length cap, .int .i64 B.weeks, .slice q B.trials.length capt] 25)).alloc (Obj.cells #[.int .i64 n0, .int .i64 n1, .int .i64 n2] 26)).cell? ⟨W.heap.size, 1, none⟩ = some (.int .i64 B.weeks) := by go_simp
  have a2c : ((W.alloc (Obj.cells #[.slice p B.boys.length cap, .int .i64 B.weeks, .slice q B.trials.length capt] 25)).alloc (Obj.cells #[.int .i64 n0, .int .i64 n1, .int .i64 n2] 26)).cell? ⟨W.heap.size, 2, none⟩ = some (.slice q B.trials.length capt) := by go_simp
  have b0c : ((W.alloc (Obj.cells #[.slice p B.boys.length cap, .int .i64 B.weeks, .slice q B.trials.length capt] 25)).alloc (Obj.cells #[.int .i64 n0, .int .i64 n1, .int .i64 n2] 26)).cell? ⟨W.heap.size + 1, 0, none⟩ = some (.int .i64 n0) := by go_simp
  have b1c : ((W.alloc (Obj.cells #[.slice p B.boys.length cap, .int .i64 B.weeks, .slice q B.trials.length capt] 25)).alloc (Obj.cells #[.int .i64 n0, .int .i64 n1, .int .i64 n2] 26)).cell? ⟨W.heap.size + 1, 1, none⟩ = some (.int .i64 n1) := by go_simp
  have b2c : ((W.alloc (Obj.cells #[.slice p B.boys.length cap, .int .i64 B.weeks, .slice q B.trials.length capt] 25)).alloc (Obj.cells #[.int .i64 n0, .int .i64 n1, .int .i64 n2] 26)).cell? ⟨W.heap.size + 1, 2, none⟩ = some (.int .i64 n2) := by go_simp
  go_enter Tryd.func3, Tryd.ntmps3
  go_wp2_with fail
  generalize (W.alloc (Obj.cells #[.slice p B.boys.length cap, .int .i64 B.weeks, .slice q B.trials.length capt] 25)).alloc (Obj.cells #[.int .i64 n0, .int .i64 n1, .int .i64 n2] 26) = W0 at *
  refine HC.out.mono ?_
  rintro e w2 ⟨rfl, hk2⟩
  have hk02 := kept_trans hk0 hk2
  have a0d := kcell hk2 a0c
  have a1d := kcell hk2 a1c
  have a2d := kcell hk2 a2c
  have b0d := kcell hk2 b0c
  have b1d := kcell hk2 b1c
  have b2d := kcell hk2 b2c
  have a0r : ∀ d os, (grow (redrawn w2 d) os).cell? ⟨W.heap.size, 0, none⟩ = some (.slice p B.boys.length cap) := cell_regrown a0d
  have a1r : ∀ d os, (grow (redrawn w2 d) os).cell? ⟨W.heap.size, 1, none⟩ = some (.int .i64 B.weeks) := cell_regrown a1d
  have a2r : ∀ d os, (grow (redrawn w2 d) os).cell? ⟨W.heap.size, 2, none⟩ = some (.slice q B.trials.length capt) := cell_regrown a2d
  have b0r : ∀ d os, (grow (redrawn w2 d) os).cell? ⟨W.heap.size + 1, 0, none⟩ = some (.int .i64 n0) := cell_regrown b0d
  have b1r : ∀ d os, (grow (redrawn w2 d) os).cell? ⟨W.heap.size + 1, 1, none⟩ = some (.int .i64 n1) := cell_regrown b1d
  have b2r : ∀ d os, (grow (redrawn w2 d) os).cell? ⟨W.heap.size + 1, 2, none⟩ = some (.int .i64 n2) := cell_regrown b2d
  have ht0 : ∀ d os, Calls Tryd.prog 7 #[.int .i64 n0, .int .i64 B.weeks] (grow (redrawn w2 d) os) fun e w'' => e = .returned (.int .i64 (turnI n0 B.weeks)) ∧ ∃ p : Regrown, w'' = grow (redrawn w2 p.d) p.os := fun d os => Calls.regrown_of ((turn_is n0 B.weeks (by omega) (by omega) _).mono (by rintro e w' ⟨rfl, rfl⟩; exact ⟨rfl, kept_refl _⟩))
  have ht1 : ∀ d os, Calls Tryd.prog 7 #[.int .i64 n1, .int .i64 (B.boys.length : Int)] (grow (redrawn w2 d) os) fun e w'' => e = .returned (.int .i64 (turnI n1 (B.boys.length : Int))) ∧ ∃ p : Regrown, w'' = grow (redrawn w2 p.d) p.os := fun d os => Calls.regrown_of ((turn_is n1 (B.boys.length : Int) (by omega) (by omega) _).mono (by rintro e w' ⟨rfl, rfl⟩; exact ⟨rfl, kept_refl _⟩))
  have ht2 : ∀ d os, Calls Tryd.prog 7 #[.int .i64 n2, .int .i64 41] (grow (redrawn w2 d) os) fun e w'' => e = .returned (.int .i64 (turnI n2 41)) ∧ ∃ p : Regrown, w'' = grow (redrawn w2 p.d) p.os := fun d os => Calls.regrown_of ((turn_is n2 41 (by omega) (by omega) _).mono (by rintro e w' ⟨rfl, rfl⟩; exact ⟨rfl, kept_refl _⟩))
  obtain ⟨k1, k2⟩ := turnI_lt n0 B.weeks (by omega)
  obtain ⟨k3, k4⟩ := turnI_lt n1 (B.boys.length : Int) (by omega)
  obtain ⟨k5, k6⟩ := turnI_lt n2 41 (by omega)
  generalize turnI n0 B.weeks = week at *
  generalize turnI n2 41 = note at *
  obtain ⟨boy, hboy⟩ := Int.eq_ofNat_of_zero_le k3
  rw [hboy] at ht1 k4
  have hbl : boy < B.boys.length := by omega
  have HT0 := Lib.hid ht0
  have HT1 := Lib.hid ht1
  have HT2 := Lib.hid ht2
  clear ht0 ht1 ht2 hboy k3 k4
  have HB := Lib.hid h
  have HG := Lib.hid hg
  clear h hg HC
  go_wp2_with fail
  refine wp_region_quiet_below (by kernel_rfl) (by kernel_rfl) ?_
  repeat (any_goals (first | go_big_quiet_skip | quiet_step (first | with_reducible exact HT0.out _ _ | with_reducible exact HT1.out _ _ | with_reducible exact HT2.out _ _)))
  refine wpQuiet_nil ?_
  intro _ hw'
  obtain ⟨⟨dq, osq⟩, hw''⟩ := hw'
  subst hw''
  have hk03 := kept_trans hk02 (below_regrown w2 dq osq)
  have s0 := kcell (below_regrown w2 dq osq) a0d
  have s1 := kcell (below_regrown w2 dq osq) a1d
  have s2 := kcell (below_regrown w2 dq osq) a2d
  generalize grow (redrawn w2 dq) osq = V3 at *
  clear a0d a1d a2d b0d b1d b2d a0r a1r a2r b0r b1r b2r a0c a1c a2c b0c b1c b2c HT0 HT1 HT2
  have hmust := must_any p q cap capt B week V3 (HB.out.kept hk03) (HG.out.kept hk03) hok ⟨k1, k2⟩
  unfold Book.val at hmust
  have HM := Lib.hid hmust; clear hmust
  go_wp2_with fail
  refine HM.out.mono ?_
  rintro e V4 ⟨lv, err, rfl, hk4, hr⟩
  have hk04 := kept_trans hk03 hk4
  replace s0 := kcell hk4 s0
  replace s1 := kcell hk4 s1
  replace s2 := kcell hk4 s2
  have hbr := breaks_any p q cap capt B boy V4 (HB.out.kept hk04) (HG.out.kept hk04) hok hbl
  unfold Book.val at hbr
  have HR := Lib.hid hbr; clear hbr HM
  have HREC := Lib.hid hr; clear hr
  go_wp2_with fail
  refine HR.out.mono ?_
  rintro e V5 ⟨lo, hi, err2, rfl, hk5, hr2⟩
  have hk05 := kept_trans hk04 hk5
  replace s0 := kcell hk5 s0
  replace s1 := kcell hk5 s1
  replace s2 := kcell hk5 s2
  have HREC2 := Lib.hid hr2; clear hr2 HR
  have kb : Kept V5 (V5.alloc (Obj.cells #[.int .i64 lo, .int .i64 hi] 35)) := kept_alloc (kept_refl _) _
  have hsu := surely_all p q cap capt B week note (V5.alloc (Obj.cells #[.int .i64 lo, .int .i64 hi] 35)) (HB.out.kept (kept_trans hk05 kb)) (HG.out.kept (kept_trans hk05 kb)) hok ⟨k1, k2⟩ ⟨k5, by omega⟩
  unfold Book.val at hsu
  have HS := Lib.hid hsu; clear hsu
  have hzb := Go.Ai.lt_of_cell s0
  have sp1 : (V5.alloc (Obj.cells #[.int .i64 lo, .int .i64 hi] 35)).cell? ⟨V5.heap.size, 1, none⟩ = some (.int .i64 hi) := by go_simp
  go_wp2_with fail
  generalize V5.alloc (Obj.cells #[.int .i64 lo, .int .i64 hi] 35) = V6 at *
  refine HS.out.mono ?_
  rintro e V7 ⟨sv, err3, rfl, hk7, hr3⟩
  have hk07 := kept_trans (kept_trans hk05 kb) hk7
  have hk67 := kept_trans kb hk7
  replace s0 := kcell hk67 s0
  replace s1 := kcell hk67 s1
  replace s2 := kcell hk67 s2
  replace sp1 := kcell hk7 sp1
  clear HS
  by_cases hcan : Can B
  · obtain ⟨rfl, -, hrow⟩ : err = 0 ∧ True ∧ V4.ownsRow V3.heap.size 3 1 lv (surelyL B (fun _ => brokenB week) B.boys.length).length (intsV (surelyL B (fun _ => brokenB week) B.boys.length)) := by
      rcases HREC.out with ⟨e, _, r⟩ | ⟨_, hn, _⟩
      · exact ⟨e, trivial, r⟩
      · exact absurd hcan hn
    obtain ⟨rfl, x, hx, hhi⟩ : err2 = 0 ∧ ∃ x, B.boys[boy]? = some x ∧ hi = (spanOf (fun n => (n.getD 4 0, true)) (B.truths boy x)).2.1 := by
      rcases HREC2.out with ⟨e, _, x, hx, _, hh⟩ | ⟨_, hn, _⟩
      · exact ⟨e, x, hx, hh⟩
      · exact absurd hcan hn
    obtain ⟨rfl, hrow2⟩ : err3 = 0 ∧ V7.ownsRow V6.heap.size 3 1 sv (surelyL B (singsN B week note note) B.boys.length).length (intsV (surelyL B (singsN B week note note) B.boys.length)) := by
      rcases hr3 with ⟨e, _, r⟩ | ⟨_, hn, _⟩
      · exact ⟨e, r⟩
      · exact absurd hcan hn
    have hL := (ListAt.of_row hrow).kept (kept_trans hk5 hk67)
    have hS := ListAt.of_row hrow2
    have hiff : 0 ≤ wI boy (surelyL B (fun _ => brokenB week) B.boys.length) 0 ↔ hi ≤ week := by
      rw [wI_mem, must_iff hx, hhi, spanOf_hi (fun n => n.getD 4 0) week _ (hcan boy x hx)]
    have hmore : ∀ week', week ≤ week' → gath (surelyL B (fun _ => brokenB week) B.boys.length) &&& gath (surelyL B (fun _ => brokenB week') B.boys.length) = gath (surelyL B (fun _ => brokenB week) B.boys.length) := fun week' hw => gath_sub fun b hb => must_more hw b hb
    have HMORE := Lib.hid hmore; clear hmore
    have h16L : gath (surelyL B (fun _ => brokenB week) B.boys.length) < 16 := gath_lt fun b hb => by have := surelyL_lt hb; omega
    have h16S : gath (surelyL B (singsN B week note note) B.boys.length) < 16 := gath_lt fun b hb => by have := surelyL_lt hb; omega
    have hand := and_bits _ h16L _ h16S (gath_and fun b hb => must_sings hcan b hb)
    have hLl := surelyL_len B (fun _ => brokenB week) B.boys.length
    have hSl := surelyL_len B (singsN B week note note) B.boys.length
    have hLx : ∀ b ∈ surelyL B (fun _ => brokenB week) B.boys.length, b < B.boys.length := fun b hb => surelyL_lt hb
    have hSx : ∀ b ∈ surelyL B (singsN B week note note) B.boys.length, b < B.boys.length := fun b hb => surelyL_lt hb
    have hLi := surelyL_incr (B := B) (sb := fun _ => brokenB week) (n := B.boys.length)
    have hSi := surelyL_incr (B := B) (sb := singsN B week note note) (n := B.boys.length)
    generalize surelyL B (fun _ => brokenB week) B.boys.length = L at *
    generalize surelyL B (singsN B week note note) B.boys.length = S at *
    have c1 : ∀ d os, Calls Tryd.prog 11 #[lv, .int .i64 (B.boys.length : Int)] (grow (redrawn V7 d) os) fun e w'' => e = .returned (.bool true) ∧ ∃ p : Regrown, w'' = grow (redrawn V7 p.d) p.os := fun d os => Calls.regrown_of (ordered_any lv L B.boys.length _ (hL.kept (below_regrown V7 d os)) (by omega) hLx (by omega) hLi)
    have c2 : ∀ d os, Calls Tryd.prog 11 #[sv, .int .i64 (B.boys.length : Int)] (grow (redrawn V7 d) os) fun e w'' => e = .returned (.bool true) ∧ ∃ p : Regrown, w'' = grow (redrawn V7 p.d) p.os := fun d os => Calls.regrown_of (ordered_any sv S B.boys.length _ (hS.kept (below_regrown V7 d os)) (by omega) hSx (by omega) hSi)
    have c3 : ∀ d os, Calls Tryd.prog 12 #[lv, .int .i64 (boy : Int)] (grow (redrawn V7 d) os) fun e w'' => e = .returned (.int .i64 (wI boy L 0)) ∧ ∃ p : Regrown, w'' = grow (redrawn V7 p.d) p.os := fun d os => Calls.regrown_of (where_is lv L boy _ (hL.kept (below_regrown V7 d os)) (by omega))
    have c4 : ∀ d os, Calls Tryd.prog 13 #[lv] (grow (redrawn V7 d) os) fun e w'' => e = .returned (.int .i64 (gath L : Nat)) ∧ ∃ p : Regrown, w'' = grow (redrawn V7 p.d) p.os := fun d os => Calls.regrown_of (gather_any lv L _ (hL.kept (below_regrown V7 d os)) (by omega) (fun b hb => by have := hLx b hb; omega))
    have c5 : ∀ d os, Calls Tryd.prog 13 #[sv] (grow (redrawn V7 d) os) fun e w'' => e = .returned (.int .i64 (gath S : Nat)) ∧ ∃ p : Regrown, w'' = grow (redrawn V7 p.d) p.os := fun d os => Calls.regrown_of (gather_any sv S _ (hS.kept (below_regrown V7 d os)) (by omega) (fun b hb => by have := hSx b hb; omega))
    have r0 : ∀ d os, (grow (redrawn V7 d) os).cell? ⟨W.heap.size, 0, none⟩ = some (.slice p B.boys.length cap) := cell_regrown s0
    have r1 : ∀ d os, (grow (redrawn V7 d) os).cell? ⟨V5.heap.size, 1, none⟩ = some (.int .i64 hi) := cell_regrown sp1
    have C1 := Lib.hid c1
    have C2 := Lib.hid c2
    have C3 := Lib.hid c3
    have C4 := Lib.hid c4
    have C5 := Lib.hid c5
    have HL := Lib.hid hL
    have HLX := Lib.hid (show L.length ≤ 4 ∧ ∀ b ∈ L, b < 4 from ⟨by omega, fun b hb => by have := hLx b hb; omega⟩)
    generalize wI boy L 0 = wr0 at *
    generalize hgl : gath L = gl at *
    generalize gath S = gs at *
    clear c1 c2 c3 c4 c5 hLx hSx hLi hSi hL hS hrow hrow2 hx hhi
    have key : ∃ bb, decide (wr0 ≥ 0) = bb ∧ decide (0 ≤ wr0) = bb ∧ decide (hi ≤ week) = bb := ⟨_, rfl, rfl, by simp [hiff]⟩
    obtain ⟨bb, e1, e2, e3⟩ := key
    clear hiff
    go_wp2_with fail
    refine wp_region_quiet_below (by kernel_rfl) (by kernel_rfl) ?_
    repeat (any_goals (first | go_big_quiet_skip | quiet_step (first | with_reducible exact C1.out _ _ | with_reducible exact C2.out _ _ | with_reducible exact C3.out _ _ | with_reducible exact C4.out _ _ | with_reducible exact C5.out _ _)))
    refine wpQuiet_nil ?_
    intro _ hw'
    obtain ⟨⟨dq, osq⟩, hw''⟩ := hw'
    subst hw''
    have hk08 := kept_trans hk07 (below_regrown V7 dq osq)
    replace s0 := kcell (below_regrown V7 dq osq) s0
    replace s1 := kcell (below_regrown V7 dq osq) s1
    replace s2 := kcell (below_regrown V7 dq osq) s2
    have HL8 := Lib.hid (HL.out.kept (below_regrown V7 dq osq))
    generalize grow (redrawn V7 dq) osq = V8 at *
    clear r0 r1 C1 C2 C3 C4 C5 HL
    have hwr1 : IntKind.i64.wrap (week + 1) = week + 1 := IntWalk.i64_in _ (by omega)
    by_cases hlast : week + 1 = B.weeks
    · have hle1 : (week + 1 == B.weeks) = true := by simp [hlast]
      have HSU := Lib.hid (sung_is V8 (HB.out.laid.kept hk08) (HG.out.kept hk08))
      clear hlast
      go_wp2_with (go_at_call 6; refine HSU.out.mono ?_; rintro e w' ⟨rfl, hk9⟩)
      go_ret
      exact ⟨rfl, kept_trans hk08 hk9⟩
    · have hle1 : (week + 1 == B.weeks) = false := by simp [hlast]
      have hmust2 := must_any p q cap capt B (week + 1) V8 (HB.out.kept hk08) (HG.out.kept hk08) hok ⟨by omega, by omega⟩
      unfold Book.val at hmust2
      have HM2 := Lib.hid hmust2; clear hmust2
      go_wp2_with fail
      refine HM2.out.mono ?_
      rintro e V9 ⟨mv, err4, rfl, hk9, hr4⟩
      obtain ⟨rfl, hrow4⟩ : err4 = 0 ∧ V9.ownsRow V8.heap.size 3 1 mv (surelyL B (fun _ => brokenB (week + 1)) B.boys.length).length (intsV (surelyL B (fun _ => brokenB (week + 1)) B.boys.length)) := by
        rcases hr4 with ⟨e, _, r⟩ | ⟨_, hn, _⟩
        · exact ⟨e, r⟩
        · exact absurd hcan hn
      clear hr4 HM2
      have hmo := HMORE.out (week + 1) (by omega)
      have h16M : gath (surelyL B (fun _ => brokenB (week + 1)) B.boys.length) < 16 := gath_lt fun b hb => by have := surelyL_lt hb; omega
      have hno := andNot_bits gl h16L _ h16M hmo
      have hk09 := kept_trans hk08 hk9
      have HG1 := Lib.hid (gather_any lv L V9 (HL8.out.kept hk9) HLX.out.1 HLX.out.2)
      have HG2 := Lib.hid (fun V (k : Kept V9 V) => gather_any mv _ V ((ListAt.of_row hrow4).kept k) (by have := surelyL_len B (fun _ => brokenB (week + 1)) B.boys.length; omega) (fun b hb => by have := surelyL_lt hb; omega))
      have HSU := Lib.hid (fun V (k : Kept V9 V) => sung_is V (HB.out.laid.kept (kept_trans hk09 k)) (HG.out.kept (kept_trans hk09 k)))
      rw [hgl] at HG1
      generalize gath (surelyL B (fun _ => brokenB (week + 1)) B.boys.length) = gm at *
      clear hmo hrow4 HL8
      go_wp2_with fail
      refine HG1.out.mono ?_
      rintro e V10 ⟨rfl, hk10⟩
      go_wp2_with fail
      refine (HG2.out V10 hk10).mono ?_
      rintro e V11 ⟨rfl, hk11⟩
      have hk911 := kept_trans hk10 hk11
      go_wp2_with fail
      refine (HSU.out V11 hk911).mono ?_
      rintro e V12 ⟨rfl, hk12⟩
      go_wp2_with fail
      go_ret
      exact ⟨rfl, kept_trans hk09 (kept_trans hk911 hk12)⟩
  · obtain ⟨rfl, rfl⟩ : err = 22 ∧ lv = .slice none 0 0 := by
      rcases HREC.out with ⟨_, hc, _⟩ | ⟨e, _, r⟩
      · exact absurd hc hcan
      · exact ⟨e, r⟩
    obtain ⟨rfl, rfl, rfl⟩ : err2 = 22 ∧ lo = 0 ∧ hi = 0 := by
      rcases HREC2.out with ⟨_, hc, _⟩ | ⟨e, _, r, r2⟩
      · exact absurd hc hcan
      · exact ⟨e, r, r2⟩
    obtain ⟨rfl, rfl⟩ : err3 = 22 ∧ sv = .slice none 0 0 := by
      rcases hr3 with ⟨_, hc, _⟩ | ⟨e, _, r⟩
      · exact absurd hc hcan
      · exact ⟨e, r⟩
    have HSU := Lib.hid (sung_is V7 (HB.out.laid.kept hk07) (HG.out.kept hk07))
    clear HREC HREC2 hr3
    go_wp2_with (go_at_call 6; refine HSU.out.mono ?_; rintro e w' ⟨rfl, hk8⟩)
    go_ret
    exact ⟨rfl, kept_trans hk07 hk8⟩
end Go.Proofs.YtbhgicggpkibeaaDoor
