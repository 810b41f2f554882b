/- A part of the proof: contracts of the program's functions for every input. No conditions. -/
import Derived.Test.YtgffhndedhbjlaaDoorVTa
set_option linter.all false
set_option linter.all false
namespace Go.Proofs.YtgffhndedhbjlaaDoor
open Go.RowKit Go.Sort Go.Rg
set_option maxRecDepth 100000

set_option maxHeartbeats 100000000 in
theorem tops_true0 (p q : Option Addr) (cap capt : Nat) (B : Book) (n0 n1 n2 : Int) (W : World) (h : BookAt W p q cap capt B) (hg : Nothing W) (hok : B.okB = true) (hsel : TopsSel B (turnI n0 (B.boys.length : Int)) (turnI n1 B.weeks) (turnI n2 41) 0) :
    Calls Tryd.prog 3 #[B.val p q cap capt, .agg #[.int .i64 n0, .int .i64 n1, .int .i64 n2]] W fun e C => e = .returned (.bool true) ∧ Kept W C := by
  obtain ⟨⟨q1, q2, q3, q4, q5⟩, -, -⟩ := okB_boys hok
  have hk0 : Kept W ((W.alloc (Obj.cells #[.slice p B.boys.length cap, .int .i64 B.weeks, .slice q B.trials.length capt] 25)).alloc (Obj.cells #[.int .i64 n0, .int .i64 n1, .int .i64 n2] 26)) := kept_alloc (kept_alloc (kept_refl _) _) _
  have hcall := small_any p q cap capt B _ (h.kept hk0)
  rw [hok] at hcall
  unfold Book.val at hcall ⊢
  have HC := Lib.hid hcall; clear hcall
  have a0c : ((W.alloc (Obj.cells #[.slice p B.boys.length cap, .int .i64 B.weeks, .slice q B.trials.length capt] 25)).alloc (Obj.cells #[.int .i64 n0, .int .i64 n1, .int .i64 n2] 26)).cell? ⟨W.heap.size, 0, none⟩ = some (.slice p B.boys.length cap) := by go_simp
  have a1c : ((W.alloc (Obj.cells #[.slice p B.boys.length cap, .int .i64 B.weeks, .slice q B.trials.length capt] 25)).alloc (Obj.cells #[.int .i64 n0, .int .i64 n1, .int .i64 n2] 26)).cell? ⟨W.heap.size, 1, none⟩ = some (.int .i64 B.weeks) := by go_simp
  have a2c : ((W.alloc (Obj.cells #[.slice p B.boys.length cap, .int .i64 B.weeks, .slice q B.trials.length capt] 25)).alloc (Obj.cells #[.int .i64 n0, .int .i64 n1, .int .i64 n2] 26)).cell? ⟨W.heap.size, 2, none⟩ = some (.slice q B.trials.length capt) := by go_simp
  have b0c : ((W.alloc (Obj.cells #[.slice p B.boys.length cap, .int .i64 B.weeks, .slice q B.trials.length capt] 25)).alloc (Obj.cells #[.int .i64 n0, .int .i64 n1, .int .i64 n2] 26)).cell? ⟨W.heap.size + 1, 0, none⟩ = some (.int .i64 n0) := by go_simp
  have b1c : ((W.alloc (Obj.cells #[.slice p B.boys.length cap, .int .i64 B.weeks, .slice q B.trials.length capt] 25)).alloc (Obj.cells #[.int .i64 n0, .int .i64 n1, .int .i64 n2] 26)).cell? ⟨W.heap.size + 1, 1, none⟩ = some (.int .i64 n1) := by go_simp
  have b2c : ((W.alloc (Obj.cells #[.slice p B.boys.length cap, .int .i64 B.weeks, .slice q B.trials.length capt] 25)).alloc (Obj.cells #[.int .i64 n0, .int .i64 n1, .int .i64 n2] 26)).cell? ⟨W.heap.size + 1, 2, none⟩ = some (.int .i64 n2) := by go_simp
  go_enter Tryd.func3, Tryd.ntmps3
  go_wp2_with fail
  generalize (W.alloc (Obj.cells #[.slice p B.boys.length cap, .int .i64 B.weeks, .slice q B.trials.length capt] 25)).alloc (Obj.cells #[.int .i64 n0, .int .i64 n1, .int .i64 n2] 26) = W0 at *
  refine HC.out.mono ?_
  rintro e w2 ⟨rfl, hk2⟩
  have hk02 := kept_trans hk0 hk2
  have a0d := kcell hk2 a0c
  have a1d := kcell hk2 a1c
  have a2d := kcell hk2 a2c
  have b0d := kcell hk2 b0c
  have b1d := kcell hk2 b1c
  have b2d := kcell hk2 b2c
  have a0r : ∀ d os, (grow (redrawn w2 d) os).cell? ⟨W.heap.size, 0, none⟩ = some (.slice p B.boys.length cap) := cell_regrown a0d
  have a1r : ∀ d os, (grow (redrawn w2 d) os).cell? ⟨W.heap.size, 1, none⟩ = some (.int .i64 B.weeks) := cell_regrown a1d
  have a2r : ∀ d os, (grow (redrawn w2 d) os).cell? ⟨W.heap.size, 2, none⟩ = some (.slice q B.trials.length capt) := cell_regrown a2d
  have b0r : ∀ d os, (grow (redrawn w2 d) os).cell? ⟨W.heap.size + 1, 0, none⟩ = some (.int .i64 n0) := cell_regrown b0d
  have b1r : ∀ d os, (grow (redrawn w2 d) os).cell? ⟨W.heap.size + 1, 1, none⟩ = some (.int .i64 n1) := cell_regrown b1d
  have b2r : ∀ d os, (grow (redrawn w2 d) os).cell? ⟨W.heap.size + 1, 2, none⟩ = some (.int .i64 n2) := cell_regrown b2d
  have ht0 : ∀ d os, Calls Tryd.prog 8 #[.int .i64 n0, .int .i64 (B.boys.length : Int)] (grow (redrawn w2 d) os) fun e w'' => e = .returned (.int .i64 (turnI n0 (B.boys.length : Int))) ∧ ∃ p : Regrown, w'' = grow (redrawn w2 p.d) p.os := fun d os => Calls.regrown_of ((turn_is n0 (B.boys.length : Int) (by omega) (by omega) _).mono (by rintro e w' ⟨rfl, rfl⟩; exact ⟨rfl, kept_refl _⟩))
  have ht1 : ∀ d os, Calls Tryd.prog 8 #[.int .i64 n1, .int .i64 B.weeks] (grow (redrawn w2 d) os) fun e w'' => e = .returned (.int .i64 (turnI n1 B.weeks)) ∧ ∃ p : Regrown, w'' = grow (redrawn w2 p.d) p.os := fun d os => Calls.regrown_of ((turn_is n1 B.weeks (by omega) (by omega) _).mono (by rintro e w' ⟨rfl, rfl⟩; exact ⟨rfl, kept_refl _⟩))
  have ht2 : ∀ d os, Calls Tryd.prog 8 #[.int .i64 n2, .int .i64 41] (grow (redrawn w2 d) os) fun e w'' => e = .returned (.int .i64 (turnI n2 41)) ∧ ∃ p : Regrown, w'' = grow (redrawn w2 p.d) p.os := fun d os => Calls.regrown_of ((turn_is n2 41 (by omega) (by omega) _).mono (by rintro e w' ⟨rfl, rfl⟩; exact ⟨rfl, kept_refl _⟩))
  obtain ⟨k3, k4⟩ := turnI_lt n0 (B.boys.length : Int) (by omega)
  obtain ⟨k1, k2⟩ := turnI_lt n1 B.weeks (by omega)
  obtain ⟨k5, k6⟩ := turnI_lt n2 41 (by omega)
  generalize turnI n1 B.weeks = week at *
  generalize turnI n2 41 = note at *
  obtain ⟨boy, hboy⟩ := Int.eq_ofNat_of_zero_le k3
  rw [hboy] at ht0 k4 hsel
  have HSEL := Lib.hid hsel; clear hsel
  have hbl : boy < B.boys.length := by omega
  have HT0 := Lib.hid ht0
  have HT1 := Lib.hid ht1
  have HT2 := Lib.hid ht2
  clear ht0 ht1 ht2 hboy k3 k4
  have HB := Lib.hid h
  have HG := Lib.hid hg
  clear h hg HC
  go_wp2_with fail
  refine wp_region_quiet_below (by kernel_rfl) (by kernel_rfl) ?_
  repeat (any_goals (first | go_big_quiet_skip | quiet_step (first | with_reducible exact HT0.out _ _ | with_reducible exact HT1.out _ _ | with_reducible exact HT2.out _ _)))
  refine wpQuiet_nil ?_
  intro _ hw'
  obtain ⟨⟨dq, osq⟩, hw''⟩ := hw'
  subst hw''
  have hk03 := kept_trans hk02 (below_regrown w2 dq osq)
  have s0 := kcell (below_regrown w2 dq osq) a0d
  have s1 := kcell (below_regrown w2 dq osq) a1d
  have s2 := kcell (below_regrown w2 dq osq) a2d
  generalize grow (redrawn w2 dq) osq = V3 at *
  clear a0d a1d a2d b0d b1d b2d a0r a1r a2r b0r b1r b2r a0c a1c a2c b0c b1c b2c HT0 HT1 HT2
  have hlow := lowest_any p q cap capt B boy V3 (HB.out.kept hk03) (HG.out.kept hk03) hok hbl
  unfold Book.val at hlow
  have HM := Lib.hid hlow; clear hlow
  go_wp2_with fail
  refine HM.out.mono ?_
  rintro e V4 ⟨lo0, lo1, err, rfl, hk4, hr⟩
  clear HM
  have hk04 := kept_trans hk03 hk4
  have HREC := Lib.hid hr; clear hr
  have kb4 : Kept V4 (V4.alloc (Obj.cells #[.int .i64 lo0, .int .i64 lo1] 31)) := kept_alloc (kept_refl _) _
  have l0 : (V4.alloc (Obj.cells #[.int .i64 lo0, .int .i64 lo1] 31)).cell? ⟨V4.heap.size, 0, none⟩ = some (.int .i64 lo0) := by go_simp
  have l1 : (V4.alloc (Obj.cells #[.int .i64 lo0, .int .i64 lo1] 31)).cell? ⟨V4.heap.size, 1, none⟩ = some (.int .i64 lo1) := by go_simp
  replace s0 := kcell (kept_trans hk4 kb4) s0
  replace s1 := kcell (kept_trans hk4 kb4) s1
  replace s2 := kcell (kept_trans hk4 kb4) s2
  have hk05 := kept_trans hk04 kb4
  have hbr := breaks_any p q cap capt B boy (V4.alloc (Obj.cells #[.int .i64 lo0, .int .i64 lo1] 31)) (HB.out.kept hk05) (HG.out.kept hk05) hok hbl
  unfold Book.val at hbr
  have HR := Lib.hid hbr; clear hbr
  go_wp2_with fail
  generalize hV5 : V4.alloc (Obj.cells #[.int .i64 lo0, .int .i64 lo1] 31) = V5 at *
  clear hV5
  refine HR.out.mono ?_
  rintro e V6 ⟨br0, br1, err2, rfl, hk6, hr2⟩
  clear HR
  have hk06 := kept_trans hk05 hk6
  have HREC2 := Lib.hid hr2; clear hr2
  have kb6 : Kept V6 (V6.alloc (Obj.cells #[.int .i64 br0, .int .i64 br1] 31)) := kept_alloc (kept_refl _) _
  have r0 : (V6.alloc (Obj.cells #[.int .i64 br0, .int .i64 br1] 31)).cell? ⟨V6.heap.size, 0, none⟩ = some (.int .i64 br0) := by go_simp
  have r1 : (V6.alloc (Obj.cells #[.int .i64 br0, .int .i64 br1] 31)).cell? ⟨V6.heap.size, 1, none⟩ = some (.int .i64 br1) := by go_simp
  have hk57 := kept_trans hk6 kb6
  replace s0 := kcell hk57 s0
  replace s1 := kcell hk57 s1
  replace s2 := kcell hk57 s2
  replace l0 := kcell hk57 l0
  replace l1 := kcell hk57 l1
  have hk07 := kept_trans hk06 kb6
  have hhi := highest_all p q cap capt B boy week (V6.alloc (Obj.cells #[.int .i64 br0, .int .i64 br1] 31)) (HB.out.kept hk07) (HG.out.kept hk07) hok hbl ⟨k1, k2⟩
  unfold Book.val at hhi
  have HH := Lib.hid hhi; clear hhi
  go_wp2_with fail
  generalize hV7 : V6.alloc (Obj.cells #[.int .i64 br0, .int .i64 br1] 31) = V7 at *
  clear hV7
  refine HH.out.mono ?_
  rintro e V8 ⟨tp0, tp1, err3, rfl, hk8, hr3⟩
  clear HH
  have hk08 := kept_trans hk07 hk8
  have HREC3 := Lib.hid hr3; clear hr3
  have kb8 : Kept V8 (V8.alloc (Obj.cells #[.int .i64 tp0, .int .i64 tp1] 31)) := kept_alloc (kept_refl _) _
  have t0 : (V8.alloc (Obj.cells #[.int .i64 tp0, .int .i64 tp1] 31)).cell? ⟨V8.heap.size, 0, none⟩ = some (.int .i64 tp0) := by go_simp
  have t1 : (V8.alloc (Obj.cells #[.int .i64 tp0, .int .i64 tp1] 31)).cell? ⟨V8.heap.size, 1, none⟩ = some (.int .i64 tp1) := by go_simp
  have hk79 := kept_trans hk8 kb8
  replace s0 := kcell hk79 s0
  replace s1 := kcell hk79 s1
  replace s2 := kcell hk79 s2
  replace l0 := kcell hk79 l0
  replace l1 := kcell hk79 l1
  replace r0 := kcell hk79 r0
  replace r1 := kcell hk79 r1
  have hk09 := kept_trans hk08 kb8
  have hsg := sings_all p q cap capt B boy week note (V8.alloc (Obj.cells #[.int .i64 tp0, .int .i64 tp1] 31)) (HB.out.kept hk09) (HG.out.kept hk09) hok hbl ⟨k1, k2⟩ ⟨k5, by omega⟩
  unfold Book.val at hsg
  have HS := Lib.hid hsg; clear hsg
  go_wp2_with fail
  generalize hV9 : V8.alloc (Obj.cells #[.int .i64 tp0, .int .i64 tp1] 31) = V9 at *
  clear hV9
  refine HS.out.mono ?_
  rintro e V10 ⟨kind, err4, rfl, hk10, hr4⟩
  clear HS
  have hk010 := kept_trans hk09 hk10
  replace s0 := kcell hk10 s0
  replace s1 := kcell hk10 s1
  replace s2 := kcell hk10 s2
  replace l0 := kcell hk10 l0
  replace l1 := kcell hk10 l1
  replace r0 := kcell hk10 r0
  replace r1 := kcell hk10 r1
  replace t0 := kcell hk10 t0
  replace t1 := kcell hk10 t1
  have HREC4 := Lib.hid hr4; clear hr4
  by_cases hcan : Can B
  · obtain ⟨x, hx⟩ : ∃ x, B.boys[boy]? = some x := ⟨_, List.getElem?_eq_getElem hbl⟩
    obtain ⟨rfl, a1, e1⟩ : err = 0 ∧ ∃ a, spanOf (fun n => (n.getD 0 0, true)) (B.truths boy x) = (lo0, lo1, a) := by
      rcases HREC.out with ⟨e, _, x', hx', g1, g2⟩ | ⟨_, hn, _⟩
      · rw [hx] at hx'; cases hx'
        exact ⟨e, _, by rw [g1, g2]⟩
      · exact absurd hcan hn
    obtain ⟨rfl, a2, e2⟩ : err2 = 0 ∧ ∃ a, spanOf (fun n => (n.getD 4 0, true)) (B.truths boy x) = (br0, br1, a) := by
      rcases HREC2.out with ⟨e, _, x', hx', g1, g2⟩ | ⟨_, hn, _⟩
      · rw [hx] at hx'; cases hx'
        exact ⟨e, _, by rw [g1, g2]⟩
      · exact absurd hcan hn
    obtain ⟨fd, e3, herr3⟩ : ∃ fd, spanOf (hiF B boy week) (B.truths boy x) = (tp0, tp1, fd) ∧ err3 = if fd then 0 else 4 := by
      rcases HREC3.out with ⟨_, x', fd, hx', g1, g2⟩ | ⟨_, hn, _⟩
      · rw [hx] at hx'; cases hx'
        exact ⟨fd, g1, g2⟩
      · exact absurd hcan hn
    obtain ⟨rfl, e4⟩ : err4 = 0 ∧ oftenOf (B.truths boy x) (singsN B week note note boy) = kind := by
      rcases HREC4.out with ⟨e, _, x', hx', g1⟩ | ⟨_, hn, _⟩
      · rw [hx] at hx'; cases hx'
        exact ⟨e, g1.symm⟩
      · exact absurd hcan hn
    have htT : tT B (boy : Int) week = (tp0, tp1, fd) := by unfold tT tB; rw [Int.toNat_natCast, hx]; exact e3
    have htL : tL B (boy : Int) = (lo0, lo1, a1) := by unfold tL tB; rw [Int.toNat_natCast, hx]; exact e1
    have hSE := HSEL.out
    unfold TopsSel at hSE
    simp only [htT, htL] at hSE
    have HSE := Lib.hid hSE
    clear htT htL hSE HSEL
    have HT := tops_at B boy x (hcan boy x hx) week note e1 e2 e3 e4
    clear HREC HREC2 HREC3 HREC4 e1 e2 e3 e4
    obtain ⟨bb, ob, rfl, hbs⟩ : ∃ b o, p = some ⟨b, o, none⟩ ∧ BoysAt V10 b o B.boys := by
      rcases (HB.out.kept hk010).boys with e | h
      · rw [e] at hbl; cases hbl
      · exact h
    obtain ⟨x0, x1, x2, x3, x4, x5, x6, x7, x8, x9, x10⟩ := hbs.2 boy x hx
    have hzb := hbs.1
    clear hbs
    have hlI : (boy : Int) < B.boys.length := by omega
    have zl := Go.Ai.lt_of_cell l0
    have zr := Go.Ai.lt_of_cell r0
    have zt := Go.Ai.lt_of_cell t0
    have zs := Go.Ai.lt_of_cell s0
    have kb10 : Kept V10 (V10.alloc (Obj.cells #[.int .i64 x.l0, .int .i64 x.l1, .int .i64 x.h0, .int .i64 x.h1, .int .i64 x.g0, .int .i64 x.g1, .int .i64 x.t0, .int .i64 x.t1, .int .i64 x.ls, .int .i64 x.b0, .int .i64 x.b1] 40)) := kept_alloc (kept_refl _) _
    have y0 : (V10.alloc (Obj.cells #[.int .i64 x.l0, .int .i64 x.l1, .int .i64 x.h0, .int .i64 x.h1, .int .i64 x.g0, .int .i64 x.g1, .int .i64 x.t0, .int .i64 x.t1, .int .i64 x.ls, .int .i64 x.b0, .int .i64 x.b1] 40)).cell? ⟨V10.heap.size, 0, none⟩ = some (.int .i64 x.l0) := by go_simp
    have y1 : (V10.alloc (Obj.cells #[.int .i64 x.l0, .int .i64 x.l1, .int .i64 x.h0, .int .i64 x.h1, .int .i64 x.g0, .int .i64 x.g1, .int .i64 x.t0, .int .i64 x.t1, .int .i64 x.ls, .int .i64 x.b0, .int .i64 x.b1] 40)).cell? ⟨V10.heap.size, 1, none⟩ = some (.int .i64 x.l1) := by go_simp
    have y9 : (V10.alloc (Obj.cells #[.int .i64 x.l0, .int .i64 x.l1, .int .i64 x.h0, .int .i64 x.h1, .int .i64 x.g0, .int .i64 x.g1, .int .i64 x.t0, .int .i64 x.t1, .int .i64 x.ls, .int .i64 x.b0, .int .i64 x.b1] 40)).cell? ⟨V10.heap.size, 9, none⟩ = some (.int .i64 x.b0) := by go_simp
    have y10 : (V10.alloc (Obj.cells #[.int .i64 x.l0, .int .i64 x.l1, .int .i64 x.h0, .int .i64 x.h1, .int .i64 x.g0, .int .i64 x.g1, .int .i64 x.t0, .int .i64 x.t1, .int .i64 x.ls, .int .i64 x.b0, .int .i64 x.b1] 40)).cell? ⟨V10.heap.size, 10, none⟩ = some (.int .i64 x.b1) := by go_simp
    have hk011 := kept_trans hk010 kb10
    have u1 := fun w => under_true lo0 lo1 x.l0 x.l1 w HT.a1 HT.a3
    have u2 := fun w => under_true br0 br1 x.b0 x.b1 w HT.b1 HT.b3
    have hli : inB kind 0 2 = true := by simp [inB]; exact ⟨HT.k1, HT.k2⟩
    have g1 : ¬ lo1 < lo0 := by have := HT.a2; omega
    have g2 : ¬ br1 < br0 := by have := HT.b2; omega
    have HU := Lib.hid (And.intro u1 u2)
    clear u1 u2
    have HTT := Lib.hid HT; clear HT
    cases fd with
    | false =>
      obtain rfl : err3 = 4 := herr3
      obtain ⟨rfl, rfl, rfl⟩ := HTT.out.t2 rfl
      have g3 : br1 ≤ week := HTT.out.t1.1 rfl
      go_wp2_with fail
      generalize hV11 : (V10.alloc (Obj.cells #[.int .i64 x.l0, .int .i64 x.l1, .int .i64 x.h0, .int .i64 x.h1, .int .i64 x.g0, .int .i64 x.g1, .int .i64 x.t0, .int .i64 x.t1, .int .i64 x.ls, .int .i64 x.b0, .int .i64 x.b1] 40)) = V11 at *
      clear hV11
      replace s0 := kcell kb10 s0
      replace s1 := kcell kb10 s1
      replace s2 := kcell kb10 s2
      replace l0 := kcell kb10 l0
      replace l1 := kcell kb10 l1
      replace r0 := kcell kb10 r0
      replace r1 := kcell kb10 r1
      replace t0 := kcell kb10 t0
      replace t1 := kcell kb10 t1
      clear x0 x1 x2 x3 x4 x5 x6 x7 x8 x9 x10
      refine (HU.out.1 _).mono ?_
      rintro e V12 ⟨rfl, hk12⟩
      replace s0 := kcell hk12 s0
      replace s1 := kcell hk12 s1
      replace s2 := kcell hk12 s2
      replace l0 := kcell hk12 l0
      replace l1 := kcell hk12 l1
      replace r0 := kcell hk12 r0
      replace r1 := kcell hk12 r1
      replace t0 := kcell hk12 t0
      replace t1 := kcell hk12 t1
      replace y0 := kcell hk12 y0
      replace y1 := kcell hk12 y1
      replace y9 := kcell hk12 y9
      replace y10 := kcell hk12 y10
      go_wp2_with fail
      refine (HU.out.2 _).mono ?_
      rintro e V13 ⟨rfl, hk13⟩
      replace s0 := kcell hk13 s0
      replace s1 := kcell hk13 s1
      replace s2 := kcell hk13 s2
      replace l0 := kcell hk13 l0
      replace l1 := kcell hk13 l1
      replace r0 := kcell hk13 r0
      replace r1 := kcell hk13 r1
      replace t0 := kcell hk13 t0
      replace t1 := kcell hk13 t1
      replace y0 := kcell hk13 y0
      replace y1 := kcell hk13 y1
      replace y9 := kcell hk13 y9
      replace y10 := kcell hk13 y10
      go_wp2_with fail
      refine (lies_any _ 0 2 _).mono ?_
      intro e V14 hh
      obtain ⟨h1, h2⟩ := hh
      subst h2
      rw [hli] at h1
      subst h1
      have hk014 := kept_trans (kept_trans hk011 hk12) hk13
      go_wp2_with fail
      have z0 : ∀ d os, (grow (redrawn V13 d) os).cell? ⟨V8.heap.size, 0, none⟩ = some (.int .i64 0) := cell_regrown t0
      have z1 : ∀ d os, (grow (redrawn V13 d) os).cell? ⟨V8.heap.size, 1, none⟩ = some (.int .i64 0) := cell_regrown t1
      have ho : ∀ d os, Calls Tryd.prog 13 #[.int .i64 0] (grow (redrawn V13 d) os) fun e w'' => e = .returned (.agg #[.int .i64 0, .int .i64 0]) ∧ ∃ p : Regrown, w'' = grow (redrawn V13 p.d) p.os := fun d os => Calls.regrown_of (only_is 0 _)
      have hs : ∀ d os, Calls Tryd.prog 7 #[] (grow (redrawn V13 d) os) fun e w'' => e = .returned (.bool true) ∧ ∃ p : Regrown, w'' = grow (redrawn V13 p.d) p.os := fun d os => Calls.regrown_of (sung_is _ ((HB.out.kept hk014).laid.kept (below_regrown V13 d os)) ((HG.out.kept hk014).kept (below_regrown V13 d os)))
      have HO := Lib.hid ho
      have HSG := Lib.hid hs
      clear ho hs s0 s1 s2 l0 l1 r0 r1 t0 t1 y0 y1 y9 y10
      refine wp_region_quiet_below (by kernel_rfl) (by kernel_rfl) ?_
      repeat (any_goals (first | go_big_quiet_skip | quiet_step (first | with_reducible exact HO.out _ _ | with_reducible exact HSG.out _ _)))
      refine wpQuiet_nil ?_
      intro _ hw'
      obtain ⟨⟨dq, osq⟩, hw''⟩ := hw'
      subst hw''
      have hk015 := kept_trans hk014 (below_regrown V13 dq osq)
      go_wp2_with fail
      go_ret
      exact ⟨rfl, hk015⟩
    | true =>
      exfalso
      rcases HSE.out with h | h
      · exact h hcan
      · cases h
  · obtain ⟨rfl, rfl, rfl⟩ : err = 22 ∧ lo0 = 0 ∧ lo1 = 0 := by
      rcases HREC.out with ⟨_, c, _⟩ | ⟨e, _, e1, e2⟩
      · exact absurd c hcan
      · exact ⟨e, e1, e2⟩
    obtain ⟨rfl, rfl, rfl⟩ : err2 = 22 ∧ br0 = 0 ∧ br1 = 0 := by
      rcases HREC2.out with ⟨_, c, _⟩ | ⟨e, _, e1, e2⟩
      · exact absurd c hcan
      · exact ⟨e, e1, e2⟩
    obtain ⟨rfl, rfl, rfl⟩ : err3 = 22 ∧ tp0 = 0 ∧ tp1 = 0 := by
      rcases HREC3.out with ⟨c, _⟩ | ⟨e, _, e1, e2⟩
      · exact absurd c hcan
      · exact ⟨e, e1, e2⟩
    obtain ⟨rfl, rfl⟩ : err4 = 22 ∧ kind = 0 := by
      rcases HREC4.out with ⟨_, c, _⟩ | ⟨e, _, e1⟩
      · exact absurd c hcan
      · exact ⟨e, e1⟩
    clear HREC HREC2 HREC3 HREC4
    go_wp2_with fail
    have z0 : ∀ d os, (grow (redrawn V10 d) os).cell? ⟨V4.heap.size, 0, none⟩ = some (.int .i64 0) := cell_regrown l0
    have z1 : ∀ d os, (grow (redrawn V10 d) os).cell? ⟨V4.heap.size, 1, none⟩ = some (.int .i64 0) := cell_regrown l1
    have z2 : ∀ d os, (grow (redrawn V10 d) os).cell? ⟨V6.heap.size, 0, none⟩ = some (.int .i64 0) := cell_regrown r0
    have z3 : ∀ d os, (grow (redrawn V10 d) os).cell? ⟨V6.heap.size, 1, none⟩ = some (.int .i64 0) := cell_regrown r1
    have ho : ∀ d os, Calls Tryd.prog 13 #[.int .i64 0] (grow (redrawn V10 d) os) fun e w'' => e = .returned (.agg #[.int .i64 0, .int .i64 0]) ∧ ∃ p : Regrown, w'' = grow (redrawn V10 p.d) p.os := fun d os => Calls.regrown_of (only_is 0 _)
    have hs : ∀ d os, Calls Tryd.prog 7 #[] (grow (redrawn V10 d) os) fun e w'' => e = .returned (.bool true) ∧ ∃ p : Regrown, w'' = grow (redrawn V10 p.d) p.os := fun d os => Calls.regrown_of (sung_is _ ((HB.out.kept hk010).laid.kept (below_regrown V10 d os)) ((HG.out.kept hk010).kept (below_regrown V10 d os)))
    have HO := Lib.hid ho
    have HSG := Lib.hid hs
    clear ho hs s0 s1 s2 l0 l1 r0 r1 t0 t1
    refine wp_region_quiet_below (by kernel_rfl) (by kernel_rfl) ?_
    repeat (any_goals (first | go_big_quiet_skip | quiet_step (first | with_reducible exact HO.out _ _ | with_reducible exact HSG.out _ _)))
    refine wpQuiet_nil ?_
    intro _ hw'
    obtain ⟨⟨dq, osq⟩, hw''⟩ := hw'
    subst hw''
    have hk011 := kept_trans hk010 (below_regrown V10 dq osq)
    go_wp2_with fail
    go_ret
    exact ⟨rfl, hk011⟩
end Go.Proofs.YtgffhndedhbjlaaDoor
