/- A part of the proof: contracts of the program's functions for every input. No conditions. -/
import Derived.Test.YtgffhndedhbjlaaDoorVI
import Derived.Test.YtgffhndedhbjlaaDoorVF
set_option linter.all false
set_option linter.all false
namespace Go.Proofs.YtgffhndedhbjlaaDoor
open Go.RowKit Go.Sort Go.Rg
set_option maxRecDepth 100000

theorem pow_is : ∀ b : Nat, b < 4 → IntKind.i64.wrap ((2 : Int) ^ b) = ((2 ^ b : Nat) : Int) := by decide +kernel
theorem full_is : ∀ n : Nat, n ≤ 4 → wrap64 (wrap64 ((2 : Int) ^ n) - 1) = ((gath (List.range n) : Nat) : Int) := by decide +kernel

set_option maxHeartbeats 4000000 in
theorem heir_false (p q : Option Addr) (cap capt : Nat) (B : Book) (n0 n1 n2 n3 : Int) (W : World) (h : BookAt W p q cap capt B) (hg : Nothing W) (hok : B.okB = false) :
    Calls Tryd.prog 4 #[B.val p q cap capt, .agg #[.int .i64 n0, .int .i64 n1, .int .i64 n2, .int .i64 n3]] W fun e C => e = .returned (.bool true) ∧ Kept W C := by
  have hk0 : Kept W ((W.alloc (Obj.cells #[.slice p B.boys.length cap, .int .i64 B.weeks, .slice q B.trials.length capt] 25)).alloc (Obj.cells #[.int .i64 n0, .int .i64 n1, .int .i64 n2, .int .i64 n3] 44)) := kept_alloc (kept_alloc (kept_refl _) _) _
  have hcall := small_any p q cap capt B _ (h.kept hk0)
  rw [hok] at hcall
  unfold Book.val at hcall ⊢
  have HC := Lib.hid hcall; clear hcall
  go_enter Tryd.func4, Tryd.ntmps4
  go_wp2_with fail
  generalize (W.alloc (Obj.cells #[.slice p B.boys.length cap, .int .i64 B.weeks, .slice q B.trials.length capt] 25)).alloc (Obj.cells #[.int .i64 n0, .int .i64 n1, .int .i64 n2, .int .i64 n3] 44) = W0 at *
  refine HC.out.mono ?_
  rintro e w2 ⟨rfl, hk2⟩
  have hk02 := kept_trans hk0 hk2
  have HS := Lib.hid (sung_is w2 (h.laid.kept hk02) (hg.kept hk02))
  go_wp2_with fail
  refine HS.out.mono ?_
  rintro e w3 ⟨rfl, hk3⟩
  go_wp2_with fail
  go_ret
  exact ⟨rfl, kept_trans hk02 hk3⟩

set_option maxHeartbeats 100000000 in
theorem heir_true (p q : Option Addr) (cap capt : Nat) (B : Book) (n0 n1 n2 n3 : Int) (W : World) (h : BookAt W p q cap capt B) (hg : Nothing W) (hok : B.okB = true) :
    Calls Tryd.prog 4 #[B.val p q cap capt, .agg #[.int .i64 n0, .int .i64 n1, .int .i64 n2, .int .i64 n3]] W fun e C => e = .returned (.bool true) ∧ Kept W C := by
  obtain ⟨⟨q1, q2, q3, q4, q5⟩, -, -⟩ := okB_boys hok
  have hk0 : Kept W ((W.alloc (Obj.cells #[.slice p B.boys.length cap, .int .i64 B.weeks, .slice q B.trials.length capt] 25)).alloc (Obj.cells #[.int .i64 n0, .int .i64 n1, .int .i64 n2, .int .i64 n3] 44)) := kept_alloc (kept_alloc (kept_refl _) _) _
  have hcall := small_any p q cap capt B _ (h.kept hk0)
  rw [hok] at hcall
  unfold Book.val at hcall ⊢
  have HC := Lib.hid hcall; clear hcall
  have a0c : ((W.alloc (Obj.cells #[.slice p B.boys.length cap, .int .i64 B.weeks, .slice q B.trials.length capt] 25)).alloc (Obj.cells #[.int .i64 n0, .int .i64 n1, .int .i64 n2, .int .i64 n3] 44)).cell? ⟨W.heap.size, 0, none⟩ = some (.slice p B.boys.length cap) := by go_simp
  have a1c : ((W.alloc (Obj.cells #[.slice p B.boys.length cap, .int .i64 B.weeks, .slice q B.trials.length capt] 25)).alloc (Obj.cells #[.int .i64 n0, .int .i64 n1, .int .i64 n2, .int .i64 n3] 44)).cell? ⟨W.heap.size, 1, none⟩ = some (.int .i64 B.weeks) := by go_simp
  have a2c : ((W.alloc (Obj.cells #[.slice p B.boys.length cap, .int .i64 B.weeks, .slice q B.trials.length capt] 25)).alloc (Obj.cells #[.int .i64 n0, .int .i64 n1, .int .i64 n2, .int .i64 n3] 44)).cell? ⟨W.heap.size, 2, none⟩ = some (.slice q B.trials.length capt) := by go_simp
  have b0c : ((W.alloc (Obj.cells #[.slice p B.boys.length cap, .int .i64 B.weeks, .slice q B.trials.length capt] 25)).alloc (Obj.cells #[.int .i64 n0, .int .i64 n1, .int .i64 n2, .int .i64 n3] 44)).cell? ⟨W.heap.size + 1, 0, none⟩ = some (.int .i64 n0) := by go_simp
  have b1c : ((W.alloc (Obj.cells #[.slice p B.boys.length cap, .int .i64 B.weeks, .slice q B.trials.length capt] 25)).alloc (Obj.cells #[.int .i64 n0, .int .i64 n1, .int .i64 n2, .int .i64 n3] 44)).cell? ⟨W.heap.size + 1, 1, none⟩ = some (.int .i64 n1) := by go_simp
  have b2c : ((W.alloc (Obj.cells #[.slice p B.boys.length cap, .int .i64 B.weeks, .slice q B.trials.length capt] 25)).alloc (Obj.cells #[.int .i64 n0, .int .i64 n1, .int .i64 n2, .int .i64 n3] 44)).cell? ⟨W.heap.size + 1, 2, none⟩ = some (.int .i64 n2) := by go_simp
  have b3c : ((W.alloc (Obj.cells #[.slice p B.boys.length cap, .int .i64 B.weeks, .slice q B.trials.length capt] 25)).alloc (Obj.cells #[.int .i64 n0, .int .i64 n1, .int .i64 n2, .int .i64 n3] 44)).cell? ⟨W.heap.size + 1, 3, none⟩ = some (.int .i64 n3) := by go_simp
  go_enter Tryd.func4, Tryd.ntmps4
  go_wp2_with fail
  generalize (W.alloc (Obj.cells #[.slice p B.boys.length cap, .int .i64 B.weeks, .slice q B.trials.length capt] 25)).alloc (Obj.cells #[.int .i64 n0, .int .i64 n1, .int .i64 n2, .int .i64 n3] 44) = W0 at *
  refine HC.out.mono ?_
  rintro e w2 ⟨rfl, hk2⟩
  have hk02 := kept_trans hk0 hk2
  have a0d := kcell hk2 a0c
  have a1d := kcell hk2 a1c
  have a2d := kcell hk2 a2c
  have b0d := kcell hk2 b0c
  have b1d := kcell hk2 b1c
  have b2d := kcell hk2 b2c
  have b3d := kcell hk2 b3c
  have a0r : ∀ d os, (grow (redrawn w2 d) os).cell? ⟨W.heap.size, 0, none⟩ = some (.slice p B.boys.length cap) := cell_regrown a0d
  have a1r : ∀ d os, (grow (redrawn w2 d) os).cell? ⟨W.heap.size, 1, none⟩ = some (.int .i64 B.weeks) := cell_regrown a1d
  have a2r : ∀ d os, (grow (redrawn w2 d) os).cell? ⟨W.heap.size, 2, none⟩ = some (.slice q B.trials.length capt) := cell_regrown a2d
  have b0r : ∀ d os, (grow (redrawn w2 d) os).cell? ⟨W.heap.size + 1, 0, none⟩ = some (.int .i64 n0) := cell_regrown b0d
  have b1r : ∀ d os, (grow (redrawn w2 d) os).cell? ⟨W.heap.size + 1, 1, none⟩ = some (.int .i64 n1) := cell_regrown b1d
  have b2r : ∀ d os, (grow (redrawn w2 d) os).cell? ⟨W.heap.size + 1, 2, none⟩ = some (.int .i64 n2) := cell_regrown b2d
  have b3r : ∀ d os, (grow (redrawn w2 d) os).cell? ⟨W.heap.size + 1, 3, none⟩ = some (.int .i64 n3) := cell_regrown b3d
  have ht0 : ∀ d os, Calls Tryd.prog 8 #[.int .i64 n0, .int .i64 (B.boys.length : Int)] (grow (redrawn w2 d) os) fun e w'' => e = .returned (.int .i64 (turnI n0 (B.boys.length : Int))) ∧ ∃ p : Regrown, w'' = grow (redrawn w2 p.d) p.os := fun d os => Calls.regrown_of ((turn_is n0 (B.boys.length : Int) (by omega) (by omega) _).mono (by rintro e w' ⟨rfl, rfl⟩; exact ⟨rfl, kept_refl _⟩))
  have ht1 : ∀ d os, Calls Tryd.prog 8 #[.int .i64 n1, .int .i64 B.weeks] (grow (redrawn w2 d) os) fun e w'' => e = .returned (.int .i64 (turnI n1 B.weeks)) ∧ ∃ p : Regrown, w'' = grow (redrawn w2 p.d) p.os := fun d os => Calls.regrown_of ((turn_is n1 B.weeks (by omega) (by omega) _).mono (by rintro e w' ⟨rfl, rfl⟩; exact ⟨rfl, kept_refl _⟩))
  have ht2 : ∀ d os, Calls Tryd.prog 8 #[.int .i64 n2, .int .i64 41] (grow (redrawn w2 d) os) fun e w'' => e = .returned (.int .i64 (turnI n2 41)) ∧ ∃ p : Regrown, w'' = grow (redrawn w2 p.d) p.os := fun d os => Calls.regrown_of ((turn_is n2 41 (by omega) (by omega) _).mono (by rintro e w' ⟨rfl, rfl⟩; exact ⟨rfl, kept_refl _⟩))
  obtain ⟨k3, k4⟩ := turnI_lt n0 (B.boys.length : Int) (by omega)
  obtain ⟨k1, k2⟩ := turnI_lt n1 B.weeks (by omega)
  obtain ⟨k5, k6⟩ := turnI_lt n2 41 (by omega)
  generalize turnI n1 B.weeks = week at *
  generalize turnI n2 41 = note at *
  obtain ⟨boy, hboy⟩ := Int.eq_ofNat_of_zero_le k3
  rw [hboy] at ht0 k4
  have hbl : boy < B.boys.length := by omega
  have HT0 := Lib.hid ht0
  have HT1 := Lib.hid ht1
  have HT2 := Lib.hid ht2
  clear ht0 ht1 ht2 hboy k3 k4
  have HB := Lib.hid h
  have HG := Lib.hid hg
  clear h hg HC
  go_wp2_with fail
  refine wp_region_quiet_below (by kernel_rfl) (by kernel_rfl) ?_
  repeat (any_goals (first | go_big_quiet_skip | quiet_step (first | with_reducible exact HT0.out _ _ | with_reducible exact HT1.out _ _ | with_reducible exact HT2.out _ _)))
  refine wpQuiet_nil ?_
  intro _ hw'
  obtain ⟨⟨dq, osq⟩, hw''⟩ := hw'
  subst hw''
  have hk03 := kept_trans hk02 (below_regrown w2 dq osq)
  have s0 := kcell (below_regrown w2 dq osq) a0d
  have s1 := kcell (below_regrown w2 dq osq) a1d
  have s2 := kcell (below_regrown w2 dq osq) a2d
  have s3 := kcell (below_regrown w2 dq osq) b3d
  generalize grow (redrawn w2 dq) osq = V3 at *
  clear a0d a1d a2d b0d b1d b2d b3d a0r a1r a2r b0r b1r b2r b3r a0c a1c a2c b0c b1c b2c b3c HT0 HT1 HT2
  have hzs := Go.Ai.lt_of_cell s0
  have hz3 := Go.Ai.lt_of_cell s3
  go_wp2_with fail
  refine (turn_is n3 8 (by omega) (by omega) _).mono ?_
  intro e V4 hh
  obtain ⟨h1, h2⟩ := hh
  subst h2
  subst h1
  obtain ⟨j1, j2⟩ := turnI_lt n3 8 (by omega)
  generalize turnI n3 8 = t at *
  have hwr : IntKind.i64.wrap (note + t) = note + t := IntWalk.i64_in _ (by omega)
  by_cases hc : note + t < 40
  · have m1 : note ≤ note + t := by omega
    have m2 : note + t ≤ 40 := by omega
    have m3 : note + t ≤ note + 7 := by omega
    go_wp2_with fail
    generalize note + t = hi at *
    refine (bounds_is note hi _).mono ?_
    rintro e V4 ⟨rfl, hk4⟩
    have hk04 := kept_trans hk03 hk4
    have kb4 : Kept V4 (V4.alloc (Obj.cells #[.int .i64 note, .int .i64 hi] 31)) := kept_alloc (kept_refl _) _
    have p0 : (V4.alloc (Obj.cells #[.int .i64 note, .int .i64 hi] 31)).cell? ⟨V4.heap.size, 0, none⟩ = some (.int .i64 note) := by go_simp
    have p1 : (V4.alloc (Obj.cells #[.int .i64 note, .int .i64 hi] 31)).cell? ⟨V4.heap.size, 1, none⟩ = some (.int .i64 hi) := by go_simp
    replace s0 := kcell (kept_trans hk4 kb4) s0
    replace s1 := kcell (kept_trans hk4 kb4) s1
    replace s2 := kcell (kept_trans hk4 kb4) s2
    have hz4 := Go.Ai.lt_of_cell (kcell hk4 s3)
    have hk05 := kept_trans hk04 kb4
    have hhe := heir_all p q cap capt B boy week note hi (V4.alloc (Obj.cells #[.int .i64 note, .int .i64 hi] 31)) (HB.out.kept hk05) (HG.out.kept hk05) hok hbl ⟨k1, k2⟩ ⟨k5, m1, m2⟩
    unfold Book.val at hhe
    have HH := Lib.hid hhe; clear hhe
    have hz0 := Go.Ai.lt_of_cell s0
    simp only [World.size_alloc] at hz0
    go_wp2_with fail
    generalize hV5 : V4.alloc (Obj.cells #[.int .i64 note, .int .i64 hi] 31) = V5 at *
    clear hV5
    refine HH.out.mono ?_
    rintro e V6 ⟨hv, err, rfl, hk6, hr⟩
    clear HH
    have hk06 := kept_trans hk05 hk6
    replace s0 := kcell hk6 s0
    replace s1 := kcell hk6 s1
    replace s2 := kcell hk6 s2
    replace p0 := kcell hk6 p0
    replace p1 := kcell hk6 p1
    have HREC := Lib.hid hr; clear hr
    go_wp2_with fail
    have hfull : wrap64 (wrap64 ((2 : Int) ^ B.boys.length) - 1) = ((gath (ableL B week note 0) : Nat) : Int) := by rw [able_zero]; exact full_is _ q2
    rw [hfull] at *
    have HA16 := Lib.hid (fun j => gath_lt (l := ableL B week note j) (able_lt q2))
    clear hfull
    have hzp := Go.Ai.lt_of_cell p0
    have hzs0 := Go.Ai.lt_of_cell s0
    go_loopw [11, 12] (fun s k V => ∃ j : Nat, note + j ≤ hi + 1 ∧ k = .int .i64 (note + j) ∧ s = .int .i64 ((gath (ableL B week note j) : Nat) : Int) ∧ Kept V6 V ∧ (1 ≤ j → Can B)) (fun s k V => (hi + 1 - intOf k).toNat)
    case atStart => exact ⟨0, by omega, by simp, rfl, kept_refl _, fun h => by omega⟩
    case round =>
      obtain ⟨j, hj, rfl, rfl, hV, hcj⟩ := hrel
      have HCJ := Lib.hid hcj; clear hcj
      have x0 := kcell hV s0
      have x1 := kcell hV s1
      have x2 := kcell hV s2
      have y0 := kcell hV p0
      have y1 := kcell hV p1
      have hk0V := kept_trans hk06 hV
      have hzx := Go.Ai.lt_of_cell x0
      have hzy := Go.Ai.lt_of_cell y0
      by_cases hlt : note + j ≤ hi
      · have hsu := surely_all p q cap capt B week (note + j) wr (HB.out.kept hk0V) (HG.out.kept hk0V) hok ⟨k1, k2⟩ ⟨by omega, by omega⟩
        unfold Book.val at hsu
        have HS := Lib.hid hsu; clear hsu
        go_wp2_with fail
        refine HS.out.mono ?_
        rintro e V7 ⟨sv, err3, rfl, hk7, hr3⟩
        clear HS
        have hk07 := kept_trans hk0V hk7
        replace x0 := kcell hk7 x0
        replace x1 := kcell hk7 x1
        replace x2 := kcell hk7 x2
        by_cases hcan : Can B
        · obtain ⟨rfl, hrow⟩ : err3 = 0 ∧ V7.ownsRow wr.heap.size 3 1 sv (surelyL B (singsN B week (note + j) (note + j)) B.boys.length).length (intsV (surelyL B (singsN B week (note + j) (note + j)) B.boys.length)) := by
            rcases hr3 with ⟨e, _, r⟩ | ⟨_, hn, _⟩
            · exact ⟨e, r⟩
            · exact absurd hcan hn
          have hL := ListAt.of_row hrow
          have hLl := surelyL_len B (singsN B week (note + j) (note + j)) B.boys.length
          have hLx : ∀ b ∈ surelyL B (singsN B week (note + j) (note + j)) B.boys.length, b < B.boys.length := fun b hb => surelyL_lt hb
          have hLi := surelyL_incr (B := B) (sb := singsN B week (note + j) (note + j)) (n := B.boys.length)
          have hstep := able_step B week note j
          have h16 := gath_lt (l := surelyL B (singsN B week (note + j) (note + j)) B.boys.length) (fun b hb => by have := surelyL_lt hb; omega)
          have hand := and_val _ (HA16.out j) _ h16
          rw [hstep] at hand
          have HAND := Lib.hid hand
          clear hstep hrow hr3 hand
          have hor := ordered_any sv _ B.boys.length V7 hL (by omega) hLx q2 hLi
          have HO := Lib.hid hor; clear hor
          have hga := fun V (k : Kept V7 V) => gather_any sv _ V (hL.kept k) (by omega) (fun b hb => by have := hLx b hb; omega)
          have HGA := Lib.hid hga; clear hga
          clear hL hLl hLx hLi h16
          generalize hgs : gath (surelyL B (singsN B week (note + j) (note + j)) B.boys.length) = gs at *
          generalize hga : gath (ableL B week note j) = ga at *
          go_wp2_with fail
          refine HO.out.mono ?_
          rintro e V8 ⟨rfl, hk8⟩
          clear HO
          go_wp2_with fail
          refine (HGA.out _ hk8).mono ?_
          rintro e V9 ⟨rfl, hk9⟩
          clear HGA
          have hwk : IntKind.i64.wrap (note + j + 1) = note + j + 1 := IntWalk.i64_in _ (by omega)
          have hand := HAND.out
          go_wp2_with fail
          go_roundw
          case rel => exact ⟨j + 1, by omega, by simp [Int.add_assoc], by simp, kept_trans (kept_trans (kept_trans hV hk7) hk8) hk9, fun _ => hcan⟩
          case measure => simp [intOf]; omega
        · obtain ⟨rfl, hvn⟩ : err3 = 22 ∧ True := by
            rcases hr3 with ⟨_, c, _⟩ | ⟨e, _, _⟩
            · exact absurd c hcan
            · exact ⟨e, trivial⟩
          obtain ⟨rfl, rfl⟩ : err = 22 ∧ hv = 0 := by
            rcases HREC.out with ⟨c, _⟩ | ⟨e, _, e1⟩
            · exact absurd c hcan
            · exact ⟨e, e1⟩
          have HSU := Lib.hid (sung_is V7 (HB.out.laid.kept hk07) (HG.out.kept hk07))
          go_wp2_with fail
          refine HSU.out.mono ?_
          rintro e w' ⟨rfl, hk9⟩
          go_wp2_with fail
          go_ret
          exact ⟨rfl, kept_trans hk07 hk9⟩
      · have hje : note + j = hi + 1 := by omega
        have hcan := HCJ.out (by omega)
        have hall : ableL B week note j = surelyL B (singsN B week note hi) B.boys.length := able_all (by omega) (by omega)
        go_wp2_with fail
        rw [hall] at *
        have h16 := gath_lt (l := surelyL B (singsN B week note hi) B.boys.length) (fun b hb => by have := surelyL_lt hb; omega)
        obtain ⟨t', ht16, hte, htb⟩ := andNot_test _ h16 boy (by omega)
        have hpw : IntKind.i64.wrap ((2 : Int) ^ boy) = ((2 ^ boy : Nat) : Int) := pow_is boy (by omega)
        have hown : (bitsL t' B.boys.length).head? = heirOf (surelyL B (singsN B week note hi) B.boys.length) boy := by
          refine heir_bits ⟨_, rfl⟩ fun i hi => ?_
          rw [htb i (by omega), gath_testBit]
        have hbl4 := bitsL_len t' B.boys.length
        generalize gath (surelyL B (singsN B week note hi) B.boys.length) = ga at *
        have HOWN := Lib.hid hown
        have HTE := Lib.hid hte
        have HPW := Lib.hid hpw
        clear hown hte hpw htb h16 hall
        have hzwr := hV.size
        refine (wpIn_wide (n := 0)).1 (wpIn_region_invL (StC 7 (fun j => match j with | 0 => .int .i64 (ga : Int) | 1 => .int .i64 (boy : Int) | 2 => .int .i64 (IntKind.i64.wrap (2 ^ boy)) | 3 => .int .i64 (t' : Int) | 4 => .pointer (some ⟨W.heap.size, 0, none⟩) | 5 => .slice p B.boys.length cap | 6 => .int .i64 (B.boys.length : Int) | _ => undef) (fun v w => ListAt w v (bitsL t' B.boys.length)) wr) (by kernel_rfl) (by kernel_rfl) StC.start ?hop ?hend)
        case hop =>
          rintro i o listed a w hl ho h1 h2 hcl ⟨v, ha, hw, hR⟩
          have hi11 : i < 9 := (List.getElem?_eq_some_iff.1 ho).1
          match i, ho with
          | 0, ho =>
            have st := StC.pure (c := 7) (vs := (fun j => match j with | 0 => .int .i64 (ga : Int) | 1 => .int .i64 (boy : Int) | 2 => .int .i64 (IntKind.i64.wrap (2 ^ boy)) | 3 => .int .i64 (t' : Int) | 4 => .pointer (some ⟨W.heap.size, 0, none⟩) | 5 => .slice p B.boys.length cap | 6 => .int .i64 (B.boys.length : Int) | _ => undef)) (R := (fun v w => ListAt w v (bitsL t' B.boys.length))) (by kernel_rfl) ha hw hR ho h1 (by omega)
            have ST := Lib.hid st; clear st
            cases ho
            rw [if_pos (by rfl)]
            have t11 := ha.old 11 (by kernel_rfl)
            simp at t11
            go_simp
            exact ST.out
          | 1, ho =>
            have st := StC.pure (c := 7) (vs := (fun j => match j with | 0 => .int .i64 (ga : Int) | 1 => .int .i64 (boy : Int) | 2 => .int .i64 (IntKind.i64.wrap (2 ^ boy)) | 3 => .int .i64 (t' : Int) | 4 => .pointer (some ⟨W.heap.size, 0, none⟩) | 5 => .slice p B.boys.length cap | 6 => .int .i64 (B.boys.length : Int) | _ => undef)) (R := (fun v w => ListAt w v (bitsL t' B.boys.length))) (by kernel_rfl) ha hw hR ho h1 (by omega)
            have ST := Lib.hid st; clear st
            cases ho
            rw [if_pos (by rfl)]
            have t5 := ha.old 5 (by kernel_rfl)
            simp at t5
            go_simp
            exact ST.out
          | 2, ho =>
            have st := StC.pure (c := 7) (vs := (fun j => match j with | 0 => .int .i64 (ga : Int) | 1 => .int .i64 (boy : Int) | 2 => .int .i64 (IntKind.i64.wrap (2 ^ boy)) | 3 => .int .i64 (t' : Int) | 4 => .pointer (some ⟨W.heap.size, 0, none⟩) | 5 => .slice p B.boys.length cap | 6 => .int .i64 (B.boys.length : Int) | _ => undef)) (R := (fun v w => ListAt w v (bitsL t' B.boys.length))) (by kernel_rfl) ha hw hR ho h1 (by omega)
            have ST := Lib.hid st; clear st
            cases ho
            rw [if_pos (by rfl)]
            have t97 := ha.new 1 (h2 ⟨1, .data⟩ (by simp) rfl) (d := 97) rfl rfl (by simp)
            simp at t97
            go_simp
            exact ST.out
          | 3, ho =>
            have st := StC.pure (c := 7) (vs := (fun j => match j with | 0 => .int .i64 (ga : Int) | 1 => .int .i64 (boy : Int) | 2 => .int .i64 (IntKind.i64.wrap (2 ^ boy)) | 3 => .int .i64 (t' : Int) | 4 => .pointer (some ⟨W.heap.size, 0, none⟩) | 5 => .slice p B.boys.length cap | 6 => .int .i64 (B.boys.length : Int) | _ => undef)) (R := (fun v w => ListAt w v (bitsL t' B.boys.length))) (by kernel_rfl) ha hw hR ho h1 (by omega)
            have ST := Lib.hid st; clear st
            cases ho
            rw [if_pos (by rfl)]
            have t96 := ha.new 0 (h2 ⟨0, .data⟩ (by simp) rfl) (d := 96) rfl rfl (by simp)
            simp at t96
            have t98 := ha.new 2 (h2 ⟨2, .data⟩ (by simp) rfl) (d := 98) rfl rfl (by simp)
            simp at t98
            have hte := HTE.out
            rw [← HPW.out] at hte
            go_simp
            exact ST.out
          | 4, ho =>
            have st := StC.pure (c := 7) (vs := (fun j => match j with | 0 => .int .i64 (ga : Int) | 1 => .int .i64 (boy : Int) | 2 => .int .i64 (IntKind.i64.wrap (2 ^ boy)) | 3 => .int .i64 (t' : Int) | 4 => .pointer (some ⟨W.heap.size, 0, none⟩) | 5 => .slice p B.boys.length cap | 6 => .int .i64 (B.boys.length : Int) | _ => undef)) (R := (fun v w => ListAt w v (bitsL t' B.boys.length))) (by kernel_rfl) ha hw hR ho h1 (by omega)
            have ST := Lib.hid st; clear st
            cases ho
            rw [if_pos (by rfl)]
            have t2 := ha.old 2 (by kernel_rfl)
            simp at t2
            go_simp
            exact ST.out
          | 5, ho =>
            have st := StC.pure (c := 7) (vs := (fun j => match j with | 0 => .int .i64 (ga : Int) | 1 => .int .i64 (boy : Int) | 2 => .int .i64 (IntKind.i64.wrap (2 ^ boy)) | 3 => .int .i64 (t' : Int) | 4 => .pointer (some ⟨W.heap.size, 0, none⟩) | 5 => .slice p B.boys.length cap | 6 => .int .i64 (B.boys.length : Int) | _ => undef)) (R := (fun v w => ListAt w v (bitsL t' B.boys.length))) (by kernel_rfl) ha hw hR ho h1 (by omega)
            have ST := Lib.hid st; clear st
            cases ho
            rw [if_pos (by rfl)]
            have t100 := ha.new 4 (h2 ⟨4, .data⟩ (by simp) rfl) (d := 100) rfl rfl (by simp)
            simp at t100
            have c0 := kcell hw x0
            go_simp
            exact ST.out
          | 6, ho =>
            have st := StC.pure (c := 7) (vs := (fun j => match j with | 0 => .int .i64 (ga : Int) | 1 => .int .i64 (boy : Int) | 2 => .int .i64 (IntKind.i64.wrap (2 ^ boy)) | 3 => .int .i64 (t' : Int) | 4 => .pointer (some ⟨W.heap.size, 0, none⟩) | 5 => .slice p B.boys.length cap | 6 => .int .i64 (B.boys.length : Int) | _ => undef)) (R := (fun v w => ListAt w v (bitsL t' B.boys.length))) (by kernel_rfl) ha hw hR ho h1 (by omega)
            have ST := Lib.hid st; clear st
            cases ho
            rw [if_pos (by rfl)]
            have t101 := ha.new 5 (h2 ⟨5, .data⟩ (by simp) rfl) (d := 101) rfl rfl (by simp)
            simp at t101
            go_simp
            exact ST.out
          | 7, ho =>
            have hn8 : on listed 8 = false := by
              cases hb : on listed 8 with
              | false => rfl
              | true => have := hcl 8 _ rfl hb ⟨7, .data⟩ (by simp) rfl; rw [on_no h1] at this; cases this
            have hlt8 : ∀ j, 7 < j → on listed j = false := fun j hj => by
              by_cases e : j = 8
              · subst e; exact hn8
              · unfold on
                simp only [Array.getD_eq_getD_getElem?]
                rw [Array.getElem?_eq_none (by rw [hl]; simp; omega)]
                rfl
            have st := fun v' w' => StC.called (c := 7) (vs := (fun j => match j with | 0 => .int .i64 (ga : Int) | 1 => .int .i64 (boy : Int) | 2 => .int .i64 (IntKind.i64.wrap (2 ^ boy)) | 3 => .int .i64 (t' : Int) | 4 => .pointer (some ⟨W.heap.size, 0, none⟩) | 5 => .slice p B.boys.length cap | 6 => .int .i64 (B.boys.length : Int) | _ => undef)) (R := (fun v w => ListAt w v (bitsL t' B.boys.length))) (V := wr) (v' := v') (w' := w') (by kernel_rfl) ha hl ho h1 hlt8
            have ST := Lib.hid st; clear st
            cases ho
            rw [if_pos (by rfl)]
            have t99 := ha.new 3 (h2 ⟨3, .data⟩ (by simp) rfl) (d := 99) rfl rfl (by simp)
            simp at t99
            have t102 := ha.new 6 (h2 ⟨6, .data⟩ (by simp) rfl) (d := 102) rfl rfl (by simp)
            simp at t102
            have hcall := bits_is t' B.boys.length w ht16 q2
            go_simp
            refine ⟨trivial, rfl, (callsIn_wide.2 hcall).mono ?_⟩
            rintro e w' ⟨v', rfl, hk', hrow⟩
            exact ST.out v' w' (kept_trans hw hk') (ListAt.of_row hrow)
          | 8, ho =>
            have st := StC.pure (c := 7) (vs := (fun j => match j with | 0 => .int .i64 (ga : Int) | 1 => .int .i64 (boy : Int) | 2 => .int .i64 (IntKind.i64.wrap (2 ^ boy)) | 3 => .int .i64 (t' : Int) | 4 => .pointer (some ⟨W.heap.size, 0, none⟩) | 5 => .slice p B.boys.length cap | 6 => .int .i64 (B.boys.length : Int) | _ => undef)) (R := (fun v w => ListAt w v (bitsL t' B.boys.length))) (by kernel_rfl) ha hw hR ho h1 (by omega)
            have ST := Lib.hid st; clear st
            cases ho
            rw [if_pos (by rfl)]
            have t103 := ha.new 7 (h2 ⟨7, .data⟩ (by simp) rfl) (d := 103) rfl rfl (by simp)
            simp at t103
            go_simp
            exact ST.out
        case hend =>
          rintro listed a w hall ⟨v, ha, hw, hR⟩
          have hown := hR (hall 7 (by simp))
          obtain ⟨y, hy, hae⟩ := ha.lit (n := 128) rfl
          have y4 := (hy 4).symm.trans (ha.old 4 (by kernel_rfl))
          have y9 := (hy 9).symm.trans (ha.old 9 (by kernel_rfl))
          have y10 := (hy 10).symm.trans (ha.old 10 (by kernel_rfl))
          have y15 := (hy 15).symm.trans (ha.new 8 (hall 8 (by simp)) (d := 15) rfl rfl (by simp))
          simp at y4 y9 y10 y15
          simp only [List.range, List.range.loop, List.map] at hae
          rw [y4, y9, y10, y15] at hae
          subst hae
          clear ha hy y4 y9 y10 y15
          refine (by assumption : ∀ a w, Code.wp _ _ _ a w → _) _ w ?_
          have hk0W := kept_trans hk0V hw
          have hso := sung_is w (HB.out.laid.kept hk0W) (HG.out.kept hk0W)
          have HSU := Lib.hid hso; clear hso
          clear x0 x1 x2 y0 y1
          cases hoo : heirOf (surelyL B (singsN B week note hi) B.boys.length) boy with
          | none =>
            have e0 : bitsL t' B.boys.length = [] := by
              have h := HOWN.out
              rw [hoo] at h
              exact List.head?_eq_none_iff.1 h
            obtain ⟨rfl, rfl⟩ : err = 4 ∧ hv = 0 := by
              rcases HREC.out with ⟨_, ⟨e, e1, _⟩ | ⟨_, b, _, e1⟩⟩ | ⟨_, hn, _⟩
              · exact ⟨e, e1⟩
              · rw [hoo] at e1; cases e1
              · exact absurd hcan hn
            rw [e0] at hown
            obtain ⟨pp, cc, rfl⟩ := listAt_len hown
            simp only [List.length_nil]
            go_wp2_with fail
            refine HSU.out.mono ?_
            rintro e w' ⟨rfl, hk9⟩
            go_wp2_with fail
            go_ret
            exact ⟨rfl, kept_trans hk0W hk9⟩
          | some b =>
            obtain ⟨rest, e0⟩ : ∃ rest, bitsL t' B.boys.length = b :: rest := by
              have h := HOWN.out
              rw [hoo] at h
              exact List.head?_eq_some_iff.1 h
            obtain ⟨rfl, rfl⟩ : err = 0 ∧ hv = (b : Int) := by
              rcases HREC.out with ⟨_, ⟨e, e1, e2⟩ | ⟨e, b', e1, e2⟩⟩ | ⟨_, hn, _⟩
              · rw [hoo] at e2; cases e2
              · rw [hoo] at e2; cases e2; exact ⟨e, e1⟩
              · exact absurd hcan hn
            rw [e0] at hown
            have hlen : (((b :: rest).length : Int) == 0) = false := by simp; omega
            have hle4 : (b :: rest).length ≤ 4 := by rw [← e0]; omega
            rcases hown with ⟨_, h⟩ | ⟨bb, cc, rfl, hbz, hc0⟩
            · cases h
            have c0 := hc0 0 b rfl
            have hpos : (0 : Int) < ((b :: rest).length : Int) := by simp
            have hposn : 0 < (b :: rest).length := by simp
            generalize (b :: rest).length = nn at *
            clear hc0
            go_wp2_with fail
            refine HSU.out.mono ?_
            rintro e w' ⟨rfl, hk9⟩
            go_wp2_with fail
            go_ret
            exact ⟨rfl, kept_trans hk0W hk9⟩
  · have m1 : note ≤ 40 := by omega
    have m2 : (40 : Int) ≤ 40 := by omega
    have m3 : 40 ≤ note + 7 := by omega
    go_wp2_with fail
    refine (bounds_is note 40 _).mono ?_
    rintro e V4 ⟨rfl, hk4⟩
    have hk04 := kept_trans hk03 hk4
    have kb4 : Kept V4 (V4.alloc (Obj.cells #[.int .i64 note, .int .i64 40] 31)) := kept_alloc (kept_refl _) _
    have p0 : (V4.alloc (Obj.cells #[.int .i64 note, .int .i64 40] 31)).cell? ⟨V4.heap.size, 0, none⟩ = some (.int .i64 note) := by go_simp
    have p1 : (V4.alloc (Obj.cells #[.int .i64 note, .int .i64 40] 31)).cell? ⟨V4.heap.size, 1, none⟩ = some (.int .i64 40) := by go_simp
    replace s0 := kcell (kept_trans hk4 kb4) s0
    replace s1 := kcell (kept_trans hk4 kb4) s1
    replace s2 := kcell (kept_trans hk4 kb4) s2
    have hz4 := Go.Ai.lt_of_cell (kcell hk4 s3)
    have hk05 := kept_trans hk04 kb4
    have hhe := heir_all p q cap capt B boy week note 40 (V4.alloc (Obj.cells #[.int .i64 note, .int .i64 40] 31)) (HB.out.kept hk05) (HG.out.kept hk05) hok hbl ⟨k1, k2⟩ ⟨k5, m1, m2⟩
    unfold Book.val at hhe
    have HH := Lib.hid hhe; clear hhe
    have hz0 := Go.Ai.lt_of_cell s0
    simp only [World.size_alloc] at hz0
    go_wp2_with fail
    generalize hV5 : V4.alloc (Obj.cells #[.int .i64 note, .int .i64 40] 31) = V5 at *
    clear hV5
    refine HH.out.mono ?_
    rintro e V6 ⟨hv, err, rfl, hk6, hr⟩
    clear HH
    have hk06 := kept_trans hk05 hk6
    replace s0 := kcell hk6 s0
    replace s1 := kcell hk6 s1
    replace s2 := kcell hk6 s2
    replace p0 := kcell hk6 p0
    replace p1 := kcell hk6 p1
    have HREC := Lib.hid hr; clear hr
    go_wp2_with fail
    have hfull : wrap64 (wrap64 ((2 : Int) ^ B.boys.length) - 1) = ((gath (ableL B week note 0) : Nat) : Int) := by rw [able_zero]; exact full_is _ q2
    rw [hfull] at *
    have HA16 := Lib.hid (fun j => gath_lt (l := ableL B week note j) (able_lt q2))
    clear hfull
    have hzp := Go.Ai.lt_of_cell p0
    have hzs0 := Go.Ai.lt_of_cell s0
    go_loopw [11, 12] (fun s k V => ∃ j : Nat, note + j ≤ 40 + 1 ∧ k = .int .i64 (note + j) ∧ s = .int .i64 ((gath (ableL B week note j) : Nat) : Int) ∧ Kept V6 V ∧ (1 ≤ j → Can B)) (fun s k V => (40 + 1 - intOf k).toNat)
    case atStart => exact ⟨0, by omega, by simp, rfl, kept_refl _, fun h => by omega⟩
    case round =>
      obtain ⟨j, hj, rfl, rfl, hV, hcj⟩ := hrel
      have HCJ := Lib.hid hcj; clear hcj
      have x0 := kcell hV s0
      have x1 := kcell hV s1
      have x2 := kcell hV s2
      have y0 := kcell hV p0
      have y1 := kcell hV p1
      have hk0V := kept_trans hk06 hV
      have hzx := Go.Ai.lt_of_cell x0
      have hzy := Go.Ai.lt_of_cell y0
      by_cases hlt : note + j ≤ 40
      · have hsu := surely_all p q cap capt B week (note + j) wr (HB.out.kept hk0V) (HG.out.kept hk0V) hok ⟨k1, k2⟩ ⟨by omega, by omega⟩
        unfold Book.val at hsu
        have HS := Lib.hid hsu; clear hsu
        go_wp2_with fail
        refine HS.out.mono ?_
        rintro e V7 ⟨sv, err3, rfl, hk7, hr3⟩
        clear HS
        have hk07 := kept_trans hk0V hk7
        replace x0 := kcell hk7 x0
        replace x1 := kcell hk7 x1
        replace x2 := kcell hk7 x2
        by_cases hcan : Can B
        · obtain ⟨rfl, hrow⟩ : err3 = 0 ∧ V7.ownsRow wr.heap.size 3 1 sv (surelyL B (singsN B week (note + j) (note + j)) B.boys.length).length (intsV (surelyL B (singsN B week (note + j) (note + j)) B.boys.length)) := by
            rcases hr3 with ⟨e, _, r⟩ | ⟨_, hn, _⟩
            · exact ⟨e, r⟩
            · exact absurd hcan hn
          have hL := ListAt.of_row hrow
          have hLl := surelyL_len B (singsN B week (note + j) (note + j)) B.boys.length
          have hLx : ∀ b ∈ surelyL B (singsN B week (note + j) (note + j)) B.boys.length, b < B.boys.length := fun b hb => surelyL_lt hb
          have hLi := surelyL_incr (B := B) (sb := singsN B week (note + j) (note + j)) (n := B.boys.length)
          have hstep := able_step B week note j
          have h16 := gath_lt (l := surelyL B (singsN B week (note + j) (note + j)) B.boys.length) (fun b hb => by have := surelyL_lt hb; omega)
          have hand := and_val _ (HA16.out j) _ h16
          rw [hstep] at hand
          have HAND := Lib.hid hand
          clear hstep hrow hr3 hand
          have hor := ordered_any sv _ B.boys.length V7 hL (by omega) hLx q2 hLi
          have HO := Lib.hid hor; clear hor
          have hga := fun V (k : Kept V7 V) => gather_any sv _ V (hL.kept k) (by omega) (fun b hb => by have := hLx b hb; omega)
          have HGA := Lib.hid hga; clear hga
          clear hL hLl hLx hLi h16
          generalize hgs : gath (surelyL B (singsN B week (note + j) (note + j)) B.boys.length) = gs at *
          generalize hga : gath (ableL B week note j) = ga at *
          go_wp2_with fail
          refine HO.out.mono ?_
          rintro e V8 ⟨rfl, hk8⟩
          clear HO
          go_wp2_with fail
          refine (HGA.out _ hk8).mono ?_
          rintro e V9 ⟨rfl, hk9⟩
          clear HGA
          have hwk : IntKind.i64.wrap (note + j + 1) = note + j + 1 := IntWalk.i64_in _ (by omega)
          have hand := HAND.out
          go_wp2_with fail
          go_roundw
          case rel => exact ⟨j + 1, by omega, by simp [Int.add_assoc], by simp, kept_trans (kept_trans (kept_trans hV hk7) hk8) hk9, fun _ => hcan⟩
          case measure => simp [intOf]; omega
        · obtain ⟨rfl, hvn⟩ : err3 = 22 ∧ True := by
            rcases hr3 with ⟨_, c, _⟩ | ⟨e, _, _⟩
            · exact absurd c hcan
            · exact ⟨e, trivial⟩
          obtain ⟨rfl, rfl⟩ : err = 22 ∧ hv = 0 := by
            rcases HREC.out with ⟨c, _⟩ | ⟨e, _, e1⟩
            · exact absurd c hcan
            · exact ⟨e, e1⟩
          have HSU := Lib.hid (sung_is V7 (HB.out.laid.kept hk07) (HG.out.kept hk07))
          go_wp2_with fail
          refine HSU.out.mono ?_
          rintro e w' ⟨rfl, hk9⟩
          go_wp2_with fail
          go_ret
          exact ⟨rfl, kept_trans hk07 hk9⟩
      · have hje : note + j = 40 + 1 := by omega
        have hcan := HCJ.out (by omega)
        have hall : ableL B week note j = surelyL B (singsN B week note 40) B.boys.length := able_all (by omega) (by omega)
        go_wp2_with fail
        rw [hall] at *
        have h16 := gath_lt (l := surelyL B (singsN B week note 40) B.boys.length) (fun b hb => by have := surelyL_lt hb; omega)
        obtain ⟨t', ht16, hte, htb⟩ := andNot_test _ h16 boy (by omega)
        have hpw : IntKind.i64.wrap ((2 : Int) ^ boy) = ((2 ^ boy : Nat) : Int) := pow_is boy (by omega)
        have hown : (bitsL t' B.boys.length).head? = heirOf (surelyL B (singsN B week note 40) B.boys.length) boy := by
          refine heir_bits ⟨_, rfl⟩ fun i hi => ?_
          rw [htb i (by omega), gath_testBit]
        have hbl4 := bitsL_len t' B.boys.length
        generalize gath (surelyL B (singsN B week note 40) B.boys.length) = ga at *
        have HOWN := Lib.hid hown
        have HTE := Lib.hid hte
        have HPW := Lib.hid hpw
        clear hown hte hpw htb h16 hall
        have hzwr := hV.size
        refine (wpIn_wide (n := 0)).1 (wpIn_region_invL (StC 7 (fun j => match j with | 0 => .int .i64 (ga : Int) | 1 => .int .i64 (boy : Int) | 2 => .int .i64 (IntKind.i64.wrap (2 ^ boy)) | 3 => .int .i64 (t' : Int) | 4 => .pointer (some ⟨W.heap.size, 0, none⟩) | 5 => .slice p B.boys.length cap | 6 => .int .i64 (B.boys.length : Int) | _ => undef) (fun v w => ListAt w v (bitsL t' B.boys.length)) wr) (by kernel_rfl) (by kernel_rfl) StC.start ?hop ?hend)
        case hop =>
          rintro i o listed a w hl ho h1 h2 hcl ⟨v, ha, hw, hR⟩
          have hi11 : i < 9 := (List.getElem?_eq_some_iff.1 ho).1
          match i, ho with
          | 0, ho =>
            have st := StC.pure (c := 7) (vs := (fun j => match j with | 0 => .int .i64 (ga : Int) | 1 => .int .i64 (boy : Int) | 2 => .int .i64 (IntKind.i64.wrap (2 ^ boy)) | 3 => .int .i64 (t' : Int) | 4 => .pointer (some ⟨W.heap.size, 0, none⟩) | 5 => .slice p B.boys.length cap | 6 => .int .i64 (B.boys.length : Int) | _ => undef)) (R := (fun v w => ListAt w v (bitsL t' B.boys.length))) (by kernel_rfl) ha hw hR ho h1 (by omega)
            have ST := Lib.hid st; clear st
            cases ho
            rw [if_pos (by rfl)]
            have t11 := ha.old 11 (by kernel_rfl)
            simp at t11
            go_simp
            exact ST.out
          | 1, ho =>
            have st := StC.pure (c := 7) (vs := (fun j => match j with | 0 => .int .i64 (ga : Int) | 1 => .int .i64 (boy : Int) | 2 => .int .i64 (IntKind.i64.wrap (2 ^ boy)) | 3 => .int .i64 (t' : Int) | 4 => .pointer (some ⟨W.heap.size, 0, none⟩) | 5 => .slice p B.boys.length cap | 6 => .int .i64 (B.boys.length : Int) | _ => undef)) (R := (fun v w => ListAt w v (bitsL t' B.boys.length))) (by kernel_rfl) ha hw hR ho h1 (by omega)
            have ST := Lib.hid st; clear st
            cases ho
            rw [if_pos (by rfl)]
            have t5 := ha.old 5 (by kernel_rfl)
            simp at t5
            go_simp
            exact ST.out
          | 2, ho =>
            have st := StC.pure (c := 7) (vs := (fun j => match j with | 0 => .int .i64 (ga : Int) | 1 => .int .i64 (boy : Int) | 2 => .int .i64 (IntKind.i64.wrap (2 ^ boy)) | 3 => .int .i64 (t' : Int) | 4 => .pointer (some ⟨W.heap.size, 0, none⟩) | 5 => .slice p B.boys.length cap | 6 => .int .i64 (B.boys.length : Int) | _ => undef)) (R := (fun v w => ListAt w v (bitsL t' B.boys.length))) (by kernel_rfl) ha hw hR ho h1 (by omega)
            have ST := Lib.hid st; clear st
            cases ho
            rw [if_pos (by rfl)]
            have t97 := ha.new 1 (h2 ⟨1, .data⟩ (by simp) rfl) (d := 97) rfl rfl (by simp)
            simp at t97
            go_simp
            exact ST.out
          | 3, ho =>
            have st := StC.pure (c := 7) (vs := (fun j => match j with | 0 => .int .i64 (ga : Int) | 1 => .int .i64 (boy : Int) | 2 => .int .i64 (IntKind.i64.wrap (2 ^ boy)) | 3 => .int .i64 (t' : Int) | 4 => .pointer (some ⟨W.heap.size, 0, none⟩) | 5 => .slice p B.boys.length cap | 6 => .int .i64 (B.boys.length : Int) | _ => undef)) (R := (fun v w => ListAt w v (bitsL t' B.boys.length))) (by kernel_rfl) ha hw hR ho h1 (by omega)
            have ST := Lib.hid st; clear st
            cases ho
            rw [if_pos (by rfl)]
            have t96 := ha.new 0 (h2 ⟨0, .data⟩ (by simp) rfl) (d := 96) rfl rfl (by simp)
            simp at t96
            have t98 := ha.new 2 (h2 ⟨2, .data⟩ (by simp) rfl) (d := 98) rfl rfl (by simp)
            simp at t98
            have hte := HTE.out
            rw [← HPW.out] at hte
            go_simp
            exact ST.out
          | 4, ho =>
            have st := StC.pure (c := 7) (vs := (fun j => match j with | 0 => .int .i64 (ga : Int) | 1 => .int .i64 (boy : Int) | 2 => .int .i64 (IntKind.i64.wrap (2 ^ boy)) | 3 => .int .i64 (t' : Int) | 4 => .pointer (some ⟨W.heap.size, 0, none⟩) | 5 => .slice p B.boys.length cap | 6 => .int .i64 (B.boys.length : Int) | _ => undef)) (R := (fun v w => ListAt w v (bitsL t' B.boys.length))) (by kernel_rfl) ha hw hR ho h1 (by omega)
            have ST := Lib.hid st; clear st
            cases ho
            rw [if_pos (by rfl)]
            have t2 := ha.old 2 (by kernel_rfl)
            simp at t2
            go_simp
            exact ST.out
          | 5, ho =>
            have st := StC.pure (c := 7) (vs := (fun j => match j with | 0 => .int .i64 (ga : Int) | 1 => .int .i64 (boy : Int) | 2 => .int .i64 (IntKind.i64.wrap (2 ^ boy)) | 3 => .int .i64 (t' : Int) | 4 => .pointer (some ⟨W.heap.size, 0, none⟩) | 5 => .slice p B.boys.length cap | 6 => .int .i64 (B.boys.length : Int) | _ => undef)) (R := (fun v w => ListAt w v (bitsL t' B.boys.length))) (by kernel_rfl) ha hw hR ho h1 (by omega)
            have ST := Lib.hid st; clear st
            cases ho
            rw [if_pos (by rfl)]
            have t100 := ha.new 4 (h2 ⟨4, .data⟩ (by simp) rfl) (d := 100) rfl rfl (by simp)
            simp at t100
            have c0 := kcell hw x0
            go_simp
            exact ST.out
          | 6, ho =>
            have st := StC.pure (c := 7) (vs := (fun j => match j with | 0 => .int .i64 (ga : Int) | 1 => .int .i64 (boy : Int) | 2 => .int .i64 (IntKind.i64.wrap (2 ^ boy)) | 3 => .int .i64 (t' : Int) | 4 => .pointer (some ⟨W.heap.size, 0, none⟩) | 5 => .slice p B.boys.length cap | 6 => .int .i64 (B.boys.length : Int) | _ => undef)) (R := (fun v w => ListAt w v (bitsL t' B.boys.length))) (by kernel_rfl) ha hw hR ho h1 (by omega)
            have ST := Lib.hid st; clear st
            cases ho
            rw [if_pos (by rfl)]
            have t101 := ha.new 5 (h2 ⟨5, .data⟩ (by simp) rfl) (d := 101) rfl rfl (by simp)
            simp at t101
            go_simp
            exact ST.out
          | 7, ho =>
            have hn8 : on listed 8 = false := by
              cases hb : on listed 8 with
              | false => rfl
              | true => have := hcl 8 _ rfl hb ⟨7, .data⟩ (by simp) rfl; rw [on_no h1] at this; cases this
            have hlt8 : ∀ j, 7 < j → on listed j = false := fun j hj => by
              by_cases e : j = 8
              · subst e; exact hn8
              · unfold on
                simp only [Array.getD_eq_getD_getElem?]
                rw [Array.getElem?_eq_none (by rw [hl]; simp; omega)]
                rfl
            have st := fun v' w' => StC.called (c := 7) (vs := (fun j => match j with | 0 => .int .i64 (ga : Int) | 1 => .int .i64 (boy : Int) | 2 => .int .i64 (IntKind.i64.wrap (2 ^ boy)) | 3 => .int .i64 (t' : Int) | 4 => .pointer (some ⟨W.heap.size, 0, none⟩) | 5 => .slice p B.boys.length cap | 6 => .int .i64 (B.boys.length : Int) | _ => undef)) (R := (fun v w => ListAt w v (bitsL t' B.boys.length))) (V := wr) (v' := v') (w' := w') (by kernel_rfl) ha hl ho h1 hlt8
            have ST := Lib.hid st; clear st
            cases ho
            rw [if_pos (by rfl)]
            have t99 := ha.new 3 (h2 ⟨3, .data⟩ (by simp) rfl) (d := 99) rfl rfl (by simp)
            simp at t99
            have t102 := ha.new 6 (h2 ⟨6, .data⟩ (by simp) rfl) (d := 102) rfl rfl (by simp)
            simp at t102
            have hcall := bits_is t' B.boys.length w ht16 q2
            go_simp
            refine ⟨trivial, rfl, (callsIn_wide.2 hcall).mono ?_⟩
            rintro e w' ⟨v', rfl, hk', hrow⟩
            exact ST.out v' w' (kept_trans hw hk') (ListAt.of_row hrow)
          | 8, ho =>
            have st := StC.pure (c := 7) (vs := (fun j => match j with | 0 => .int .i64 (ga : Int) | 1 => .int .i64 (boy : Int) | 2 => .int .i64 (IntKind.i64.wrap (2 ^ boy)) | 3 => .int .i64 (t' : Int) | 4 => .pointer (some ⟨W.heap.size, 0, none⟩) | 5 => .slice p B.boys.length cap | 6 => .int .i64 (B.boys.length : Int) | _ => undef)) (R := (fun v w => ListAt w v (bitsL t' B.boys.length))) (by kernel_rfl) ha hw hR ho h1 (by omega)
            have ST := Lib.hid st; clear st
            cases ho
            rw [if_pos (by rfl)]
            have t103 := ha.new 7 (h2 ⟨7, .data⟩ (by simp) rfl) (d := 103) rfl rfl (by simp)
            simp at t103
            go_simp
            exact ST.out
        case hend =>
          rintro listed a w hall ⟨v, ha, hw, hR⟩
          have hown := hR (hall 7 (by simp))
          obtain ⟨y, hy, hae⟩ := ha.lit (n := 128) rfl
          have y4 := (hy 4).symm.trans (ha.old 4 (by kernel_rfl))
          have y9 := (hy 9).symm.trans (ha.old 9 (by kernel_rfl))
          have y10 := (hy 10).symm.trans (ha.old 10 (by kernel_rfl))
          have y15 := (hy 15).symm.trans (ha.new 8 (hall 8 (by simp)) (d := 15) rfl rfl (by simp))
          simp at y4 y9 y10 y15
          simp only [List.range, List.range.loop, List.map] at hae
          rw [y4, y9, y10, y15] at hae
          subst hae
          clear ha hy y4 y9 y10 y15
          refine (by assumption : ∀ a w, Code.wp _ _ _ a w → _) _ w ?_
          have hk0W := kept_trans hk0V hw
          have hso := sung_is w (HB.out.laid.kept hk0W) (HG.out.kept hk0W)
          have HSU := Lib.hid hso; clear hso
          clear x0 x1 x2 y0 y1
          cases hoo : heirOf (surelyL B (singsN B week note 40) B.boys.length) boy with
          | none =>
            have e0 : bitsL t' B.boys.length = [] := by
              have h := HOWN.out
              rw [hoo] at h
              exact List.head?_eq_none_iff.1 h
            obtain ⟨rfl, rfl⟩ : err = 4 ∧ hv = 0 := by
              rcases HREC.out with ⟨_, ⟨e, e1, _⟩ | ⟨_, b, _, e1⟩⟩ | ⟨_, hn, _⟩
              · exact ⟨e, e1⟩
              · rw [hoo] at e1; cases e1
              · exact absurd hcan hn
            rw [e0] at hown
            obtain ⟨pp, cc, rfl⟩ := listAt_len hown
            simp only [List.length_nil]
            go_wp2_with fail
            refine HSU.out.mono ?_
            rintro e w' ⟨rfl, hk9⟩
            go_wp2_with fail
            go_ret
            exact ⟨rfl, kept_trans hk0W hk9⟩
          | some b =>
            obtain ⟨rest, e0⟩ : ∃ rest, bitsL t' B.boys.length = b :: rest := by
              have h := HOWN.out
              rw [hoo] at h
              exact List.head?_eq_some_iff.1 h
            obtain ⟨rfl, rfl⟩ : err = 0 ∧ hv = (b : Int) := by
              rcases HREC.out with ⟨_, ⟨e, e1, e2⟩ | ⟨e, b', e1, e2⟩⟩ | ⟨_, hn, _⟩
              · rw [hoo] at e2; cases e2
              · rw [hoo] at e2; cases e2; exact ⟨e, e1⟩
              · exact absurd hcan hn
            rw [e0] at hown
            have hlen : (((b :: rest).length : Int) == 0) = false := by simp; omega
            have hle4 : (b :: rest).length ≤ 4 := by rw [← e0]; omega
            rcases hown with ⟨_, h⟩ | ⟨bb, cc, rfl, hbz, hc0⟩
            · cases h
            have c0 := hc0 0 b rfl
            have hpos : (0 : Int) < ((b :: rest).length : Int) := by simp
            have hposn : 0 < (b :: rest).length := by simp
            generalize (b :: rest).length = nn at *
            clear hc0
            go_wp2_with fail
            refine HSU.out.mono ?_
            rintro e w' ⟨rfl, hk9⟩
            go_wp2_with fail
            go_ret
            exact ⟨rfl, kept_trans hk0W hk9⟩
end Go.Proofs.YtgffhndedhbjlaaDoor
