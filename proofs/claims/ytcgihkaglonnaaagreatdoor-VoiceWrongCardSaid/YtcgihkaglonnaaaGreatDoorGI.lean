/- Without the trials that are told to be false a book can be true; without others that are fewer, or as many and before, it cannot; none are told just if the book can be true: the law returns true for every book and number. The package-level variables voice.nothing and voice.bounds hold what their initialisers lay (tied). -/
import Derived.Test.YtcgihkaglonnaaaGreatDoorGH
import Derived.Test.YtcgihkaglonnaaaGreatDoorGE
set_option linter.all false
set_option linter.all false
namespace Go.Proofs.YtcgihkaglonnaaaGreatDoor
open Go.RowKit Go.Sort Go.Rg
set_option maxRecDepth 100000

theorem pow6 : ∀ n : Nat, n ≤ 6 → IntKind.i64.wrap ((2 : Int) ^ n) = ((2 ^ n : Nat) : Int) := by decide +kernel
theorem pow64 : ∀ n : Nat, n ≤ 6 → 1 ≤ 2 ^ n ∧ 2 ^ n ≤ 64 := by decide
set_option maxHeartbeats 8000000 in
theorem lwrong_bad (p q : Option Addr) (cap capt : Nat) (B : Book) (n : Int) (W : World) (h : BookAt W p q cap capt B) (hg : Nothing W) (hok : B.okB = false) :
    Calls Tryz.prog 7 #[B.val p q cap capt, .int .i64 n] W fun e C => e = .returned (.bool true) ∧ Kept W C := by
  have hk0 : Kept W (W.alloc (Obj.cells #[.slice p B.boys.length cap, .int .i64 B.weeks, .slice q B.trials.length capt] 25)) := kept_alloc (kept_refl _) _
  have hcall := wrongs_bad p q cap capt B _ (h.kept hk0) hok
  have hval : B.val p q cap capt = .agg #[.slice p B.boys.length cap, .int .i64 B.weeks, .slice q B.trials.length capt] := rfl
  rw [hval] at hcall ⊢
  have HV := Lib.hid hval; clear hval
  have HC := Lib.hid hcall; clear hcall
  have a0 : (W.alloc (Obj.cells #[.slice p B.boys.length cap, .int .i64 B.weeks, .slice q B.trials.length capt] 25)).cell? ⟨W.heap.size, 0, none⟩ = some (.slice p B.boys.length cap) := by go_simp
  have a1 : (W.alloc (Obj.cells #[.slice p B.boys.length cap, .int .i64 B.weeks, .slice q B.trials.length capt] 25)).cell? ⟨W.heap.size, 1, none⟩ = some (.int .i64 B.weeks) := by go_simp
  have a2 : (W.alloc (Obj.cells #[.slice p B.boys.length cap, .int .i64 B.weeks, .slice q B.trials.length capt] 25)).cell? ⟨W.heap.size, 2, none⟩ = some (.slice q B.trials.length capt) := by go_simp
  go_enter Tryz.func7, Tryz.ntmps7
  go_wp2_with fail
  generalize (W.alloc (Obj.cells #[.slice p B.boys.length cap, .int .i64 B.weeks, .slice q B.trials.length capt] 25)) = W0 at *
  refine HC.out.mono ?_
  rintro e W2 ⟨rfl, hk2⟩
  have hk02 := kept_trans hk0 hk2
  replace a0 := kcell hk2 a0
  replace a1 := kcell hk2 a1
  replace a2 := kcell hk2 a2
  have hcall := small_any p q cap capt B _ (h.kept hk02)
  rw [hok, HV.out] at hcall
  have HC2 := Lib.hid hcall; clear hcall HC
  go_wp2_with fail
  refine HC2.out.mono ?_
  rintro e W3 ⟨rfl, hk3⟩
  have hk03 := kept_trans hk02 hk3
  have HS := Lib.hid (sung_is W3 (h.laid.kept hk03) (hg.kept hk03))
  go_wp2_with fail
  refine HS.out.mono ?_
  rintro e W4 ⟨rfl, hk4⟩
  go_wp2_with fail
  go_ret
  exact ⟨rfl, kept_trans hk03 hk4⟩

set_option maxHeartbeats 8000000 in
theorem lwrong_ok (p q : Option Addr) (cap capt : Nat) (B : Book) (n : Int) (W : World) (h : BookAt W p q cap capt B) (hg : Nothing W) (hok : B.okB = true) :
    Calls Tryz.prog 7 #[B.val p q cap capt, .int .i64 n] W fun e C => e = .returned (.bool true) ∧ Kept W C := by
  obtain ⟨w1, w2, w3, w4, w5, w6⟩ := wrong_facts hok
  have hn6 : B.trials.length ≤ 6 := (okB_trials hok).1
  have hk0 : Kept W (W.alloc (Obj.cells #[.slice p B.boys.length cap, .int .i64 B.weeks, .slice q B.trials.length capt] 25)) := kept_alloc (kept_refl _) _
  have hcall := wrongs_any sorts p q cap capt B _ (h.kept hk0) hok
  have hval : B.val p q cap capt = .agg #[.slice p B.boys.length cap, .int .i64 B.weeks, .slice q B.trials.length capt] := rfl
  rw [hval] at hcall ⊢
  have HV := Lib.hid hval; clear hval
  have HC := Lib.hid hcall; clear hcall
  have HW := Lib.hid (And.intro w1 (And.intro w2 (And.intro w3 (And.intro w4 (And.intro w5 w6)))))
  clear w1 w2 w3 w4 w5 w6
  generalize wrongL B = w at *
  have a0 : (W.alloc (Obj.cells #[.slice p B.boys.length cap, .int .i64 B.weeks, .slice q B.trials.length capt] 25)).cell? ⟨W.heap.size, 0, none⟩ = some (.slice p B.boys.length cap) := by go_simp
  have a1 : (W.alloc (Obj.cells #[.slice p B.boys.length cap, .int .i64 B.weeks, .slice q B.trials.length capt] 25)).cell? ⟨W.heap.size, 1, none⟩ = some (.int .i64 B.weeks) := by go_simp
  have a2 : (W.alloc (Obj.cells #[.slice p B.boys.length cap, .int .i64 B.weeks, .slice q B.trials.length capt] 25)).cell? ⟨W.heap.size, 2, none⟩ = some (.slice q B.trials.length capt) := by go_simp
  go_enter Tryz.func7, Tryz.ntmps7
  go_wp2_with fail
  generalize (W.alloc (Obj.cells #[.slice p B.boys.length cap, .int .i64 B.weeks, .slice q B.trials.length capt] 25)) = W0 at *
  refine HC.out.mono ?_
  rintro e W2 ⟨v, rfl, hk2, hl2⟩
  have hk02 := kept_trans hk0 hk2
  replace a0 := kcell hk2 a0
  replace a1 := kcell hk2 a1
  replace a2 := kcell hk2 a2
  have hcall := small_any p q cap capt B _ (h.kept hk02)
  rw [hok, HV.out] at hcall
  have HC2 := Lib.hid hcall; clear hcall HC
  go_wp2_with fail
  refine HC2.out.mono ?_
  rintro e W3 ⟨rfl, hk3⟩
  have hk03 := kept_trans hk02 hk3
  replace a0 := kcell hk3 a0
  replace a1 := kcell hk3 a1
  replace a2 := kcell hk3 a2
  have hl3 := hl2.kept hk3
  have hcall := right_any p q cap capt B _ (h.kept hk03) (hg.kept hk03) hok
  rw [HV.out] at hcall
  have HC3 := Lib.hid hcall; clear hcall HC2
  go_wp2_with fail
  refine HC3.out.mono ?_
  rintro e W4 ⟨r, rfl, hk4, hr⟩
  have hk04 := kept_trans hk03 hk4
  replace a0 := kcell hk4 a0
  replace a1 := kcell hk4 a1
  replace a2 := kcell hk4 a2
  have hl4 := hl3.kept hk4
  have hwr : r = ((w.length : Int) == 0) := by
    rw [Bool.eq_iff_iff, hr, ← HW.out.2.2.2.1, ← List.length_eq_zero_iff]
    simp
  subst hwr
  have hwl : w.length ≤ 6 := Nat.le_trans HW.out.2.2.1 hn6
  obtain ⟨pw, capw, rfl⟩ := listAt_len hl4
  have HO := Lib.hid (ordered6 _ w B.trials.length W4 hl4 hwl HW.out.2.1 hn6 HW.out.1)
  have HL := Lib.hid hl4
  clear hl2 hl3 hl4 HC3 hr
  go_wp2_with (go_at_call 39; refine HO.out.mono ?_; rintro e W5 ⟨rfl, hk5⟩)
  have hk05 := kept_trans hk04 hk5
  replace a0 := kcell hk5 a0
  replace a1 := kcell hk5 a1
  replace a2 := kcell hk5 a2
  have hpw : IntKind.i64.wrap ((2 : Int) ^ B.trials.length) = ((2 ^ B.trials.length : Nat) : Int) := pow6 _ hn6
  have h64 := pow64 _ hn6
  obtain ⟨k1, k2⟩ := turnI_lt n ((2 ^ B.trials.length : Nat) : Int) (by omega)
  obtain ⟨s, hs⟩ := Int.eq_ofNat_of_zero_le k1
  have hs64 : s < 64 := by omega
  have HTU := Lib.hid (fun w => by
    have := turn_is n ((2 ^ B.trials.length : Nat) : Int) (by omega) (by omega) w
    rw [hs, ← hpw] at this
    exact this)
  clear k1 k2 hs hpw h64 HO
  have zs := Go.Ai.lt_of_cell a0
  refine (wpIn_wide (n := 0)).1 (wpIn_region_invL (StC 9 (fun j => match j with | 0 => .int .i64 n | 1 => .pointer (some ⟨W.heap.size, 2, none⟩) | 2 => .slice q B.trials.length capt | 3 => .int .i64 (B.trials.length : Int) | 4 => .int .i64 (IntKind.i64.wrap (2 ^ B.trials.length)) | 5 => .int .i64 (s : Int) | 6 => .pointer (some ⟨W.heap.size, 2, none⟩) | 7 => .slice q B.trials.length capt | 8 => .int .i64 (B.trials.length : Int) | _ => undef) (fun v w => ListAt w v (bitsL s B.trials.length)) W5) (by kernel_rfl) (by kernel_rfl) StC.start ?hop ?hend)
  case hop =>
    rintro i o listed a w hl ho h1 h2 hcl ⟨v, ha, hw, hR⟩
    have hi11 : i < 11 := (List.getElem?_eq_some_iff.1 ho).1
    match i, ho with
    | 0, ho =>
      have st := StC.pure (c := 9) (vs := (fun j => match j with | 0 => .int .i64 n | 1 => .pointer (some ⟨W.heap.size, 2, none⟩) | 2 => .slice q B.trials.length capt | 3 => .int .i64 (B.trials.length : Int) | 4 => .int .i64 (IntKind.i64.wrap (2 ^ B.trials.length)) | 5 => .int .i64 (s : Int) | 6 => .pointer (some ⟨W.heap.size, 2, none⟩) | 7 => .slice q B.trials.length capt | 8 => .int .i64 (B.trials.length : Int) | _ => undef)) (R := (fun v w => ListAt w v (bitsL s B.trials.length))) (by kernel_rfl) ha hw hR ho h1 (by omega)
      have ST := Lib.hid st; clear st
      cases ho
      rw [if_pos (by rfl)]
      have t1 := ha.old 1 (by kernel_rfl)
      simp at t1
      go_simp
      exact ST.out
    | 1, ho =>
      have st := StC.pure (c := 9) (vs := (fun j => match j with | 0 => .int .i64 n | 1 => .pointer (some ⟨W.heap.size, 2, none⟩) | 2 => .slice q B.trials.length capt | 3 => .int .i64 (B.trials.length : Int) | 4 => .int .i64 (IntKind.i64.wrap (2 ^ B.trials.length)) | 5 => .int .i64 (s : Int) | 6 => .pointer (some ⟨W.heap.size, 2, none⟩) | 7 => .slice q B.trials.length capt | 8 => .int .i64 (B.trials.length : Int) | _ => undef)) (R := (fun v w => ListAt w v (bitsL s B.trials.length))) (by kernel_rfl) ha hw hR ho h1 (by omega)
      have ST := Lib.hid st; clear st
      cases ho
      rw [if_pos (by rfl)]
      have t2 := ha.old 2 (by kernel_rfl)
      simp at t2
      go_simp
      exact ST.out
    | 2, ho =>
      have st := StC.pure (c := 9) (vs := (fun j => match j with | 0 => .int .i64 n | 1 => .pointer (some ⟨W.heap.size, 2, none⟩) | 2 => .slice q B.trials.length capt | 3 => .int .i64 (B.trials.length : Int) | 4 => .int .i64 (IntKind.i64.wrap (2 ^ B.trials.length)) | 5 => .int .i64 (s : Int) | 6 => .pointer (some ⟨W.heap.size, 2, none⟩) | 7 => .slice q B.trials.length capt | 8 => .int .i64 (B.trials.length : Int) | _ => undef)) (R := (fun v w => ListAt w v (bitsL s B.trials.length))) (by kernel_rfl) ha hw hR ho h1 (by omega)
      have ST := Lib.hid st; clear st
      cases ho
      rw [if_pos (by rfl)]
      have t59 := ha.new 1 (h2 ⟨1, .data⟩ (by simp) rfl) (d := 59) rfl rfl (by simp)
      simp at t59
      have c0 := kcell hw a2
      go_simp
      exact ST.out
    | 3, ho =>
      have st := StC.pure (c := 9) (vs := (fun j => match j with | 0 => .int .i64 n | 1 => .pointer (some ⟨W.heap.size, 2, none⟩) | 2 => .slice q B.trials.length capt | 3 => .int .i64 (B.trials.length : Int) | 4 => .int .i64 (IntKind.i64.wrap (2 ^ B.trials.length)) | 5 => .int .i64 (s : Int) | 6 => .pointer (some ⟨W.heap.size, 2, none⟩) | 7 => .slice q B.trials.length capt | 8 => .int .i64 (B.trials.length : Int) | _ => undef)) (R := (fun v w => ListAt w v (bitsL s B.trials.length))) (by kernel_rfl) ha hw hR ho h1 (by omega)
      have ST := Lib.hid st; clear st
      cases ho
      rw [if_pos (by rfl)]
      have t60 := ha.new 2 (h2 ⟨2, .data⟩ (by simp) rfl) (d := 60) rfl rfl (by simp)
      simp at t60
      go_simp
      exact ST.out
    | 4, ho =>
      have st := StC.pure (c := 9) (vs := (fun j => match j with | 0 => .int .i64 n | 1 => .pointer (some ⟨W.heap.size, 2, none⟩) | 2 => .slice q B.trials.length capt | 3 => .int .i64 (B.trials.length : Int) | 4 => .int .i64 (IntKind.i64.wrap (2 ^ B.trials.length)) | 5 => .int .i64 (s : Int) | 6 => .pointer (some ⟨W.heap.size, 2, none⟩) | 7 => .slice q B.trials.length capt | 8 => .int .i64 (B.trials.length : Int) | _ => undef)) (R := (fun v w => ListAt w v (bitsL s B.trials.length))) (by kernel_rfl) ha hw hR ho h1 (by omega)
      have ST := Lib.hid st; clear st
      cases ho
      rw [if_pos (by rfl)]
      have t61 := ha.new 3 (h2 ⟨3, .data⟩ (by simp) rfl) (d := 61) rfl rfl (by simp)
      simp at t61
      go_simp
      exact ST.out
    | 5, ho =>
      have st := StC.pure (c := 9) (vs := (fun j => match j with | 0 => .int .i64 n | 1 => .pointer (some ⟨W.heap.size, 2, none⟩) | 2 => .slice q B.trials.length capt | 3 => .int .i64 (B.trials.length : Int) | 4 => .int .i64 (IntKind.i64.wrap (2 ^ B.trials.length)) | 5 => .int .i64 (s : Int) | 6 => .pointer (some ⟨W.heap.size, 2, none⟩) | 7 => .slice q B.trials.length capt | 8 => .int .i64 (B.trials.length : Int) | _ => undef)) (R := (fun v w => ListAt w v (bitsL s B.trials.length))) (by kernel_rfl) ha hw hR ho h1 (by omega)
      have ST := Lib.hid st; clear st
      cases ho
      rw [if_pos (by rfl)]
      have t58 := ha.new 0 (h2 ⟨0, .data⟩ (by simp) rfl) (d := 58) rfl rfl (by simp)
      simp at t58
      have t62 := ha.new 4 (h2 ⟨4, .data⟩ (by simp) rfl) (d := 62) rfl rfl (by simp)
      simp at t62
      have hcall := HTU.out w
      go_simp
      refine ⟨trivial, rfl, (callsIn_wide.2 hcall).mono ?_⟩
      rintro e w' ⟨rfl, rfl⟩
      exact ST.out
    | 6, ho =>
      have st := StC.pure (c := 9) (vs := (fun j => match j with | 0 => .int .i64 n | 1 => .pointer (some ⟨W.heap.size, 2, none⟩) | 2 => .slice q B.trials.length capt | 3 => .int .i64 (B.trials.length : Int) | 4 => .int .i64 (IntKind.i64.wrap (2 ^ B.trials.length)) | 5 => .int .i64 (s : Int) | 6 => .pointer (some ⟨W.heap.size, 2, none⟩) | 7 => .slice q B.trials.length capt | 8 => .int .i64 (B.trials.length : Int) | _ => undef)) (R := (fun v w => ListAt w v (bitsL s B.trials.length))) (by kernel_rfl) ha hw hR ho h1 (by omega)
      have ST := Lib.hid st; clear st
      cases ho
      rw [if_pos (by rfl)]
      have t2 := ha.old 2 (by kernel_rfl)
      simp at t2
      go_simp
      exact ST.out
    | 7, ho =>
      have st := StC.pure (c := 9) (vs := (fun j => match j with | 0 => .int .i64 n | 1 => .pointer (some ⟨W.heap.size, 2, none⟩) | 2 => .slice q B.trials.length capt | 3 => .int .i64 (B.trials.length : Int) | 4 => .int .i64 (IntKind.i64.wrap (2 ^ B.trials.length)) | 5 => .int .i64 (s : Int) | 6 => .pointer (some ⟨W.heap.size, 2, none⟩) | 7 => .slice q B.trials.length capt | 8 => .int .i64 (B.trials.length : Int) | _ => undef)) (R := (fun v w => ListAt w v (bitsL s B.trials.length))) (by kernel_rfl) ha hw hR ho h1 (by omega)
      have ST := Lib.hid st; clear st
      cases ho
      rw [if_pos (by rfl)]
      have t64 := ha.new 6 (h2 ⟨6, .data⟩ (by simp) rfl) (d := 64) rfl rfl (by simp)
      simp at t64
      have c0 := kcell hw a2
      go_simp
      exact ST.out
    | 8, ho =>
      have st := StC.pure (c := 9) (vs := (fun j => match j with | 0 => .int .i64 n | 1 => .pointer (some ⟨W.heap.size, 2, none⟩) | 2 => .slice q B.trials.length capt | 3 => .int .i64 (B.trials.length : Int) | 4 => .int .i64 (IntKind.i64.wrap (2 ^ B.trials.length)) | 5 => .int .i64 (s : Int) | 6 => .pointer (some ⟨W.heap.size, 2, none⟩) | 7 => .slice q B.trials.length capt | 8 => .int .i64 (B.trials.length : Int) | _ => undef)) (R := (fun v w => ListAt w v (bitsL s B.trials.length))) (by kernel_rfl) ha hw hR ho h1 (by omega)
      have ST := Lib.hid st; clear st
      cases ho
      rw [if_pos (by rfl)]
      have t65 := ha.new 7 (h2 ⟨7, .data⟩ (by simp) rfl) (d := 65) rfl rfl (by simp)
      simp at t65
      go_simp
      exact ST.out
    | 9, ho =>
      have hn8 : on listed 10 = false := by
        cases hb : on listed 10 with
        | false => rfl
        | true => have := hcl 10 _ rfl hb ⟨9, .data⟩ (by simp) rfl; rw [on_no h1] at this; cases this
      have hlt8 : ∀ j, 9 < j → on listed j = false := fun j hj => by
        by_cases e : j = 10
        · subst e; exact hn8
        · unfold on
          simp only [Array.getD_eq_getD_getElem?]
          rw [Array.getElem?_eq_none (by rw [hl]; simp; omega)]
          rfl
      have st := fun v' w' => StC.called (c := 9) (vs := (fun j => match j with | 0 => .int .i64 n | 1 => .pointer (some ⟨W.heap.size, 2, none⟩) | 2 => .slice q B.trials.length capt | 3 => .int .i64 (B.trials.length : Int) | 4 => .int .i64 (IntKind.i64.wrap (2 ^ B.trials.length)) | 5 => .int .i64 (s : Int) | 6 => .pointer (some ⟨W.heap.size, 2, none⟩) | 7 => .slice q B.trials.length capt | 8 => .int .i64 (B.trials.length : Int) | _ => undef)) (R := (fun v w => ListAt w v (bitsL s B.trials.length))) (V := W5) (v' := v') (w' := w') (by kernel_rfl) ha hl ho h1 hlt8
      have ST := Lib.hid st; clear st
      cases ho
      rw [if_pos (by rfl)]
      have t63 := ha.new 5 (h2 ⟨5, .data⟩ (by simp) rfl) (d := 63) rfl rfl (by simp)
      simp at t63
      have t66 := ha.new 8 (h2 ⟨8, .data⟩ (by simp) rfl) (d := 66) rfl rfl (by simp)
      simp at t66
      have hcall := bits6 s B.trials.length w hs64 hn6
      go_simp
      refine ⟨trivial, rfl, (callsIn_wide.2 hcall).mono ?_⟩
      rintro e w' ⟨v', rfl, hk', hrow⟩
      exact ST.out v' w' (kept_trans hw hk') (ListAt.of_row hrow)
    | 10, ho =>
      have st := StC.pure (c := 9) (vs := (fun j => match j with | 0 => .int .i64 n | 1 => .pointer (some ⟨W.heap.size, 2, none⟩) | 2 => .slice q B.trials.length capt | 3 => .int .i64 (B.trials.length : Int) | 4 => .int .i64 (IntKind.i64.wrap (2 ^ B.trials.length)) | 5 => .int .i64 (s : Int) | 6 => .pointer (some ⟨W.heap.size, 2, none⟩) | 7 => .slice q B.trials.length capt | 8 => .int .i64 (B.trials.length : Int) | _ => undef)) (R := (fun v w => ListAt w v (bitsL s B.trials.length))) (by kernel_rfl) ha hw hR ho h1 (by omega)
      have ST := Lib.hid st; clear st
      cases ho
      rw [if_pos (by rfl)]
      have t67 := ha.new 9 (h2 ⟨9, .data⟩ (by simp) rfl) (d := 67) rfl rfl (by simp)
      simp at t67
      go_simp
      exact ST.out
  case hend =>
    rintro listed a wz hall ⟨v, ha, hw, hR⟩
    have hlo := hR (hall 9 (by simp))
    obtain ⟨y, hy, hae⟩ := ha.lit (n := 104) rfl
    have y2 := (hy 2).symm.trans (ha.old 2 (by kernel_rfl))
    have y5 := (hy 5).symm.trans (ha.old 5 (by kernel_rfl))
    have y9 := (hy 9).symm.trans (ha.new 10 (hall 10 (by simp)) (d := 9) rfl rfl (by simp))
    simp at y2 y5 y9
    simp only [List.range, List.range.loop, List.map] at hae
    rw [y2, y5, y9] at hae
    subst hae
    clear ha hy y2 y5 y9
    refine (by assumption : ∀ a w, Code.wp _ _ _ a w → _) _ wz ?_
    have hk0z := kept_trans hk05 hw
    replace a0 := kcell hw a0
    replace a1 := kcell hw a1
    replace a2 := kcell hw a2
    have zs := Go.Ai.lt_of_cell a0
    have hlol : (bitsL s B.trials.length).length ≤ 6 := Nat.le_trans (bitsL_len s _) hn6
    have hw45 := kept_trans hk5 hw
    have hlw := HL.out.kept hw45
    have HSH := HW.out.2.2.2.2.2 s
    generalize bitsL s B.trials.length = lo at *
    have HB := Lib.hid h
    have HG := Lib.hid hg
    clear h hg
    -- without those that are told
    have hcall := without_any p q cap capt B _ w wz (HB.out.kept hk0z) hn6 hlw hwl
    rw [HV.out] at hcall
    have HC4 := Lib.hid hcall; clear hcall
    go_wp2_with fail
    refine HC4.out.mono ?_
    rintro e W6 ⟨q1, capt1, rfl, hk6, hb6⟩
    have hk06 := kept_trans hk0z hk6
    replace a0 := kcell hk6 a0
    replace a1 := kcell hk6 a1
    replace a2 := kcell hk6 a2
    replace hlw := hlw.kept hk6
    replace hlo := hlo.kept hk6
    have hcall := right_any p q1 cap capt1 (B.less w) _ hb6 (HG.out.kept hk06) (less_ok hok w)
    generalize (B.less w).val p q1 cap capt1 = x1 at *
    have HC5 := Lib.hid hcall; clear hcall HC4
    go_wp2_with fail
    refine HC5.out.mono ?_
    rintro e W7 ⟨r1, rfl, hk7, hr1⟩
    have hr1t : r1 = true := hr1.2 HW.out.2.2.2.2.1
    subst hr1t
    have hk07 := kept_trans hk06 hk7
    replace a0 := kcell hk7 a0
    replace a1 := kcell hk7 a1
    replace a2 := kcell hk7 a2
    replace hlw := hlw.kept hk7
    replace hlo := hlo.kept hk7
    clear HC5 hr1
    -- without the others
    have hcall := without_any p q cap capt B _ lo W7 (HB.out.kept hk07) hn6 hlo hlol
    rw [HV.out] at hcall
    have HC6 := Lib.hid hcall; clear hcall
    go_wp2_with fail
    refine HC6.out.mono ?_
    rintro e W8 ⟨q2, capt2, rfl, hk8, hb8⟩
    have hk08 := kept_trans hk07 hk8
    replace hlw := hlw.kept hk8
    replace hlo := hlo.kept hk8
    have hcall := right_any p q2 cap capt2 (B.less lo) _ hb8 (HG.out.kept hk08) (less_ok hok lo)
    generalize (B.less lo).val p q2 cap capt2 = x2 at *
    have HC7 := Lib.hid hcall; clear hcall HC6
    go_wp2_with fail
    refine HC7.out.mono ?_
    rintro e W9 ⟨r2, rfl, hk9, hr2⟩
    have hk09 := kept_trans hk08 hk9
    replace hlw := hlw.kept hk9
    replace hlo := hlo.kept hk9
    have HSR := Lib.hid (shorter_any _ _ lo w W9 hlo hlw (by omega) (by omega))
    have hfin : (decide (ordC lo w < 0) && r2) = false := by
      cases r2 with
      | false => simp
      | true =>
        have hc : Can (B.less lo) := hr2.1 rfl
        rw [Bool.and_true, decide_eq_false_iff_not]
        exact fun hlt => HSH hlt hc
    generalize decide (ordC lo w < 0) = sh at *
    have HSU := Lib.hid (fun w (k : Kept W9 w) => sung_is w (HB.out.laid.kept (kept_trans hk09 k)) (HG.out.kept (kept_trans hk09 k)))
    clear HC7 hlw hlo hr2 HSH
    cases sh with
    | true =>
      have hr2f : r2 = false := by simpa using hfin
      subst hr2f
      go_wp2_with (first
        | (go_at_call 42; refine HSR.out.mono ?_; rintro e W10 ⟨rfl, hk10⟩)
        | (go_at_call 18; refine (HSU.out _ hk10).mono ?_; rintro e W11 ⟨rfl, hk11⟩))
      go_ret
      exact ⟨rfl, kept_trans (kept_trans hk09 hk10) hk11⟩
    | false =>
      go_wp2_with (first
        | (go_at_call 42; refine HSR.out.mono ?_; rintro e W10 ⟨rfl, hk10⟩)
        | (go_at_call 18; refine (HSU.out _ hk10).mono ?_; rintro e W11 ⟨rfl, hk11⟩))
      go_ret
      exact ⟨rfl, kept_trans (kept_trans hk09 hk10) hk11⟩
end Go.Proofs.YtcgihkaglonnaaaGreatDoor
set_option linter.all false
namespace Go.Proofs.YtcgihkaglonnaaaGreatDoor
open Go.ChangeShapes Go.WideShapes Go.ChangeAt Go.WideMaps Go.WideElems Go.RowKit Go.Deep Go.Rg
set_option maxRecDepth 100000
set_option maxHeartbeats 1000000 in
theorem vlifted (os : Os) (started : os.Started) (H : Type) (enc : TypeId × Value → H) :
    ReturnsInHanded {} Tryz.checked os 7 .any (fun w args => (Rows.voiceWrongSpec.pre enc Tryz.prog Tryz.f7 [] false w args ∧ laidMetH Tryz.prog vlaid w) ∧ sizedMet enc Tryz.prog Tryz.f7 (OpenSpec.ofChange Rows.voiceWrongSpec) false w args)
      (Rows.voiceWrongSpec.post enc Tryz.prog Tryz.f7 false true false false) := by
  refine returnsInHanded_of_change_and (C := Tryz.checked) (X := fun w _ => laidMetH Tryz.prog vlaid w) (fun _ _ _ hh h => h.of_heap hh) vown started (by kernel_rfl) Tryz.func7
    (ChangeSpec.witness_shaped (enc := enc) (C := Tryz.checked) (os := os) (X := fun w _ => laidMetH Tryz.prog vlaid w) false (World.doorLaid Tryz.prog 400 os) #[.agg #[.slice none 0 0, .int .i64 0, .slice none 0 0], .int .i64 0] 8 rfl (World.shaped_of_RefB (by kernel_rfl) (by kernel_rfl)) (by kernel_rfl) (by kernel_rfl) (by kernel_rfl) (vdoor_met os _)) ?_
  intro W base args ds gs before hval0 hW _ hwt0 hL _
  have hW' := hW
  obtain ⟨p, q, hA0, hV, rfl, hfz, hnd⟩ := hW
  have hA : DataW.TrodAll enc Tryz.prog W 0 (fun _ => true) true Tryz.f7.params.toList args.toList ds p := hA0
  have hval := hval0
  have hwt := hwt0
  rw [Tryz.params7] at hA hval hwt
  obtain ⟨v0, v1, d0, d1, p0, p1, rfl, rfl, rfl, h0, h1⟩ := trodAll_two hA
  obtain ⟨rfl, rfl⟩ := trodVars_none hV
  have hlt : ∀ x ∈ p0 ++ p1, x.block < W.heap.size := fun x hx => hW'.lt x (by simpa using hx)
  have a0 : ∀ (W' : World), Below W.heap.size W W' → DataW.Trod enc Tryz.prog W' 0 (fun b => decide (b < W.heap.size)) true 25 v0 d0 p0 :=
    fun W' hn => Below.trod vlaidOut (by kernel_rfl) (of_decide_eq_true (by kernel_rfl)) h0 hn (fun x hx => hlt x (List.mem_append_left _ hx))
  have a1 : ∀ (W' : World), Below W.heap.size W W' → DataW.Trod enc Tryz.prog W' 0 (fun b => decide (b < W.heap.size)) true 3 v1 d1 p1 :=
    fun W' hn => Below.trod vlaidOut (by kernel_rfl) (of_decide_eq_true (by kernel_rfl)) h1 hn (fun x hx => hlt x (List.mem_append_right _ hx))
  obtain ⟨l1, l2⟩ := of_vlaid hL
  have hN : Nothing W := l1
  have hLd : Laid W := ⟨Go.Ai.lt_of_cell (l2 0 (by omega)), l2 0 (by omega), l2 1 (by omega), l2 2 (by omega), l2 3 (by omega), l2 4 (by omega), l2 5 (by omega), l2 6 (by omega), l2 7 (by omega), l2 8 (by omega), l2 9 (by omega)⟩
  obtain ⟨c0, rfl, hc0⟩ := okWide_struct Tryz.underlying25 (hval 0 25 v0 rfl rfl)
  obtain ⟨fu0, hf0⟩ := h0
  obtain ⟨y0, y1, y2, n, hy, hl0, t0, t1, t2⟩ := trod_struct3 Tryz.underlying25 hf0
  rw [vcK] at hc0
  obtain ⟨lc⟩ := c0
  obtain ⟨s0, s1, s2, rfl⟩ := len3 (by simpa using hc0)
  clear hc0 hl0 hf0
  have u0 : DataW.trod enc Tryz.prog W 0 (fun _ => true) true n 22 (([s0, s1, s2].drop 0).take (Tryz.prog.cellsOf 22)) = some y0 := t0
  have u1 : DataW.trod enc Tryz.prog W 0 (fun _ => true) true n 3 (([s0, s1, s2].drop 1).take (Tryz.prog.cellsOf 3)) = some y1 := t1
  have u2 : DataW.trod enc Tryz.prog W 0 (fun _ => true) true n 23 (([s0, s1, s2].drop 2).take (Tryz.prog.cellsOf 23)) = some y2 := t2
  rw [vcL] at u0
  rw [vcI] at u1
  rw [vcM] at u2
  have hy1 := congrArg Prod.fst hy
  simp only at hy1
  subst hy1
  obtain ⟨hw1, hw2⟩ := book_weights hwt
  obtain ⟨wk, rfl⟩ := one_int u1
  obtain ⟨pb, capb, lb, rfl, nb, hb, _⟩ := rows_of (k := 11) boyCells (by omega) (fun _ => rfl) Tryz.underlying22 vcB (fun n cs x h => boy_ints h) u0
  obtain ⟨pt, capt, lt, rfl, nt, ht, hroom⟩ := rows_of (k := 4) trialCells (by omega) (fun _ => rfl) Tryz.underlying23 vcT (fun n cs x h => trial_ints h) u2
  clear u0 u1 u2 t0 t1 t2
  have hBook : BookAt W pb pt capb capt ⟨lb, wk, lt⟩ := by
    refine ⟨hLd, nb.elim (fun e => by rw [e]; simp) (few_boys hw1), ⟨nt.elim (fun e => by rw [e]; simp) (few_trials hw2), hroom⟩, ?_, ?_⟩
    · rcases hb with e | ⟨b, o, rfl, hz, hc⟩
      · exact .inl e
      · exact .inr ⟨b, o, rfl, hz, fun i y hy => ⟨hc i y hy 0 (by omega), hc i y hy 1 (by omega), hc i y hy 2 (by omega), hc i y hy 3 (by omega), hc i y hy 4 (by omega), hc i y hy 5 (by omega), hc i y hy 6 (by omega), hc i y hy 7 (by omega), hc i y hy 8 (by omega), hc i y hy 9 (by omega), hc i y hy 10 (by omega)⟩⟩
    · rcases ht with e | ⟨b, o, rfl, hz, hc⟩
      · exact .inl e
      · exact .inr ⟨b, o, rfl, hz, fun i y hy => ⟨hc i y hy 0 (by omega), hc i y hy 1 (by omega), hc i y hy 2 (by omega), hc i y hy 3 (by omega)⟩⟩
  obtain ⟨n0, rfl⟩ := okWide_int Tryz.underlying3 (hval 1 3 v1 rfl rfl)
  clear hb ht
  have hlaw : Calls Tryz.prog 7 #[(Book.mk lb wk lt).val pb pt capb capt, .int .i64 n0] W fun e C => e = .returned (.bool true) ∧ Kept W C := by
    cases hok : (Book.mk lb wk lt).okB with
    | false => exact lwrong_bad pb pt capb capt _ n0 W hBook hN hok
    | true => exact lwrong_ok pb pt capb capt _ n0 W hBook hN hok
  refine hlaw.mono fun e W' ⟨he, hk⟩ => ?_
  subst he
  exact ⟨_, rfl, _, _, _, [], _, [], hW', trodAll_mk1 (shut_bool Tryz.underlying4 true), ⟨_, _, a0 W' hk, ⟨_, _, a1 W' hk, rfl, rfl⟩, rfl⟩, rfl, kept_but hk _, fun h => by cases h⟩

theorem voiceWrong_holds : Rows.VoiceWrongSaid :=
  OpenClaim.holds_of_wide 7 Tryz.f7 rfl rfl rfl rfl rfl rfl rfl ⟨rfl, rfl, rfl, rfl, rfl⟩ rfl rfl rfl rfl rfl (by kernel_rfl) Tryz.func7 (by kernel_rfl)
    (of_decide_eq_true (by kernel_rfl)) (by unfold Func.isWrapper; first | (rw [if_pos (by decide +kernel)]; kernel_rfl) | (rw [if_neg (by decide +kernel)]; exact ⟨rfl, rfl⟩))
    (fun os started H enc _ => vlifted os started H enc)

theorem vsi0 : Tryz.prog.wantsStandIn 25 = false := by kernel_rfl
theorem vsi1 : Tryz.prog.wantsStandIn 3 = false := by kernel_rfl
theorem voiceWrong_card_holds : Rows.VoiceWrongCardSaid :=
  Claim7.holds_tied_plain_at .later [] [.data, .data] true (true, "f28e2bda9485534d51c83fa0668e86bd81bb051336e667892effb8ffe0d315a3") false
    voiceWrong_holds (fun _ h => by cases h) (by kernel_rfl) (fun _ h => by cases h) voiceWrong_row_tie rfl ⟨rfl, rfl⟩ (by kernel_rfl) rfl
    (fun f fn hf hfn => by
      obtain rfl : f = 7 := Option.some.inj ((show Tryz.prog.funcNamed "decani/decanilaw02.VoiceWrong" = some 7 by kernel_rfl).symm.trans hf) |>.symm
      obtain rfl : fn = Tryz.f7 := (Option.some.inj (Tryz.func7.symm.trans hfn)).symm
      exact ⟨by kernel_rfl, fun j t ht => by
        rw [Tryz.params7] at ht
        match j, ht with
        | 0, ht => simp at ht; subst ht; exact vsi0
        | 1, ht => simp at ht; subst ht; exact vsi1
        | n + 2, ht => simp at ht⟩)
    (by kernel_rfl)
#print axioms voiceWrong_card_holds
end Go.Proofs.YtcgihkaglonnaaaGreatDoor
