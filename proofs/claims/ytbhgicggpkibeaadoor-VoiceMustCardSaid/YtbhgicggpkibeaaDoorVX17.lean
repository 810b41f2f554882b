import Derived.Test.YtbhgicggpkibeaaDoorVX16
set_option linter.all false
set_option linter.all false
namespace Go.Proofs.YtbhgicggpkibeaaDoor
open Go.RowKit Go.Sort Go.Rg
set_option maxRecDepth 100000

theorem must1_any (c : Choir) (boy : Nat) (wk : Int) (n0 n1 n2 n3 n4 : Int) (bw : Nat) (A : World) (h : A.cell? ⟨bw, 0, none⟩ = some (.int .i64 wk)) :
    Calls Tryd.prog 51 #[encT c boy [n0, n1, n2, n3, n4], .pointer (some ⟨bw, 0, none⟩)] A fun e C => e = .returned (.bool (decide (n4 ≤ wk))) ∧ Kept A C := by
  simp only [encT, List.map_cons, List.map_nil, List.append_toArray, List.cons_append, List.nil_append, Choir.k0, Choir.k2, Choir.m]
  have hz := Go.Ai.lt_of_cell h
  go_enter Tryd.func51, Tryd.ntmps51
  go_wp2_with (go_at_call 52; refine (isBroken_any _ _ _ _ _ _ _ _ _ _ _ _).mono ?_; rintro e w' ⟨rfl, hk⟩)
  refine bodyPost_ret (by simp [results, Tryd.results51, go_sem]) rfl ⟨rfl, kept_trans (kept_alloc (kept_refl _) _) hk⟩
def brokenB (wk : Int) (n : List Int) : Bool := decide (n.getD 4 0 ≤ wk)
theorem must_asks (c : Choir) (boy : Nat) (wk : Int) (x : Boy) (bw : Nat) (W : World) (h : W.cell? ⟨bw, 0, none⟩ = some (.int .i64 wk)) :
    Asks c boy x W 51 #[.pointer (some ⟨bw, 0, none⟩)] (brokenB wk) :=
  ⟨enters_of Tryd.func51 (by kernel_rfl) rfl, fun A n hA hn => by
    obtain ⟨n0, n1, n2, n3, n4, rfl⟩ := truths_len hn
    exact must1_any c boy wk n0 n1 n2 n3 n4 bw A (kcell hA h)⟩

/-- all boys of whom something surely is so, or the error of trials that cannot all be right -/
def SureP (B : Book) (sb : Nat → List Int → Bool) (W : World) (e : Ending) (C : World) : Prop :=
  ∃ v err, e = .returned (.tuple #[v, .int .i64 err]) ∧ Kept W C ∧
    ((err = 0 ∧ Can B ∧ C.ownsRow W.heap.size 3 1 v (surelyL B sb B.boys.length).length (intsV (surelyL B sb B.boys.length))) ∨ (err = 22 ∧ ¬ Can B ∧ v = .slice none 0 0))

set_option maxHeartbeats 4000000 in
theorem must_any (p q : Option Addr) (cap capt : Nat) (B : Book) (week : Int) (W : World) (h : BookAt W p q cap capt B) (hg : Nothing W) (hok0 : B.okB = true) (hwk0 : 0 ≤ week ∧ week < B.weeks) :
    Calls Tryd.prog 8 #[B.val p q cap capt, .int .i64 week] W (SureP B (fun _ => brokenB week) W) := by
  have hwk : 0 ≤ B.weeks ∧ B.weeks ≤ 1000 := by
    have := hok0
    simp only [Book.okB, inB, Bool.and_eq_true, decide_eq_true_eq] at this
    omega
  have hweekT : inB week 0 (B.weeks - 1) = true := by simp [inB]; omega
  refine callsIn_wide.1 (callsIn_of_wp (n := 0) Tryd.func8 rfl trivial ?_ rfl)
  simp only [Tryd.ntmps8, List.size_toArray, List.length_cons, List.length_nil, Nat.reduceAdd, Nat.reduceSub, Array.replicate_succ, Array.replicate_zero, List.push_toArray, List.append_toArray, List.nil_append, List.cons_append]
  unfold Book.val
  gi_wp2_with fail
  have hk0 : Kept W ((W.alloc (Obj.cells #[.slice p B.boys.length cap, .int .i64 B.weeks, .slice q B.trials.length capt] 25)).alloc (Obj.cells #[.int .i64 week] 3)) := kept_alloc (kept_alloc (kept_refl _) _) _
  have a0c : ((W.alloc (Obj.cells #[.slice p B.boys.length cap, .int .i64 B.weeks, .slice q B.trials.length capt] 25)).alloc (Obj.cells #[.int .i64 week] 3)).cell? ⟨W.heap.size, 0, none⟩ = some (.slice p B.boys.length cap) := by go_simp
  have a1c : ((W.alloc (Obj.cells #[.slice p B.boys.length cap, .int .i64 B.weeks, .slice q B.trials.length capt] 25)).alloc (Obj.cells #[.int .i64 week] 3)).cell? ⟨W.heap.size, 1, none⟩ = some (.int .i64 B.weeks) := by go_simp
  have a2c : ((W.alloc (Obj.cells #[.slice p B.boys.length cap, .int .i64 B.weeks, .slice q B.trials.length capt] 25)).alloc (Obj.cells #[.int .i64 week] 3)).cell? ⟨W.heap.size, 2, none⟩ = some (.slice q B.trials.length capt) := by go_simp
  have wc : ((W.alloc (Obj.cells #[.slice p B.boys.length cap, .int .i64 B.weeks, .slice q B.trials.length capt] 25)).alloc (Obj.cells #[.int .i64 week] 3)).cell? ⟨W.heap.size + 1, 0, none⟩ = some (.int .i64 week) := by go_simp
  generalize ((W.alloc (Obj.cells #[.slice p B.boys.length cap, .int .i64 B.weeks, .slice q B.trials.length capt] 25)).alloc (Obj.cells #[.int .i64 week] 3)) = W0 at *
  refine wpIn_region_invL (StO 4 (fun j => match j with | 0 => (.agg #[.slice p B.boys.length cap, .int .i64 B.weeks, .slice q B.trials.length capt]) | 1 => (.agg #[.slice p B.boys.length cap, .int .i64 B.weeks, .slice q B.trials.length capt]) | 2 => .int .i64 week | _ => .bool true) W0 B) (by kernel_rfl) (by kernel_rfl) StO.start ?hop ?hend
  case hop =>
    rintro i o listed a w hl ho h1 h2 hcl ⟨v, err, pp, ha, hw⟩
    have hi11 : i < 11 := (List.getElem?_eq_some_iff.1 ho).1
    match i, ho with
    | 0, ho =>
      have st := StO.same (by kernel_rfl) ha hw ho h1 (by omega) (by omega) (by omega) (kept_refl w)
      have ST := Lib.hid st; clear st
      cases ho
      rw [if_pos (by rfl)]
      have t2 := ha.old 2 (by kernel_rfl)
      simp at t2
      have r0 := kcell hw.kept a0c
      have r1 := kcell hw.kept a1c
      have r2 := kcell hw.kept a2c
      go_simp
      exact ST.out
    | 1, ho =>
      have st := StO.same (by kernel_rfl) ha hw ho h1 (by omega) (by omega) (by omega) (kept_refl w)
      have ST := Lib.hid st; clear st
      cases ho
      rw [if_pos (by rfl)]
      have t2 := ha.old 2 (by kernel_rfl)
      simp at t2
      have r0 := kcell hw.kept a0c
      have r1 := kcell hw.kept a1c
      have r2 := kcell hw.kept a2c
      go_simp
      exact ST.out
    | 2, ho =>
      have st := StO.same (by kernel_rfl) ha hw ho h1 (by omega) (by omega) (by omega) (kept_refl w)
      have ST := Lib.hid st; clear st
      cases ho
      rw [if_pos (by rfl)]
      have t3 := ha.old 3 (by kernel_rfl)
      simp at t3
      have rw0 := kcell hw.kept wc
      go_simp
      exact ST.out
    | 3, ho =>
      have st := fun w' (k : Kept w w') => StO.same (by kernel_rfl) ha hw ho h1 (by omega) (by omega) (by omega) k
      have ST := Lib.hid st; clear st
      cases ho
      rw [if_pos (by rfl)]
      have t10 := ha.new 1 (h2 ⟨1, .data⟩ (by simp) rfl) (d := 10) rfl rfl (by simp)
      simp [openVs] at t10
      have t11 := ha.new 2 (h2 ⟨2, .data⟩ (by simp) rfl) (d := 11) rfl rfl (by simp)
      simp [openVs] at t11
      have hcall := isWeek_any (.slice p B.boys.length cap) (.slice q B.trials.length capt) B.weeks week w hwk.1 hwk.2
      rw [hweekT] at hcall
      go_simp
      refine ⟨trivial, rfl, (callsIn_wide.2 hcall).mono ?_⟩
      rintro e w' ⟨rfl, hk⟩
      exact ST.out _ hk
    | 4, ho =>
      obtain ⟨n5, n6, n7, n9, n10⟩ := open_first hcl h1 ⟨_, rfl, ⟨4, .data⟩, by simp, rfl, rfl⟩ ⟨_, rfl, ⟨5, .data⟩, by simp, rfl, rfl⟩ ⟨_, rfl, ⟨5, .data⟩, by simp, rfl, rfl⟩ ⟨_, rfl, ⟨6, .data⟩, by simp, rfl, rfl⟩ ⟨_, rfl, ⟨7, .data⟩, by simp, rfl, rfl⟩
      have st := fun v' err' w' (k : OpenReg W0 B true v' err' pp true (on listed 8) (on listed 9) w') => StO.opened (by kernel_rfl) ha hl ho h1 n5 n6 n7 n9 n10 k
      have ST := Lib.hid st; clear st
      cases ho
      rw [if_pos (by rfl)]
      have t9 := ha.new 0 (h2 ⟨0, .data⟩ (by simp) rfl) (d := 9) rfl rfl (by simp)
      simp [openVs] at t9
      have t12 := ha.new 3 (h2 ⟨3, .data⟩ (by simp) rfl) (d := 12) rfl rfl (by simp)
      simp [openVs] at t12
      have hcall := open_any p q cap capt B true W w h (kept_trans hk0 hw.kept) (hg.kept (kept_trans hk0 hw.kept))
      unfold Book.val at hcall
      have HOP := Lib.hid (fun e w' => hw.opened (e := e) (w' := w') W.heap.size hk0.size n9)
      go_simp
      refine ⟨trivial, rfl, (callsIn_wide.2 hcall).mono ?_⟩
      intro e w' hop
      obtain ⟨v', err', rfl, hr⟩ := HOP.out e w' hop
      exact ST.out v' err' w' hr
    | 5, ho =>
      have st := StO.same (by kernel_rfl) ha hw ho h1 (by omega) (by omega) (by omega) (kept_refl w)
      have ST := Lib.hid st; clear st
      cases ho
      rw [if_pos (by rfl)]
      have t13 := ha.new 4 (h2 ⟨4, .data⟩ (by simp) rfl) (d := 13) rfl rfl (by simp)
      simp [openVs] at t13
      go_simp
      exact ST.out
    | 6, ho =>
      have st := StO.same (by kernel_rfl) ha hw ho h1 (by omega) (by omega) (by omega) (kept_refl w)
      have ST := Lib.hid st; clear st
      cases ho
      rw [if_pos (by rfl)]
      have t8 := ha.new 5 (h2 ⟨5, .data⟩ (by simp) rfl) (d := 8) rfl rfl (by simp)
      simp [openVs] at t8
      go_simp
      exact ST.out
    | 7, ho =>
      have st := StO.same (by kernel_rfl) ha hw ho h1 (by omega) (by omega) (by omega) (kept_refl w)
      have ST := Lib.hid st; clear st
      cases ho
      rw [if_pos (by rfl)]
      have t8 := ha.new 5 (h2 ⟨5, .data⟩ (by simp) rfl) (d := 8) rfl rfl (by simp)
      simp [openVs] at t8
      go_simp
      exact ST.out
    | 8, ho =>
      have n9 : on listed 9 = false := by
        cases hb : on listed 9 with
        | false => rfl
        | true => have := hcl 9 _ rfl hb ⟨8, .data⟩ (by simp) rfl; rw [on_no h1] at this; cases this
      have st := StO.boxed (by kernel_rfl) ha hw hl ho h1 n9
      have ST := Lib.hid st; clear st
      cases ho
      rw [if_pos (by rfl)]
      go_simp
      exact ST.out
    | 9, ho =>
      have y8 : on listed 8 = true := h2 ⟨8, .data⟩ (by cases ho; simp) rfl
      have y4 : on listed 4 = true := h2 ⟨4, .chain⟩ (by cases ho; simp) rfl
      have t6 := ha.new 8 y8 (d := 6) rfl rfl (by simp)
      simp [openVs] at t6
      have t14 := ha.new 6 (h2 ⟨6, .data⟩ (by cases ho; simp) rfl) (d := 14) rfl rfl (by simp)
      simp [openVs] at t14
      obtain ⟨hbp, ⟨f0, f1, f2, f3, b0, b1, b2, b3⟩, hbf⟩ := hw.box y8
      have bf0 := hbf 0
      have bf1 := hbf 1
      have bf2 := hbf 2
      have bf3 := hbf 3
      rcases hw.res y4 with ⟨_, _, _, _, c, S, hcB, rfl, _⟩ | ⟨rfl, _⟩
      · clear hcB
        have st := StO.stored (by kernel_rfl) ha hw hl ho (by cases ho; rfl) h1 y8 (show c.val = _ from rfl)
        have ST := Lib.hid st; clear st
        cases ho
        rw [if_pos (by rfl)]
        unfold Choir.val at t14
        clear hbf
        go_simp
        exact ST.out
      · have st := StO.stored (by kernel_rfl) ha hw hl ho (by cases ho; rfl) h1 y8 (show zeroChoir = _ from rfl)
        have ST := Lib.hid st; clear st
        cases ho
        rw [if_pos (by rfl)]
        unfold zeroChoir at t14
        clear hbf
        go_simp
        exact ST.out
    | 10, ho =>
      have st := StO.same (by kernel_rfl) ha hw ho h1 (by omega) (by omega) (by omega) (kept_refl w)
      have ST := Lib.hid st; clear st
      cases ho
      rw [if_pos (by rfl)]
      have t15 := ha.new 7 (h2 ⟨7, .data⟩ (by simp) rfl) (d := 15) rfl rfl (by simp)
      simp [openVs] at t15
      go_simp
      exact ST.out

  case hend =>
    rintro listed a w hall ⟨v, err, pp, ha, hw⟩
    rw [show on listed 4 = true from hall 4 (by simp), show on listed 8 = true from hall 8 (by simp), show on listed 9 = true from hall 9 (by simp)] at hw
    obtain ⟨y, hy, hae⟩ := ha.lit (n := 22) rfl
    have y3 := (hy 3).symm.trans (ha.old 3 (by kernel_rfl))
    have y4 := (hy 4).symm.trans (ha.old 4 (by kernel_rfl))
    have y5 := (hy 5).symm.trans (ha.old 5 (by kernel_rfl))
    have y6 := (hy 6).symm.trans (ha.new 8 (hall 8 (by simp)) (d := 6) rfl rfl (by simp))
    have y7 := (hy 7).symm.trans (ha.new 10 (hall 10 (by simp)) (d := 7) rfl rfl (by simp))
    simp at y3 y4 y5
    simp [openVs] at y6 y7
    simp only [List.range, List.range.loop, List.map] at hae
    rw [y3, y4, y5, y6, y7] at hae
    subst hae
    clear ha hy y3 y4 y5 y6 y7
    refine (by assumption : ∀ a w, Code.wpIn _ _ _ _ _ a w → _) _ w ?_
    have wk := kcell hw.kept wc
    obtain ⟨_, x0, x1, x2, x3, hv, b0, b1, b2, b3⟩ := hw.put rfl
    rcases hw.res rfl with ⟨rfl, hok, _, hcan, c, S, hcB, hvc, hch, hSz, hSp⟩ | ⟨rfl, herr⟩
    · subst hcB
      subst hvc
      have e4 := congrArg (fun u => match u with | Value.agg cs => cs.toList | _ => []) hv
      simp only [Choir.val, List.cons.injEq, and_true] at e4
      obtain ⟨rfl, rfl, rfl, rfl⟩ := e4
      have hzp := Go.Ai.lt_of_cell b0
      have hzw := Go.Ai.lt_of_cell wk
      gi_wp2_with fail
      have hcall := surely_any S c w hch hSz _ _ (fun _ => brokenB week) (fun boy x hx => must_asks c boy week x (W.heap.size + 1) w wk)
      unfold Choir.val at hcall
      refine ⟨trivial, rfl, (callsIn_wide.2 hcall).mono ?_⟩
      rintro e w2 ⟨v, rfl, hk7, hrow⟩
      clear hcall
      gi_wp2_with fail
      refine bodyPost_ret (v := .tuple #[v, .int .i64 0]) (by simp [results, Tryd.results8, go_sem]) rfl ?_
      exact ⟨_, 0, rfl, kept_trans (kept_trans hk0 hw.kept) hk7, .inl ⟨rfl, hcan, row_le hrow (kept_trans hk0 hw.kept).size⟩⟩
    · rcases herr with ⟨_, he⟩ | ⟨_, _, he⟩ | ⟨rfl, _, _, hnc⟩
      · rw [hok0] at he; cases he
      · cases he
      gi_wp2_with fail
      refine bodyPost_ret (v := .tuple #[.slice none 0 0, .int .i64 22]) (by simp [results, Tryd.results8, go_sem]) rfl ?_
      exact ⟨_, 22, rfl, kept_trans hk0 hw.kept, .inr ⟨rfl, hnc, rfl⟩⟩
end Go.Proofs.YtbhgicggpkibeaaDoor
