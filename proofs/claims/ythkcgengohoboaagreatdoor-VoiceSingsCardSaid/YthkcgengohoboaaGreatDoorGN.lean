/- A part of the proof: contracts of the program's functions for every input. No conditions. -/
import Derived.Test.YthkcgengohoboaaGreatDoorGF
import Derived.Test.YthkcgengohoboaaGreatDoorGJ
import Derived.Test.YthkcgengohoboaaGreatDoorGK
import Derived.Test.YthkcgengohoboaaGreatDoorGL
import Derived.Test.YthkcgengohoboaaGreatDoorGM
set_option linter.all false
namespace Go.Proofs.YthkcgengohoboaaGreatDoor
open Go.RowKit Go.Sort Go.Rg
set_option maxRecDepth 100000
attribute [local go_sem] Oper.semAt_some
set_option maxHeartbeats 4000000 in
theorem sings_e2 (p q : Option Addr) (cap capt : Nat) (B : Book) (boy week note : Int) (W : World) (h : BookAt W p q cap capt B) (hg : Nothing W) (hboyT : inB boy 0 (B.boys.length - 1) = true) (hweekT : inB week 0 (wrap64 (B.weeks - 1)) = true) (hnoteT : inB note 0 40 = false) :
    Calls Tryz.prog 19 #[B.val p q cap capt, .int .i64 boy, .int .i64 week, .int .i64 note] W (ErrQ B (.int .i64 0) false W) := by
  have hnb := h.nb
  refine callsIn_wide.1 (callsIn_of_wp (n := 0) Tryz.func19 rfl trivial ?_ rfl)
  simp only [Tryz.ntmps19, List.size_toArray, List.length_cons, List.length_nil, Nat.reduceAdd, Nat.reduceSub, Array.replicate_succ, Array.replicate_zero, List.push_toArray, List.append_toArray, List.nil_append, List.cons_append]
  unfold Book.val
  gi_wp2_with fail
  obtain ⟨hk0, a0c, a1c, a2c⟩ := bk2 W p q cap capt B (Obj.cells #[.int .i64 week] 3) (Obj.cells #[.int .i64 note] 3)
  have wc : (((W.alloc (Obj.cells #[.slice p B.boys.length cap, .int .i64 B.weeks, .slice q B.trials.length capt] 25)).alloc (Obj.cells #[.int .i64 week] 3)).alloc (Obj.cells #[.int .i64 note] 3)).cell? ⟨W.heap.size + 1, 0, none⟩ = some (.int .i64 week) := by go_simp
  have nc : (((W.alloc (Obj.cells #[.slice p B.boys.length cap, .int .i64 B.weeks, .slice q B.trials.length capt] 25)).alloc (Obj.cells #[.int .i64 week] 3)).alloc (Obj.cells #[.int .i64 note] 3)).cell? ⟨W.heap.size + 1 + 1, 0, none⟩ = some (.int .i64 note) := by go_simp
  generalize (((W.alloc (Obj.cells #[.slice p B.boys.length cap, .int .i64 B.weeks, .slice q B.trials.length capt] 25)).alloc (Obj.cells #[.int .i64 week] 3)).alloc (Obj.cells #[.int .i64 note] 3)) = W0 at *
  refine wpIn_region_invL (StO 13 (fun j => match j with | 0 => (.agg #[.slice p B.boys.length cap, .int .i64 B.weeks, .slice q B.trials.length capt]) | 1 => (.agg #[.slice p B.boys.length cap, .int .i64 B.weeks, .slice q B.trials.length capt]) | 2 => .int .i64 boy | 3 => .bool true | 4 => .bool true | 5 => (.agg #[.slice p B.boys.length cap, .int .i64 B.weeks, .slice q B.trials.length capt]) | 6 => .int .i64 week | 7 => .bool true | 8 => .bool true | 9 => .bool true | 10 => .int .i64 note | 11 => .bool false | 12 => .bool false | _ => undef) W0 B false) (by kernel_rfl) (by kernel_rfl) StO.start ?hop ?hend
  case hop =>
    rintro i o listed a w hl ho h1 h2 hcl ⟨v, err, pp, ha, hw⟩
    have hi11 : i < 20 := (List.getElem?_eq_some_iff.1 ho).1
    match i, ho with
    | 0, ho =>
      have ST := StO.sm (by kernel_rfl) ha hw ho h1 (by decide)
      cases ho
      rw [if_pos (by rfl)]
      have t4 := ha.old 4 (by kernel_rfl)
      simp at t4
      have r0 := kcell hw.kept a0c
      have r1 := kcell hw.kept a1c
      have r2 := kcell hw.kept a2c
      go_simp
      exact ST.out
    | 1, ho =>
      have ST := StO.sm (by kernel_rfl) ha hw ho h1 (by decide)
      cases ho
      rw [if_pos (by rfl)]
      have t4 := ha.old 4 (by kernel_rfl)
      simp at t4
      have r0 := kcell hw.kept a0c
      have r1 := kcell hw.kept a1c
      have r2 := kcell hw.kept a2c
      go_simp
      exact ST.out
    | 2, ho =>
      have ST := StO.sm (by kernel_rfl) ha hw ho h1 (by decide)
      cases ho
      rw [if_pos (by rfl)]
      have t1 := ha.old 1 (by kernel_rfl)
      simp at t1
      go_simp
      exact ST.out
    | 3, ho =>
      have st := fun w' (k : Kept w w') => StO.same (by kernel_rfl) ha hw ho h1 (by omega) (by omega) (by omega) k
      have ST := Lib.hid st; clear st
      cases ho
      rw [if_pos (by rfl)]
      have t14 := ha.new 1 (h2 ⟨1, .data⟩ (by simp) rfl) (d := 14) rfl rfl (by simp)
      simp [openVs] at t14
      have t15 := ha.new 2 (h2 ⟨2, .data⟩ (by simp) rfl) (d := 15) rfl rfl (by simp)
      simp [openVs] at t15
      have hcall := isBoy_any p B.boys.length cap (.int .i64 B.weeks) (.slice q B.trials.length capt) boy w hnb
      rw [hboyT] at hcall
      go_simp
      refine ⟨trivial, rfl, (callsIn_wide.2 hcall).mono ?_⟩
      rintro e w' ⟨rfl, hk⟩
      exact ST.out _ hk
    | 4, ho =>
      have ST := StO.sm (by kernel_rfl) ha hw ho h1 (by decide)
      cases ho
      rw [if_pos (by rfl)]
      have t16 := ha.new 3 (h2 ⟨3, .data⟩ (by simp) rfl) (d := 16) rfl rfl (by simp)
      simp [openVs] at t16
      go_simp
      exact ST.out
    | 5, ho =>
      have ST := StO.sm (by kernel_rfl) ha hw ho h1 (by decide)
      cases ho
      have t17 := ha.new 4 (h2 ⟨4, .guard⟩ (by simp) rfl) (d := 17) rfl rfl (by simp)
      simp [openVs] at t17
      rw [if_pos (by simp [Region.wanted, yielded, getD_bool t17])]
      have t4 := ha.old 4 (by kernel_rfl)
      simp at t4
      have r0 := kcell hw.kept a0c
      have r1 := kcell hw.kept a1c
      have r2 := kcell hw.kept a2c
      go_simp
      exact ST.out
    | 6, ho =>
      have ST := StO.sm (by kernel_rfl) ha hw ho h1 (by decide)
      cases ho
      have t17 := ha.new 4 (h2 ⟨4, .guard⟩ (by simp) rfl) (d := 17) rfl rfl (by simp)
      simp [openVs] at t17
      rw [if_pos (by simp [Region.wanted, yielded, getD_bool t17])]
      have t6 := ha.old 6 (by kernel_rfl)
      simp at t6
      have rw0 := kcell hw.kept wc
      go_simp
      exact ST.out
    | 7, ho =>
      have st := fun w' (k : Kept w w') => StO.same (by kernel_rfl) ha hw ho h1 (by omega) (by omega) (by omega) k
      have ST := Lib.hid st; clear st
      cases ho
      have t17 := ha.new 4 (h2 ⟨4, .guard⟩ (by simp) rfl) (d := 17) rfl rfl (by simp)
      simp [openVs] at t17
      rw [if_pos (by simp [Region.wanted, yielded, getD_bool t17])]
      have t18 := ha.new 5 (h2 ⟨5, .data⟩ (by simp) rfl) (d := 18) rfl rfl (by simp)
      simp [openVs] at t18
      have t19 := ha.new 6 (h2 ⟨6, .data⟩ (by simp) rfl) (d := 19) rfl rfl (by simp)
      simp [openVs] at t19
      have hcall := isWeek_gen (.slice p B.boys.length cap) (.slice q B.trials.length capt) B.weeks week w
      rw [hweekT] at hcall
      go_simp
      refine ⟨trivial, rfl, (callsIn_wide.2 hcall).mono ?_⟩
      rintro e w' ⟨rfl, hk⟩
      exact ST.out _ hk
    | 8, ho =>
      have ST := StO.sm (by kernel_rfl) ha hw ho h1 (by decide)
      cases ho
      rw [if_pos (by rfl)]
      have t17 := ha.new 4 (h2 ⟨4, .data⟩ (by simp) rfl) (d := 17) rfl rfl (by simp)
      simp [openVs] at t17
      have t20 := ha.new 7 (h2 ⟨7, .data⟩ (by simp) rfl) (d := 20) rfl rfl (by simp)
      simp [openVs] at t20
      go_simp
      exact ST.out
    | 9, ho =>
      have ST := StO.sm (by kernel_rfl) ha hw ho h1 (by decide)
      cases ho
      rw [if_pos (by rfl)]
      have t21 := ha.new 8 (h2 ⟨8, .data⟩ (by simp) rfl) (d := 21) rfl rfl (by simp)
      simp [openVs] at t21
      go_simp
      exact ST.out
    | 10, ho =>
      have ST := StO.sm (by kernel_rfl) ha hw ho h1 (by decide)
      cases ho
      have t22 := ha.new 9 (h2 ⟨9, .guard⟩ (by simp) rfl) (d := 22) rfl rfl (by simp)
      simp [openVs] at t22
      rw [if_pos (by simp [Region.wanted, yielded, getD_bool t22])]
      have t7 := ha.old 7 (by kernel_rfl)
      simp at t7
      have rn0 := kcell hw.kept nc
      go_simp
      exact ST.out
    | 11, ho =>
      have st := fun w' (k : Kept w w') => StO.same (by kernel_rfl) ha hw ho h1 (by omega) (by omega) (by omega) k
      have ST := Lib.hid st; clear st
      cases ho
      have t22 := ha.new 9 (h2 ⟨9, .guard⟩ (by simp) rfl) (d := 22) rfl rfl (by simp)
      simp [openVs] at t22
      rw [if_pos (by simp [Region.wanted, yielded, getD_bool t22])]
      have t23 := ha.new 10 (h2 ⟨10, .data⟩ (by simp) rfl) (d := 23) rfl rfl (by simp)
      simp [openVs] at t23
      have hcall := isNote_any note w
      rw [hnoteT] at hcall
      go_simp
      refine ⟨trivial, rfl, (callsIn_wide.2 hcall).mono ?_⟩
      rintro e w' ⟨rfl, hk⟩
      subst hk; exact ST.out _ (kept_refl _)
    | 12, ho =>
      have ST := StO.sm (by kernel_rfl) ha hw ho h1 (by decide)
      cases ho
      rw [if_pos (by rfl)]
      have t22 := ha.new 9 (h2 ⟨9, .data⟩ (by simp) rfl) (d := 22) rfl rfl (by simp)
      simp [openVs] at t22
      have t24 := ha.new 11 (h2 ⟨11, .data⟩ (by simp) rfl) (d := 24) rfl rfl (by simp)
      simp [openVs] at t24
      go_simp
      exact ST.out
    | 13, ho =>
      obtain ⟨n5, n6, n7, n9, n10⟩ := open_first hcl h1 ⟨_, rfl, ⟨13, .data⟩, by simp, rfl, rfl⟩ ⟨_, rfl, ⟨14, .data⟩, by simp, rfl, rfl⟩ ⟨_, rfl, ⟨14, .data⟩, by simp, rfl, rfl⟩ ⟨_, rfl, ⟨15, .data⟩, by simp, rfl, rfl⟩ ⟨_, rfl, ⟨16, .data⟩, by simp, rfl, rfl⟩
      have st := fun v' err' w' (k : OpenReg W0 B false v' err' pp true (on listed 17) (on listed 18) w') => StO.opened (by kernel_rfl) ha hl ho h1 n5 n6 n7 n9 n10 k
      have ST := Lib.hid st; clear st
      cases ho
      rw [if_pos (by rfl)]
      have t13 := ha.new 0 (h2 ⟨0, .data⟩ (by simp) rfl) (d := 13) rfl rfl (by simp)
      simp [openVs] at t13
      have t25 := ha.new 12 (h2 ⟨12, .data⟩ (by simp) rfl) (d := 25) rfl rfl (by simp)
      simp [openVs] at t25
      have hcall := open_any p q cap capt B false W w h (kept_trans hk0 hw.kept) (hg.kept (kept_trans hk0 hw.kept))
      unfold Book.val at hcall
      have HOP := Lib.hid (fun e w' => hw.opened (e := e) (w' := w') W.heap.size hk0.size n9)
      go_simp
      refine ⟨trivial, rfl, (callsIn_wide.2 hcall).mono ?_⟩
      intro e w' hop
      obtain ⟨v', err', rfl, hr⟩ := HOP.out e w' hop
      exact ST.out v' err' w' hr
    | 14, ho =>
      have ST := StO.sm (by kernel_rfl) ha hw ho h1 (by decide)
      cases ho
      rw [if_pos (by rfl)]
      have t26 := ha.new 13 (h2 ⟨13, .data⟩ (by simp) rfl) (d := 26) rfl rfl (by simp)
      simp [openVs] at t26
      go_simp
      exact ST.out
    | 15, ho =>
      have ST := StO.sm (by kernel_rfl) ha hw ho h1 (by decide)
      cases ho
      rw [if_pos (by rfl)]
      have t12 := ha.new 14 (h2 ⟨14, .data⟩ (by simp) rfl) (d := 12) rfl rfl (by simp)
      simp [openVs] at t12
      go_simp
      exact ST.out
    | 16, ho =>
      have ST := StO.sm (by kernel_rfl) ha hw ho h1 (by decide)
      cases ho
      rw [if_pos (by rfl)]
      have t12 := ha.new 14 (h2 ⟨14, .data⟩ (by simp) rfl) (d := 12) rfl rfl (by simp)
      simp [openVs] at t12
      go_simp
      exact ST.out
    | 17, ho =>
      have n9 : on listed 18 = false := by
        cases hb : on listed 18 with
        | false => rfl
        | true => have := hcl 18 _ rfl hb ⟨17, .data⟩ (by simp) rfl; rw [on_no h1] at this; cases this
      have st := StO.boxed (by kernel_rfl) ha hw hl ho h1 n9
      have ST := Lib.hid st; clear st
      cases ho
      rw [if_pos (by rfl)]
      go_simp
      exact ST.out
    | 18, ho =>
      have y8 : on listed 17 = true := h2 ⟨17, .data⟩ (by cases ho; simp) rfl
      have y4 : on listed 13 = true := h2 ⟨13, .chain⟩ (by cases ho; simp) rfl
      have t10 := ha.new 17 y8 (d := 10) rfl rfl (by simp)
      simp [openVs] at t10
      have t27 := ha.new 15 (h2 ⟨15, .data⟩ (by cases ho; simp) rfl) (d := 27) rfl rfl (by simp)
      simp [openVs] at t27
      obtain ⟨hbp, ⟨f0, f1, f2, f3, b0, b1, b2, b3⟩, hbf⟩ := hw.box y8
      have bf0 := hbf 0
      have bf1 := hbf 1
      have bf2 := hbf 2
      have bf3 := hbf 3
      rcases hw.res y4 with ⟨_, _, he, _⟩ | ⟨rfl, _⟩
      · cases he
      · have st := StO.stored (by kernel_rfl) ha hw hl ho (by cases ho; rfl) h1 y8 (show zeroChoir = _ from rfl)
        have ST := Lib.hid st; clear st
        cases ho
        rw [if_pos (by rfl)]
        unfold zeroChoir at t27
        clear hbf
        go_simp
        exact ST.out
    | 19, ho =>
      have ST := StO.sm (by kernel_rfl) ha hw ho h1 (by decide)
      cases ho
      rw [if_pos (by rfl)]
      have t28 := ha.new 16 (h2 ⟨16, .data⟩ (by simp) rfl) (d := 28) rfl rfl (by simp)
      simp [openVs] at t28
      go_simp
      exact ST.out
  case hend =>
    rintro listed a w hall ⟨v, err, pp, ha, hw⟩
    rw [show on listed 13 = true from hall 13 (by simp), show on listed 17 = true from hall 17 (by simp), show on listed 18 = true from hall 18 (by simp)] at hw
    obtain ⟨y, hy, hae⟩ := ha.lit (n := 36) rfl
    have y1 := (hy 1).symm.trans (ha.old 1 (by kernel_rfl))
    have y6 := (hy 6).symm.trans (ha.old 6 (by kernel_rfl))
    have y7 := (hy 7).symm.trans (ha.old 7 (by kernel_rfl))
    have y8 := (hy 8).symm.trans (ha.old 8 (by kernel_rfl))
    have y9 := (hy 9).symm.trans (ha.old 9 (by kernel_rfl))
    have y10 := (hy 10).symm.trans (ha.new 17 (hall 17 (by simp)) (d := 10) rfl rfl (by simp))
    have y11 := (hy 11).symm.trans (ha.new 19 (hall 19 (by simp)) (d := 11) rfl rfl (by simp))
    simp at y1 y6 y7 y8 y9
    simp [openVs] at y10 y11
    simp only [List.range, List.range.loop, List.map] at hae
    rw [y1, y6, y7, y8, y9, y10, y11] at hae
    subst hae
    clear ha hy y1 y6 y7 y8 y9 y10 y11
    refine (by assumption : ∀ a w, Code.wpIn _ _ _ _ _ a w → _) _ w ?_
    have wk := kcell hw.kept wc
    have wn := kcell hw.kept nc
    obtain ⟨_, x0, x1, x2, x3, hv, b0, b1, b2, b3⟩ := hw.put rfl
    rcases hw.res rfl with ⟨_, _, he, _⟩ | ⟨rfl, herr⟩
    · cases he
    · rcases herr with ⟨rfl, he⟩ | ⟨rfl, he, he2⟩ | ⟨_, _, he, _⟩
      · 
        gi_wp2_with fail
        refine bodyPost_ret (v := .tuple #[.int .i64 0, .int .i64 20]) (by simp [results, Tryz.results19, go_sem]) rfl ?_
        refine ⟨20, rfl, ?_, .inl ⟨rfl, he⟩⟩
        exact kept_trans hk0 hw.kept
      · 
        gi_wp2_with fail
        refine bodyPost_ret (v := .tuple #[.int .i64 0, .int .i64 21]) (by simp [results, Tryz.results19, go_sem]) rfl ?_
        refine ⟨21, rfl, ?_, .inr ⟨rfl, he, rfl⟩⟩
        exact kept_trans hk0 hw.kept
      · cases he
set_option maxHeartbeats 4000000 in
theorem sings_e3 (p q : Option Addr) (cap capt : Nat) (B : Book) (boy week note : Int) (W : World) (h : BookAt W p q cap capt B) (hg : Nothing W) (hboyT : inB boy 0 (B.boys.length - 1) = true) (hweekT : inB week 0 (wrap64 (B.weeks - 1)) = true) (hnoteT : inB note 0 40 = true) (hok0 : B.okB = false) :
    Calls Tryz.prog 19 #[B.val p q cap capt, .int .i64 boy, .int .i64 week, .int .i64 note] W (ErrQ B (.int .i64 0) true W) := by
  have hnb := h.nb
  refine callsIn_wide.1 (callsIn_of_wp (n := 0) Tryz.func19 rfl trivial ?_ rfl)
  simp only [Tryz.ntmps19, List.size_toArray, List.length_cons, List.length_nil, Nat.reduceAdd, Nat.reduceSub, Array.replicate_succ, Array.replicate_zero, List.push_toArray, List.append_toArray, List.nil_append, List.cons_append]
  unfold Book.val
  gi_wp2_with fail
  obtain ⟨hk0, a0c, a1c, a2c⟩ := bk2 W p q cap capt B (Obj.cells #[.int .i64 week] 3) (Obj.cells #[.int .i64 note] 3)
  have wc : (((W.alloc (Obj.cells #[.slice p B.boys.length cap, .int .i64 B.weeks, .slice q B.trials.length capt] 25)).alloc (Obj.cells #[.int .i64 week] 3)).alloc (Obj.cells #[.int .i64 note] 3)).cell? ⟨W.heap.size + 1, 0, none⟩ = some (.int .i64 week) := by go_simp
  have nc : (((W.alloc (Obj.cells #[.slice p B.boys.length cap, .int .i64 B.weeks, .slice q B.trials.length capt] 25)).alloc (Obj.cells #[.int .i64 week] 3)).alloc (Obj.cells #[.int .i64 note] 3)).cell? ⟨W.heap.size + 1 + 1, 0, none⟩ = some (.int .i64 note) := by go_simp
  generalize (((W.alloc (Obj.cells #[.slice p B.boys.length cap, .int .i64 B.weeks, .slice q B.trials.length capt] 25)).alloc (Obj.cells #[.int .i64 week] 3)).alloc (Obj.cells #[.int .i64 note] 3)) = W0 at *
  refine wpIn_region_invL (StO 13 (fun j => match j with | 0 => (.agg #[.slice p B.boys.length cap, .int .i64 B.weeks, .slice q B.trials.length capt]) | 1 => (.agg #[.slice p B.boys.length cap, .int .i64 B.weeks, .slice q B.trials.length capt]) | 2 => .int .i64 boy | 3 => .bool true | 4 => .bool true | 5 => (.agg #[.slice p B.boys.length cap, .int .i64 B.weeks, .slice q B.trials.length capt]) | 6 => .int .i64 week | 7 => .bool true | 8 => .bool true | 9 => .bool true | 10 => .int .i64 note | 11 => .bool true | 12 => .bool true | _ => undef) W0 B true) (by kernel_rfl) (by kernel_rfl) StO.start ?hop ?hend
  case hop =>
    rintro i o listed a w hl ho h1 h2 hcl ⟨v, err, pp, ha, hw⟩
    have hi11 : i < 20 := (List.getElem?_eq_some_iff.1 ho).1
    match i, ho with
    | 0, ho =>
      have ST := StO.sm (by kernel_rfl) ha hw ho h1 (by decide)
      cases ho
      rw [if_pos (by rfl)]
      have t4 := ha.old 4 (by kernel_rfl)
      simp at t4
      have r0 := kcell hw.kept a0c
      have r1 := kcell hw.kept a1c
      have r2 := kcell hw.kept a2c
      go_simp
      exact ST.out
    | 1, ho =>
      have ST := StO.sm (by kernel_rfl) ha hw ho h1 (by decide)
      cases ho
      rw [if_pos (by rfl)]
      have t4 := ha.old 4 (by kernel_rfl)
      simp at t4
      have r0 := kcell hw.kept a0c
      have r1 := kcell hw.kept a1c
      have r2 := kcell hw.kept a2c
      go_simp
      exact ST.out
    | 2, ho =>
      have ST := StO.sm (by kernel_rfl) ha hw ho h1 (by decide)
      cases ho
      rw [if_pos (by rfl)]
      have t1 := ha.old 1 (by kernel_rfl)
      simp at t1
      go_simp
      exact ST.out
    | 3, ho =>
      have st := fun w' (k : Kept w w') => StO.same (by kernel_rfl) ha hw ho h1 (by omega) (by omega) (by omega) k
      have ST := Lib.hid st; clear st
      cases ho
      rw [if_pos (by rfl)]
      have t14 := ha.new 1 (h2 ⟨1, .data⟩ (by simp) rfl) (d := 14) rfl rfl (by simp)
      simp [openVs] at t14
      have t15 := ha.new 2 (h2 ⟨2, .data⟩ (by simp) rfl) (d := 15) rfl rfl (by simp)
      simp [openVs] at t15
      have hcall := isBoy_any p B.boys.length cap (.int .i64 B.weeks) (.slice q B.trials.length capt) boy w hnb
      rw [hboyT] at hcall
      go_simp
      refine ⟨trivial, rfl, (callsIn_wide.2 hcall).mono ?_⟩
      rintro e w' ⟨rfl, hk⟩
      exact ST.out _ hk
    | 4, ho =>
      have ST := StO.sm (by kernel_rfl) ha hw ho h1 (by decide)
      cases ho
      rw [if_pos (by rfl)]
      have t16 := ha.new 3 (h2 ⟨3, .data⟩ (by simp) rfl) (d := 16) rfl rfl (by simp)
      simp [openVs] at t16
      go_simp
      exact ST.out
    | 5, ho =>
      have ST := StO.sm (by kernel_rfl) ha hw ho h1 (by decide)
      cases ho
      have t17 := ha.new 4 (h2 ⟨4, .guard⟩ (by simp) rfl) (d := 17) rfl rfl (by simp)
      simp [openVs] at t17
      rw [if_pos (by simp [Region.wanted, yielded, getD_bool t17])]
      have t4 := ha.old 4 (by kernel_rfl)
      simp at t4
      have r0 := kcell hw.kept a0c
      have r1 := kcell hw.kept a1c
      have r2 := kcell hw.kept a2c
      go_simp
      exact ST.out
    | 6, ho =>
      have ST := StO.sm (by kernel_rfl) ha hw ho h1 (by decide)
      cases ho
      have t17 := ha.new 4 (h2 ⟨4, .guard⟩ (by simp) rfl) (d := 17) rfl rfl (by simp)
      simp [openVs] at t17
      rw [if_pos (by simp [Region.wanted, yielded, getD_bool t17])]
      have t6 := ha.old 6 (by kernel_rfl)
      simp at t6
      have rw0 := kcell hw.kept wc
      go_simp
      exact ST.out
    | 7, ho =>
      have st := fun w' (k : Kept w w') => StO.same (by kernel_rfl) ha hw ho h1 (by omega) (by omega) (by omega) k
      have ST := Lib.hid st; clear st
      cases ho
      have t17 := ha.new 4 (h2 ⟨4, .guard⟩ (by simp) rfl) (d := 17) rfl rfl (by simp)
      simp [openVs] at t17
      rw [if_pos (by simp [Region.wanted, yielded, getD_bool t17])]
      have t18 := ha.new 5 (h2 ⟨5, .data⟩ (by simp) rfl) (d := 18) rfl rfl (by simp)
      simp [openVs] at t18
      have t19 := ha.new 6 (h2 ⟨6, .data⟩ (by simp) rfl) (d := 19) rfl rfl (by simp)
      simp [openVs] at t19
      have hcall := isWeek_gen (.slice p B.boys.length cap) (.slice q B.trials.length capt) B.weeks week w
      rw [hweekT] at hcall
      go_simp
      refine ⟨trivial, rfl, (callsIn_wide.2 hcall).mono ?_⟩
      rintro e w' ⟨rfl, hk⟩
      exact ST.out _ hk
    | 8, ho =>
      have ST := StO.sm (by kernel_rfl) ha hw ho h1 (by decide)
      cases ho
      rw [if_pos (by rfl)]
      have t17 := ha.new 4 (h2 ⟨4, .data⟩ (by simp) rfl) (d := 17) rfl rfl (by simp)
      simp [openVs] at t17
      have t20 := ha.new 7 (h2 ⟨7, .data⟩ (by simp) rfl) (d := 20) rfl rfl (by simp)
      simp [openVs] at t20
      go_simp
      exact ST.out
    | 9, ho =>
      have ST := StO.sm (by kernel_rfl) ha hw ho h1 (by decide)
      cases ho
      rw [if_pos (by rfl)]
      have t21 := ha.new 8 (h2 ⟨8, .data⟩ (by simp) rfl) (d := 21) rfl rfl (by simp)
      simp [openVs] at t21
      go_simp
      exact ST.out
    | 10, ho =>
      have ST := StO.sm (by kernel_rfl) ha hw ho h1 (by decide)
      cases ho
      have t22 := ha.new 9 (h2 ⟨9, .guard⟩ (by simp) rfl) (d := 22) rfl rfl (by simp)
      simp [openVs] at t22
      rw [if_pos (by simp [Region.wanted, yielded, getD_bool t22])]
      have t7 := ha.old 7 (by kernel_rfl)
      simp at t7
      have rn0 := kcell hw.kept nc
      go_simp
      exact ST.out
    | 11, ho =>
      have st := fun w' (k : Kept w w') => StO.same (by kernel_rfl) ha hw ho h1 (by omega) (by omega) (by omega) k
      have ST := Lib.hid st; clear st
      cases ho
      have t22 := ha.new 9 (h2 ⟨9, .guard⟩ (by simp) rfl) (d := 22) rfl rfl (by simp)
      simp [openVs] at t22
      rw [if_pos (by simp [Region.wanted, yielded, getD_bool t22])]
      have t23 := ha.new 10 (h2 ⟨10, .data⟩ (by simp) rfl) (d := 23) rfl rfl (by simp)
      simp [openVs] at t23
      have hcall := isNote_any note w
      rw [hnoteT] at hcall
      go_simp
      refine ⟨trivial, rfl, (callsIn_wide.2 hcall).mono ?_⟩
      rintro e w' ⟨rfl, hk⟩
      subst hk; exact ST.out _ (kept_refl _)
    | 12, ho =>
      have ST := StO.sm (by kernel_rfl) ha hw ho h1 (by decide)
      cases ho
      rw [if_pos (by rfl)]
      have t22 := ha.new 9 (h2 ⟨9, .data⟩ (by simp) rfl) (d := 22) rfl rfl (by simp)
      simp [openVs] at t22
      have t24 := ha.new 11 (h2 ⟨11, .data⟩ (by simp) rfl) (d := 24) rfl rfl (by simp)
      simp [openVs] at t24
      go_simp
      exact ST.out
    | 13, ho =>
      obtain ⟨n5, n6, n7, n9, n10⟩ := open_first hcl h1 ⟨_, rfl, ⟨13, .data⟩, by simp, rfl, rfl⟩ ⟨_, rfl, ⟨14, .data⟩, by simp, rfl, rfl⟩ ⟨_, rfl, ⟨14, .data⟩, by simp, rfl, rfl⟩ ⟨_, rfl, ⟨15, .data⟩, by simp, rfl, rfl⟩ ⟨_, rfl, ⟨16, .data⟩, by simp, rfl, rfl⟩
      have st := fun v' err' w' (k : OpenReg W0 B true v' err' pp true (on listed 17) (on listed 18) w') => StO.opened (by kernel_rfl) ha hl ho h1 n5 n6 n7 n9 n10 k
      have ST := Lib.hid st; clear st
      cases ho
      rw [if_pos (by rfl)]
      have t13 := ha.new 0 (h2 ⟨0, .data⟩ (by simp) rfl) (d := 13) rfl rfl (by simp)
      simp [openVs] at t13
      have t25 := ha.new 12 (h2 ⟨12, .data⟩ (by simp) rfl) (d := 25) rfl rfl (by simp)
      simp [openVs] at t25
      have hcall := open_any p q cap capt B true W w h (kept_trans hk0 hw.kept) (hg.kept (kept_trans hk0 hw.kept))
      unfold Book.val at hcall
      have HOP := Lib.hid (fun e w' => hw.opened (e := e) (w' := w') W.heap.size hk0.size n9)
      go_simp
      refine ⟨trivial, rfl, (callsIn_wide.2 hcall).mono ?_⟩
      intro e w' hop
      obtain ⟨v', err', rfl, hr⟩ := HOP.out e w' hop
      exact ST.out v' err' w' hr
    | 14, ho =>
      have ST := StO.sm (by kernel_rfl) ha hw ho h1 (by decide)
      cases ho
      rw [if_pos (by rfl)]
      have t26 := ha.new 13 (h2 ⟨13, .data⟩ (by simp) rfl) (d := 26) rfl rfl (by simp)
      simp [openVs] at t26
      go_simp
      exact ST.out
    | 15, ho =>
      have ST := StO.sm (by kernel_rfl) ha hw ho h1 (by decide)
      cases ho
      rw [if_pos (by rfl)]
      have t12 := ha.new 14 (h2 ⟨14, .data⟩ (by simp) rfl) (d := 12) rfl rfl (by simp)
      simp [openVs] at t12
      go_simp
      exact ST.out
    | 16, ho =>
      have ST := StO.sm (by kernel_rfl) ha hw ho h1 (by decide)
      cases ho
      rw [if_pos (by rfl)]
      have t12 := ha.new 14 (h2 ⟨14, .data⟩ (by simp) rfl) (d := 12) rfl rfl (by simp)
      simp [openVs] at t12
      go_simp
      exact ST.out
    | 17, ho =>
      have n9 : on listed 18 = false := by
        cases hb : on listed 18 with
        | false => rfl
        | true => have := hcl 18 _ rfl hb ⟨17, .data⟩ (by simp) rfl; rw [on_no h1] at this; cases this
      have st := StO.boxed (by kernel_rfl) ha hw hl ho h1 n9
      have ST := Lib.hid st; clear st
      cases ho
      rw [if_pos (by rfl)]
      go_simp
      exact ST.out
    | 18, ho =>
      have y8 : on listed 17 = true := h2 ⟨17, .data⟩ (by cases ho; simp) rfl
      have y4 : on listed 13 = true := h2 ⟨13, .chain⟩ (by cases ho; simp) rfl
      have t10 := ha.new 17 y8 (d := 10) rfl rfl (by simp)
      simp [openVs] at t10
      have t27 := ha.new 15 (h2 ⟨15, .data⟩ (by cases ho; simp) rfl) (d := 27) rfl rfl (by simp)
      simp [openVs] at t27
      obtain ⟨hbp, ⟨f0, f1, f2, f3, b0, b1, b2, b3⟩, hbf⟩ := hw.box y8
      have bf0 := hbf 0
      have bf1 := hbf 1
      have bf2 := hbf 2
      have bf3 := hbf 3
      rcases hw.res y4 with ⟨_, _, _, _, c, S, hcB, rfl, _⟩ | ⟨rfl, _⟩
      · clear hcB
        have st := StO.stored (by kernel_rfl) ha hw hl ho (by cases ho; rfl) h1 y8 (show c.val = _ from rfl)
        have ST := Lib.hid st; clear st
        cases ho
        rw [if_pos (by rfl)]
        unfold Choir.val at t27
        clear hbf
        go_simp
        exact ST.out
      · have st := StO.stored (by kernel_rfl) ha hw hl ho (by cases ho; rfl) h1 y8 (show zeroChoir = _ from rfl)
        have ST := Lib.hid st; clear st
        cases ho
        rw [if_pos (by rfl)]
        unfold zeroChoir at t27
        clear hbf
        go_simp
        exact ST.out
    | 19, ho =>
      have ST := StO.sm (by kernel_rfl) ha hw ho h1 (by decide)
      cases ho
      rw [if_pos (by rfl)]
      have t28 := ha.new 16 (h2 ⟨16, .data⟩ (by simp) rfl) (d := 28) rfl rfl (by simp)
      simp [openVs] at t28
      go_simp
      exact ST.out
  case hend =>
    rintro listed a w hall ⟨v, err, pp, ha, hw⟩
    rw [show on listed 13 = true from hall 13 (by simp), show on listed 17 = true from hall 17 (by simp), show on listed 18 = true from hall 18 (by simp)] at hw
    obtain ⟨y, hy, hae⟩ := ha.lit (n := 36) rfl
    have y1 := (hy 1).symm.trans (ha.old 1 (by kernel_rfl))
    have y6 := (hy 6).symm.trans (ha.old 6 (by kernel_rfl))
    have y7 := (hy 7).symm.trans (ha.old 7 (by kernel_rfl))
    have y8 := (hy 8).symm.trans (ha.old 8 (by kernel_rfl))
    have y9 := (hy 9).symm.trans (ha.old 9 (by kernel_rfl))
    have y10 := (hy 10).symm.trans (ha.new 17 (hall 17 (by simp)) (d := 10) rfl rfl (by simp))
    have y11 := (hy 11).symm.trans (ha.new 19 (hall 19 (by simp)) (d := 11) rfl rfl (by simp))
    simp at y1 y6 y7 y8 y9
    simp [openVs] at y10 y11
    simp only [List.range, List.range.loop, List.map] at hae
    rw [y1, y6, y7, y8, y9, y10, y11] at hae
    subst hae
    clear ha hy y1 y6 y7 y8 y9 y10 y11
    refine (by assumption : ∀ a w, Code.wpIn _ _ _ _ _ a w → _) _ w ?_
    have wk := kcell hw.kept wc
    have wn := kcell hw.kept nc
    obtain ⟨_, x0, x1, x2, x3, hv, b0, b1, b2, b3⟩ := hw.put rfl
    rcases hw.res rfl with ⟨_, hok, _⟩ | ⟨rfl, herr⟩
    · rw [hok0] at hok; cases hok
    · rcases herr with ⟨rfl, he⟩ | ⟨_, he, _⟩ | ⟨_, he, _⟩
      · 
        gi_wp2_with fail
        refine bodyPost_ret (v := .tuple #[.int .i64 0, .int .i64 20]) (by simp [results, Tryz.results19, go_sem]) rfl ?_
        refine ⟨20, rfl, ?_, .inl ⟨rfl, he⟩⟩
        exact kept_trans hk0 hw.kept
      · rw [hok0] at he; cases he
      · rw [hok0] at he; cases he
end Go.Proofs.YthkcgengohoboaaGreatDoor
namespace Go.Proofs.YthkcgengohoboaaGreatDoor
open Go.RowKit Go.Sort Go.Rg
set_option maxRecDepth 100000
attribute [local go_sem] Oper.semAt_some
set_option maxHeartbeats 4000000 in
theorem heir_e0 (p q : Option Addr) (cap capt : Nat) (B : Book) (boy week lo hi : Int) (W : World) (h : BookAt W p q cap capt B) (hg : Nothing W) (hboyT : inB boy 0 (B.boys.length - 1) = false) :
    Calls Tryz.prog 26 #[B.val p q cap capt, .int .i64 boy, .int .i64 week, .agg #[.int .i64 lo, .int .i64 hi]] W (ErrQ B (.int .i64 0) false W) := by
  have hnb := h.nb
  refine callsIn_wide.1 (callsIn_of_wp (n := 0) Tryz.func26 rfl trivial ?_ rfl)
  simp only [Tryz.ntmps26, List.size_toArray, List.length_cons, List.length_nil, Nat.reduceAdd, Nat.reduceSub, Array.replicate_succ, Array.replicate_zero, List.push_toArray, List.append_toArray, List.nil_append, List.cons_append]
  unfold Book.val
  gi_wp2_with fail
  obtain ⟨hk0, a0c, a1c, a2c⟩ := bk1 W p q cap capt B (Obj.cells #[.int .i64 lo, .int .i64 hi] 32)
  have lc : ((W.alloc (Obj.cells #[.slice p B.boys.length cap, .int .i64 B.weeks, .slice q B.trials.length capt] 25)).alloc (Obj.cells #[.int .i64 lo, .int .i64 hi] 32)).cell? ⟨W.heap.size + 1, 0, none⟩ = some (.int .i64 lo) := by go_simp
  have hc : ((W.alloc (Obj.cells #[.slice p B.boys.length cap, .int .i64 B.weeks, .slice q B.trials.length capt] 25)).alloc (Obj.cells #[.int .i64 lo, .int .i64 hi] 32)).cell? ⟨W.heap.size + 1, 1, none⟩ = some (.int .i64 hi) := by go_simp
  generalize ((W.alloc (Obj.cells #[.slice p B.boys.length cap, .int .i64 B.weeks, .slice q B.trials.length capt] 25)).alloc (Obj.cells #[.int .i64 lo, .int .i64 hi] 32)) = W0 at *
  refine wpIn_region_invL (StO 13 (fun j => match j with | 0 => (.agg #[.slice p B.boys.length cap, .int .i64 B.weeks, .slice q B.trials.length capt]) | 1 => (.agg #[.slice p B.boys.length cap, .int .i64 B.weeks, .slice q B.trials.length capt]) | 2 => .int .i64 boy | 3 => .bool false | 4 => .bool false | 5 => undef | 6 => undef | 7 => undef | 8 => .bool false | 9 => .bool false | 10 => undef | 11 => undef | 12 => .bool false | _ => undef) W0 B false) (by kernel_rfl) (by kernel_rfl) StO.start ?hop ?hend
  case hop =>
    rintro i o listed a w hl ho h1 h2 hcl ⟨v, err, pp, ha, hw⟩
    have hi11 : i < 20 := (List.getElem?_eq_some_iff.1 ho).1
    match i, ho with
    | 0, ho =>
      have ST := StO.sm (by kernel_rfl) ha hw ho h1 (by decide)
      cases ho
      rw [if_pos (by rfl)]
      have t4 := ha.old 4 (by kernel_rfl)
      simp at t4
      have r0 := kcell hw.kept a0c
      have r1 := kcell hw.kept a1c
      have r2 := kcell hw.kept a2c
      go_simp
      exact ST.out
    | 1, ho =>
      have ST := StO.sm (by kernel_rfl) ha hw ho h1 (by decide)
      cases ho
      rw [if_pos (by rfl)]
      have t4 := ha.old 4 (by kernel_rfl)
      simp at t4
      have r0 := kcell hw.kept a0c
      have r1 := kcell hw.kept a1c
      have r2 := kcell hw.kept a2c
      go_simp
      exact ST.out
    | 2, ho =>
      have ST := StO.sm (by kernel_rfl) ha hw ho h1 (by decide)
      cases ho
      rw [if_pos (by rfl)]
      have t1 := ha.old 1 (by kernel_rfl)
      simp at t1
      go_simp
      exact ST.out
    | 3, ho =>
      have st := fun w' (k : Kept w w') => StO.same (by kernel_rfl) ha hw ho h1 (by omega) (by omega) (by omega) k
      have ST := Lib.hid st; clear st
      cases ho
      rw [if_pos (by rfl)]
      have t16 := ha.new 1 (h2 ⟨1, .data⟩ (by simp) rfl) (d := 16) rfl rfl (by simp)
      simp [openVs] at t16
      have t17 := ha.new 2 (h2 ⟨2, .data⟩ (by simp) rfl) (d := 17) rfl rfl (by simp)
      simp [openVs] at t17
      have hcall := isBoy_any p B.boys.length cap (.int .i64 B.weeks) (.slice q B.trials.length capt) boy w hnb
      rw [hboyT] at hcall
      go_simp
      refine ⟨trivial, rfl, (callsIn_wide.2 hcall).mono ?_⟩
      rintro e w' ⟨rfl, hk⟩
      exact ST.out _ hk
    | 4, ho =>
      have ST := StO.sm (by kernel_rfl) ha hw ho h1 (by decide)
      cases ho
      rw [if_pos (by rfl)]
      have t18 := ha.new 3 (h2 ⟨3, .data⟩ (by simp) rfl) (d := 18) rfl rfl (by simp)
      simp [openVs] at t18
      go_simp
      exact ST.out
    | 5, ho =>
      have ST := StO.sm (by kernel_rfl) ha hw ho h1 (by decide)
      cases ho
      have t19 := ha.new 4 (h2 ⟨4, .guard⟩ (by simp) rfl) (d := 19) rfl rfl (by simp)
      simp [openVs] at t19
      rw [if_neg (by simp [Region.wanted, yielded, getD_bool t19])]
      exact ⟨fun _ _ => trivial, ST.out⟩
    | 6, ho =>
      have ST := StO.sm (by kernel_rfl) ha hw ho h1 (by decide)
      cases ho
      have t19 := ha.new 4 (h2 ⟨4, .guard⟩ (by simp) rfl) (d := 19) rfl rfl (by simp)
      simp [openVs] at t19
      rw [if_neg (by simp [Region.wanted, yielded, getD_bool t19])]
      exact ⟨fun _ _ => trivial, ST.out⟩
    | 7, ho =>
      have ST := StO.sm (by kernel_rfl) ha hw ho h1 (by decide)
      cases ho
      have t19 := ha.new 4 (h2 ⟨4, .guard⟩ (by simp) rfl) (d := 19) rfl rfl (by simp)
      simp [openVs] at t19
      rw [if_neg (by simp [Region.wanted, yielded, getD_bool t19])]
      exact ⟨fun _ _ => trivial, ST.out⟩
    | 8, ho =>
      have ST := StO.sm (by kernel_rfl) ha hw ho h1 (by decide)
      cases ho
      rw [if_pos (by rfl)]
      have t19 := ha.new 4 (h2 ⟨4, .data⟩ (by simp) rfl) (d := 19) rfl rfl (by simp)
      simp [openVs] at t19
      have t22 := ha.new 7 (h2 ⟨7, .data⟩ (by simp) rfl) (d := 22) rfl rfl (by simp)
      simp [openVs] at t22
      go_simp
      exact ST.out
    | 9, ho =>
      have ST := StO.sm (by kernel_rfl) ha hw ho h1 (by decide)
      cases ho
      rw [if_pos (by rfl)]
      have t23 := ha.new 8 (h2 ⟨8, .data⟩ (by simp) rfl) (d := 23) rfl rfl (by simp)
      simp [openVs] at t23
      go_simp
      exact ST.out
    | 10, ho =>
      have ST := StO.sm (by kernel_rfl) ha hw ho h1 (by decide)
      cases ho
      have t24 := ha.new 9 (h2 ⟨9, .guard⟩ (by simp) rfl) (d := 24) rfl rfl (by simp)
      simp [openVs] at t24
      rw [if_neg (by simp [Region.wanted, yielded, getD_bool t24])]
      exact ⟨fun _ _ => trivial, ST.out⟩
    | 11, ho =>
      have ST := StO.sm (by kernel_rfl) ha hw ho h1 (by decide)
      cases ho
      have t24 := ha.new 9 (h2 ⟨9, .guard⟩ (by simp) rfl) (d := 24) rfl rfl (by simp)
      simp [openVs] at t24
      rw [if_neg (by simp [Region.wanted, yielded, getD_bool t24])]
      exact ⟨fun _ _ => trivial, ST.out⟩
    | 12, ho =>
      have ST := StO.sm (by kernel_rfl) ha hw ho h1 (by decide)
      cases ho
      rw [if_pos (by rfl)]
      have t24 := ha.new 9 (h2 ⟨9, .data⟩ (by simp) rfl) (d := 24) rfl rfl (by simp)
      simp [openVs] at t24
      have t26 := ha.new 11 (h2 ⟨11, .data⟩ (by simp) rfl) (d := 26) rfl rfl (by simp)
      simp [openVs] at t26
      go_simp
      exact ST.out
    | 13, ho =>
      obtain ⟨n5, n6, n7, n9, n10⟩ := open_first hcl h1 ⟨_, rfl, ⟨13, .data⟩, by simp, rfl, rfl⟩ ⟨_, rfl, ⟨14, .data⟩, by simp, rfl, rfl⟩ ⟨_, rfl, ⟨14, .data⟩, by simp, rfl, rfl⟩ ⟨_, rfl, ⟨15, .data⟩, by simp, rfl, rfl⟩ ⟨_, rfl, ⟨16, .data⟩, by simp, rfl, rfl⟩
      have st := fun v' err' w' (k : OpenReg W0 B false v' err' pp true (on listed 17) (on listed 18) w') => StO.opened (by kernel_rfl) ha hl ho h1 n5 n6 n7 n9 n10 k
      have ST := Lib.hid st; clear st
      cases ho
      rw [if_pos (by rfl)]
      have t15 := ha.new 0 (h2 ⟨0, .data⟩ (by simp) rfl) (d := 15) rfl rfl (by simp)
      simp [openVs] at t15
      have t27 := ha.new 12 (h2 ⟨12, .data⟩ (by simp) rfl) (d := 27) rfl rfl (by simp)
      simp [openVs] at t27
      have hcall := open_any p q cap capt B false W w h (kept_trans hk0 hw.kept) (hg.kept (kept_trans hk0 hw.kept))
      unfold Book.val at hcall
      have HOP := Lib.hid (fun e w' => hw.opened (e := e) (w' := w') W.heap.size hk0.size n9)
      go_simp
      refine ⟨trivial, rfl, (callsIn_wide.2 hcall).mono ?_⟩
      intro e w' hop
      obtain ⟨v', err', rfl, hr⟩ := HOP.out e w' hop
      exact ST.out v' err' w' hr
    | 14, ho =>
      have ST := StO.sm (by kernel_rfl) ha hw ho h1 (by decide)
      cases ho
      rw [if_pos (by rfl)]
      have t28 := ha.new 13 (h2 ⟨13, .data⟩ (by simp) rfl) (d := 28) rfl rfl (by simp)
      simp [openVs] at t28
      go_simp
      exact ST.out
    | 15, ho =>
      have ST := StO.sm (by kernel_rfl) ha hw ho h1 (by decide)
      cases ho
      rw [if_pos (by rfl)]
      have t14 := ha.new 14 (h2 ⟨14, .data⟩ (by simp) rfl) (d := 14) rfl rfl (by simp)
      simp [openVs] at t14
      go_simp
      exact ST.out
    | 16, ho =>
      have ST := StO.sm (by kernel_rfl) ha hw ho h1 (by decide)
      cases ho
      rw [if_pos (by rfl)]
      have t14 := ha.new 14 (h2 ⟨14, .data⟩ (by simp) rfl) (d := 14) rfl rfl (by simp)
      simp [openVs] at t14
      go_simp
      exact ST.out
    | 17, ho =>
      have n9 : on listed 18 = false := by
        cases hb : on listed 18 with
        | false => rfl
        | true => have := hcl 18 _ rfl hb ⟨17, .data⟩ (by simp) rfl; rw [on_no h1] at this; cases this
      have st := StO.boxed (by kernel_rfl) ha hw hl ho h1 n9
      have ST := Lib.hid st; clear st
      cases ho
      rw [if_pos (by rfl)]
      go_simp
      exact ST.out
    | 18, ho =>
      have y8 : on listed 17 = true := h2 ⟨17, .data⟩ (by cases ho; simp) rfl
      have y4 : on listed 13 = true := h2 ⟨13, .chain⟩ (by cases ho; simp) rfl
      have t10 := ha.new 17 y8 (d := 10) rfl rfl (by simp)
      simp [openVs] at t10
      have t29 := ha.new 15 (h2 ⟨15, .data⟩ (by cases ho; simp) rfl) (d := 29) rfl rfl (by simp)
      simp [openVs] at t29
      obtain ⟨hbp, ⟨f0, f1, f2, f3, b0, b1, b2, b3⟩, hbf⟩ := hw.box y8
      have bf0 := hbf 0
      have bf1 := hbf 1
      have bf2 := hbf 2
      have bf3 := hbf 3
      rcases hw.res y4 with ⟨_, _, he, _⟩ | ⟨rfl, _⟩
      · cases he
      · have st := StO.stored (by kernel_rfl) ha hw hl ho (by cases ho; rfl) h1 y8 (show zeroChoir = _ from rfl)
        have ST := Lib.hid st; clear st
        cases ho
        rw [if_pos (by rfl)]
        unfold zeroChoir at t29
        clear hbf
        go_simp
        exact ST.out
    | 19, ho =>
      have ST := StO.sm (by kernel_rfl) ha hw ho h1 (by decide)
      cases ho
      rw [if_pos (by rfl)]
      have t30 := ha.new 16 (h2 ⟨16, .data⟩ (by simp) rfl) (d := 30) rfl rfl (by simp)
      simp [openVs] at t30
      go_simp
      exact ST.out
  case hend =>
    rintro listed a w hall ⟨v, err, pp, ha, hw⟩
    rw [show on listed 13 = true from hall 13 (by simp), show on listed 17 = true from hall 17 (by simp), show on listed 18 = true from hall 18 (by simp)] at hw
    obtain ⟨y, hy, hae⟩ := ha.lit (n := 46) rfl
    have y1 := (hy 1).symm.trans (ha.old 1 (by kernel_rfl))
    have y2 := (hy 2).symm.trans (ha.old 2 (by kernel_rfl))
    have y7 := (hy 7).symm.trans (ha.old 7 (by kernel_rfl))
    have y8 := (hy 8).symm.trans (ha.old 8 (by kernel_rfl))
    have y9 := (hy 9).symm.trans (ha.old 9 (by kernel_rfl))
    have y10 := (hy 10).symm.trans (ha.new 17 (hall 17 (by simp)) (d := 10) rfl rfl (by simp))
    have y11 := (hy 11).symm.trans (ha.new 19 (hall 19 (by simp)) (d := 11) rfl rfl (by simp))
    simp at y1 y2 y7 y8 y9
    simp [openVs] at y10 y11
    simp only [List.range, List.range.loop, List.map] at hae
    rw [y1, y2, y7, y8, y9, y10, y11] at hae
    subst hae
    clear ha hy y1 y2 y7 y8 y9 y10 y11
    refine (by assumption : ∀ a w, Code.wpIn _ _ _ _ _ a w → _) _ w ?_
    have wl := kcell hw.kept lc
    have wh := kcell hw.kept hc
    obtain ⟨_, x0, x1, x2, x3, hv, b0, b1, b2, b3⟩ := hw.put rfl
    rcases hw.res rfl with ⟨_, _, he, _⟩ | ⟨rfl, herr⟩
    · cases he
    · rcases herr with ⟨rfl, he⟩ | ⟨rfl, he, he2⟩ | ⟨_, _, he, _⟩
      · 
        gi_wp2_with fail
        refine bodyPost_ret (v := .tuple #[.int .i64 0, .int .i64 20]) (by simp [results, Tryz.results26, go_sem]) rfl ?_
        refine ⟨20, rfl, ?_, .inl ⟨rfl, he⟩⟩
        exact kept_trans hk0 hw.kept
      · 
        gi_wp2_with fail
        refine bodyPost_ret (v := .tuple #[.int .i64 0, .int .i64 21]) (by simp [results, Tryz.results26, go_sem]) rfl ?_
        refine ⟨21, rfl, ?_, .inr ⟨rfl, he, rfl⟩⟩
        exact kept_trans hk0 hw.kept
      · cases he
set_option maxHeartbeats 4000000 in
theorem heir_e1 (p q : Option Addr) (cap capt : Nat) (B : Book) (boy week lo hi : Int) (W : World) (h : BookAt W p q cap capt B) (hg : Nothing W) (hboyT : inB boy 0 (B.boys.length - 1) = true) (hweekT : inB week 0 (wrap64 (B.weeks - 1)) = false) :
    Calls Tryz.prog 26 #[B.val p q cap capt, .int .i64 boy, .int .i64 week, .agg #[.int .i64 lo, .int .i64 hi]] W (ErrQ B (.int .i64 0) false W) := by
  have hnb := h.nb
  refine callsIn_wide.1 (callsIn_of_wp (n := 0) Tryz.func26 rfl trivial ?_ rfl)
  simp only [Tryz.ntmps26, List.size_toArray, List.length_cons, List.length_nil, Nat.reduceAdd, Nat.reduceSub, Array.replicate_succ, Array.replicate_zero, List.push_toArray, List.append_toArray, List.nil_append, List.cons_append]
  unfold Book.val
  gi_wp2_with fail
  obtain ⟨hk0, a0c, a1c, a2c⟩ := bk1 W p q cap capt B (Obj.cells #[.int .i64 lo, .int .i64 hi] 32)
  have lc : ((W.alloc (Obj.cells #[.slice p B.boys.length cap, .int .i64 B.weeks, .slice q B.trials.length capt] 25)).alloc (Obj.cells #[.int .i64 lo, .int .i64 hi] 32)).cell? ⟨W.heap.size + 1, 0, none⟩ = some (.int .i64 lo) := by go_simp
  have hc : ((W.alloc (Obj.cells #[.slice p B.boys.length cap, .int .i64 B.weeks, .slice q B.trials.length capt] 25)).alloc (Obj.cells #[.int .i64 lo, .int .i64 hi] 32)).cell? ⟨W.heap.size + 1, 1, none⟩ = some (.int .i64 hi) := by go_simp
  generalize ((W.alloc (Obj.cells #[.slice p B.boys.length cap, .int .i64 B.weeks, .slice q B.trials.length capt] 25)).alloc (Obj.cells #[.int .i64 lo, .int .i64 hi] 32)) = W0 at *
  refine wpIn_region_invL (StO 13 (fun j => match j with | 0 => (.agg #[.slice p B.boys.length cap, .int .i64 B.weeks, .slice q B.trials.length capt]) | 1 => (.agg #[.slice p B.boys.length cap, .int .i64 B.weeks, .slice q B.trials.length capt]) | 2 => .int .i64 boy | 3 => .bool true | 4 => .bool true | 5 => (.agg #[.slice p B.boys.length cap, .int .i64 B.weeks, .slice q B.trials.length capt]) | 6 => .int .i64 week | 7 => .bool false | 8 => .bool false | 9 => .bool false | 10 => undef | 11 => undef | 12 => .bool false | _ => undef) W0 B false) (by kernel_rfl) (by kernel_rfl) StO.start ?hop ?hend
  case hop =>
    rintro i o listed a w hl ho h1 h2 hcl ⟨v, err, pp, ha, hw⟩
    have hi11 : i < 20 := (List.getElem?_eq_some_iff.1 ho).1
    match i, ho with
    | 0, ho =>
      have ST := StO.sm (by kernel_rfl) ha hw ho h1 (by decide)
      cases ho
      rw [if_pos (by rfl)]
      have t4 := ha.old 4 (by kernel_rfl)
      simp at t4
      have r0 := kcell hw.kept a0c
      have r1 := kcell hw.kept a1c
      have r2 := kcell hw.kept a2c
      go_simp
      exact ST.out
    | 1, ho =>
      have ST := StO.sm (by kernel_rfl) ha hw ho h1 (by decide)
      cases ho
      rw [if_pos (by rfl)]
      have t4 := ha.old 4 (by kernel_rfl)
      simp at t4
      have r0 := kcell hw.kept a0c
      have r1 := kcell hw.kept a1c
      have r2 := kcell hw.kept a2c
      go_simp
      exact ST.out
    | 2, ho =>
      have ST := StO.sm (by kernel_rfl) ha hw ho h1 (by decide)
      cases ho
      rw [if_pos (by rfl)]
      have t1 := ha.old 1 (by kernel_rfl)
      simp at t1
      go_simp
      exact ST.out
    | 3, ho =>
      have st := fun w' (k : Kept w w') => StO.same (by kernel_rfl) ha hw ho h1 (by omega) (by omega) (by omega) k
      have ST := Lib.hid st; clear st
      cases ho
      rw [if_pos (by rfl)]
      have t16 := ha.new 1 (h2 ⟨1, .data⟩ (by simp) rfl) (d := 16) rfl rfl (by simp)
      simp [openVs] at t16
      have t17 := ha.new 2 (h2 ⟨2, .data⟩ (by simp) rfl) (d := 17) rfl rfl (by simp)
      simp [openVs] at t17
      have hcall := isBoy_any p B.boys.length cap (.int .i64 B.weeks) (.slice q B.trials.length capt) boy w hnb
      rw [hboyT] at hcall
      go_simp
      refine ⟨trivial, rfl, (callsIn_wide.2 hcall).mono ?_⟩
      rintro e w' ⟨rfl, hk⟩
      exact ST.out _ hk
    | 4, ho =>
      have ST := StO.sm (by kernel_rfl) ha hw ho h1 (by decide)
      cases ho
      rw [if_pos (by rfl)]
      have t18 := ha.new 3 (h2 ⟨3, .data⟩ (by simp) rfl) (d := 18) rfl rfl (by simp)
      simp [openVs] at t18
      go_simp
      exact ST.out
    | 5, ho =>
      have ST := StO.sm (by kernel_rfl) ha hw ho h1 (by decide)
      cases ho
      have t19 := ha.new 4 (h2 ⟨4, .guard⟩ (by simp) rfl) (d := 19) rfl rfl (by simp)
      simp [openVs] at t19
      rw [if_pos (by simp [Region.wanted, yielded, getD_bool t19])]
      have t4 := ha.old 4 (by kernel_rfl)
      simp at t4
      have r0 := kcell hw.kept a0c
      have r1 := kcell hw.kept a1c
      have r2 := kcell hw.kept a2c
      go_simp
      exact ST.out
    | 6, ho =>
      have ST := StO.sm (by kernel_rfl) ha hw ho h1 (by decide)
      cases ho
      have t19 := ha.new 4 (h2 ⟨4, .guard⟩ (by simp) rfl) (d := 19) rfl rfl (by simp)
      simp [openVs] at t19
      rw [if_pos (by simp [Region.wanted, yielded, getD_bool t19])]
      have t2 := ha.old 2 (by kernel_rfl)
      simp at t2
      go_simp
      exact ST.out
    | 7, ho =>
      have st := fun w' (k : Kept w w') => StO.same (by kernel_rfl) ha hw ho h1 (by omega) (by omega) (by omega) k
      have ST := Lib.hid st; clear st
      cases ho
      have t19 := ha.new 4 (h2 ⟨4, .guard⟩ (by simp) rfl) (d := 19) rfl rfl (by simp)
      simp [openVs] at t19
      rw [if_pos (by simp [Region.wanted, yielded, getD_bool t19])]
      have t20 := ha.new 5 (h2 ⟨5, .data⟩ (by simp) rfl) (d := 20) rfl rfl (by simp)
      simp [openVs] at t20
      have t21 := ha.new 6 (h2 ⟨6, .data⟩ (by simp) rfl) (d := 21) rfl rfl (by simp)
      simp [openVs] at t21
      have hcall := isWeek_gen (.slice p B.boys.length cap) (.slice q B.trials.length capt) B.weeks week w
      rw [hweekT] at hcall
      go_simp
      refine ⟨trivial, rfl, (callsIn_wide.2 hcall).mono ?_⟩
      rintro e w' ⟨rfl, hk⟩
      exact ST.out _ hk
    | 8, ho =>
      have ST := StO.sm (by kernel_rfl) ha hw ho h1 (by decide)
      cases ho
      rw [if_pos (by rfl)]
      have t19 := ha.new 4 (h2 ⟨4, .data⟩ (by simp) rfl) (d := 19) rfl rfl (by simp)
      simp [openVs] at t19
      have t22 := ha.new 7 (h2 ⟨7, .data⟩ (by simp) rfl) (d := 22) rfl rfl (by simp)
      simp [openVs] at t22
      go_simp
      exact ST.out
    | 9, ho =>
      have ST := StO.sm (by kernel_rfl) ha hw ho h1 (by decide)
      cases ho
      rw [if_pos (by rfl)]
      have t23 := ha.new 8 (h2 ⟨8, .data⟩ (by simp) rfl) (d := 23) rfl rfl (by simp)
      simp [openVs] at t23
      go_simp
      exact ST.out
    | 10, ho =>
      have ST := StO.sm (by kernel_rfl) ha hw ho h1 (by decide)
      cases ho
      have t24 := ha.new 9 (h2 ⟨9, .guard⟩ (by simp) rfl) (d := 24) rfl rfl (by simp)
      simp [openVs] at t24
      rw [if_neg (by simp [Region.wanted, yielded, getD_bool t24])]
      exact ⟨fun _ _ => trivial, ST.out⟩
    | 11, ho =>
      have ST := StO.sm (by kernel_rfl) ha hw ho h1 (by decide)
      cases ho
      have t24 := ha.new 9 (h2 ⟨9, .guard⟩ (by simp) rfl) (d := 24) rfl rfl (by simp)
      simp [openVs] at t24
      rw [if_neg (by simp [Region.wanted, yielded, getD_bool t24])]
      exact ⟨fun _ _ => trivial, ST.out⟩
    | 12, ho =>
      have ST := StO.sm (by kernel_rfl) ha hw ho h1 (by decide)
      cases ho
      rw [if_pos (by rfl)]
      have t24 := ha.new 9 (h2 ⟨9, .data⟩ (by simp) rfl) (d := 24) rfl rfl (by simp)
      simp [openVs] at t24
      have t26 := ha.new 11 (h2 ⟨11, .data⟩ (by simp) rfl) (d := 26) rfl rfl (by simp)
      simp [openVs] at t26
      go_simp
      exact ST.out
    | 13, ho =>
      obtain ⟨n5, n6, n7, n9, n10⟩ := open_first hcl h1 ⟨_, rfl, ⟨13, .data⟩, by simp, rfl, rfl⟩ ⟨_, rfl, ⟨14, .data⟩, by simp, rfl, rfl⟩ ⟨_, rfl, ⟨14, .data⟩, by simp, rfl, rfl⟩ ⟨_, rfl, ⟨15, .data⟩, by simp, rfl, rfl⟩ ⟨_, rfl, ⟨16, .data⟩, by simp, rfl, rfl⟩
      have st := fun v' err' w' (k : OpenReg W0 B false v' err' pp true (on listed 17) (on listed 18) w') => StO.opened (by kernel_rfl) ha hl ho h1 n5 n6 n7 n9 n10 k
      have ST := Lib.hid st; clear st
      cases ho
      rw [if_pos (by rfl)]
      have t15 := ha.new 0 (h2 ⟨0, .data⟩ (by simp) rfl) (d := 15) rfl rfl (by simp)
      simp [openVs] at t15
      have t27 := ha.new 12 (h2 ⟨12, .data⟩ (by simp) rfl) (d := 27) rfl rfl (by simp)
      simp [openVs] at t27
      have hcall := open_any p q cap capt B false W w h (kept_trans hk0 hw.kept) (hg.kept (kept_trans hk0 hw.kept))
      unfold Book.val at hcall
      have HOP := Lib.hid (fun e w' => hw.opened (e := e) (w' := w') W.heap.size hk0.size n9)
      go_simp
      refine ⟨trivial, rfl, (callsIn_wide.2 hcall).mono ?_⟩
      intro e w' hop
      obtain ⟨v', err', rfl, hr⟩ := HOP.out e w' hop
      exact ST.out v' err' w' hr
    | 14, ho =>
      have ST := StO.sm (by kernel_rfl) ha hw ho h1 (by decide)
      cases ho
      rw [if_pos (by rfl)]
      have t28 := ha.new 13 (h2 ⟨13, .data⟩ (by simp) rfl) (d := 28) rfl rfl (by simp)
      simp [openVs] at t28
      go_simp
      exact ST.out
    | 15, ho =>
      have ST := StO.sm (by kernel_rfl) ha hw ho h1 (by decide)
      cases ho
      rw [if_pos (by rfl)]
      have t14 := ha.new 14 (h2 ⟨14, .data⟩ (by simp) rfl) (d := 14) rfl rfl (by simp)
      simp [openVs] at t14
      go_simp
      exact ST.out
    | 16, ho =>
      have ST := StO.sm (by kernel_rfl) ha hw ho h1 (by decide)
      cases ho
      rw [if_pos (by rfl)]
      have t14 := ha.new 14 (h2 ⟨14, .data⟩ (by simp) rfl) (d := 14) rfl rfl (by simp)
      simp [openVs] at t14
      go_simp
      exact ST.out
    | 17, ho =>
      have n9 : on listed 18 = false := by
        cases hb : on listed 18 with
        | false => rfl
        | true => have := hcl 18 _ rfl hb ⟨17, .data⟩ (by simp) rfl; rw [on_no h1] at this; cases this
      have st := StO.boxed (by kernel_rfl) ha hw hl ho h1 n9
      have ST := Lib.hid st; clear st
      cases ho
      rw [if_pos (by rfl)]
      go_simp
      exact ST.out
    | 18, ho =>
      have y8 : on listed 17 = true := h2 ⟨17, .data⟩ (by cases ho; simp) rfl
      have y4 : on listed 13 = true := h2 ⟨13, .chain⟩ (by cases ho; simp) rfl
      have t10 := ha.new 17 y8 (d := 10) rfl rfl (by simp)
      simp [openVs] at t10
      have t29 := ha.new 15 (h2 ⟨15, .data⟩ (by cases ho; simp) rfl) (d := 29) rfl rfl (by simp)
      simp [openVs] at t29
      obtain ⟨hbp, ⟨f0, f1, f2, f3, b0, b1, b2, b3⟩, hbf⟩ := hw.box y8
      have bf0 := hbf 0
      have bf1 := hbf 1
      have bf2 := hbf 2
      have bf3 := hbf 3
      rcases hw.res y4 with ⟨_, _, he, _⟩ | ⟨rfl, _⟩
      · cases he
      · have st := StO.stored (by kernel_rfl) ha hw hl ho (by cases ho; rfl) h1 y8 (show zeroChoir = _ from rfl)
        have ST := Lib.hid st; clear st
        cases ho
        rw [if_pos (by rfl)]
        unfold zeroChoir at t29
        clear hbf
        go_simp
        exact ST.out
    | 19, ho =>
      have ST := StO.sm (by kernel_rfl) ha hw ho h1 (by decide)
      cases ho
      rw [if_pos (by rfl)]
      have t30 := ha.new 16 (h2 ⟨16, .data⟩ (by simp) rfl) (d := 30) rfl rfl (by simp)
      simp [openVs] at t30
      go_simp
      exact ST.out
  case hend =>
    rintro listed a w hall ⟨v, err, pp, ha, hw⟩
    rw [show on listed 13 = true from hall 13 (by simp), show on listed 17 = true from hall 17 (by simp), show on listed 18 = true from hall 18 (by simp)] at hw
    obtain ⟨y, hy, hae⟩ := ha.lit (n := 46) rfl
    have y1 := (hy 1).symm.trans (ha.old 1 (by kernel_rfl))
    have y2 := (hy 2).symm.trans (ha.old 2 (by kernel_rfl))
    have y7 := (hy 7).symm.trans (ha.old 7 (by kernel_rfl))
    have y8 := (hy 8).symm.trans (ha.old 8 (by kernel_rfl))
    have y9 := (hy 9).symm.trans (ha.old 9 (by kernel_rfl))
    have y10 := (hy 10).symm.trans (ha.new 17 (hall 17 (by simp)) (d := 10) rfl rfl (by simp))
    have y11 := (hy 11).symm.trans (ha.new 19 (hall 19 (by simp)) (d := 11) rfl rfl (by simp))
    simp at y1 y2 y7 y8 y9
    simp [openVs] at y10 y11
    simp only [List.range, List.range.loop, List.map] at hae
    rw [y1, y2, y7, y8, y9, y10, y11] at hae
    subst hae
    clear ha hy y1 y2 y7 y8 y9 y10 y11
    refine (by assumption : ∀ a w, Code.wpIn _ _ _ _ _ a w → _) _ w ?_
    have wl := kcell hw.kept lc
    have wh := kcell hw.kept hc
    obtain ⟨_, x0, x1, x2, x3, hv, b0, b1, b2, b3⟩ := hw.put rfl
    rcases hw.res rfl with ⟨_, _, he, _⟩ | ⟨rfl, herr⟩
    · cases he
    · rcases herr with ⟨rfl, he⟩ | ⟨rfl, he, he2⟩ | ⟨_, _, he, _⟩
      · 
        gi_wp2_with fail
        refine bodyPost_ret (v := .tuple #[.int .i64 0, .int .i64 20]) (by simp [results, Tryz.results26, go_sem]) rfl ?_
        refine ⟨20, rfl, ?_, .inl ⟨rfl, he⟩⟩
        exact kept_trans hk0 hw.kept
      · 
        gi_wp2_with fail
        refine bodyPost_ret (v := .tuple #[.int .i64 0, .int .i64 21]) (by simp [results, Tryz.results26, go_sem]) rfl ?_
        refine ⟨21, rfl, ?_, .inr ⟨rfl, he, rfl⟩⟩
        exact kept_trans hk0 hw.kept
      · cases he
end Go.Proofs.YthkcgengohoboaaGreatDoor
namespace Go.Proofs.YthkcgengohoboaaGreatDoor
open Go.RowKit Go.Sort Go.Rg
set_option maxRecDepth 100000
attribute [local go_sem] Oper.semAt_some
set_option maxHeartbeats 4000000 in
theorem heir_e2 (p q : Option Addr) (cap capt : Nat) (B : Book) (boy week lo hi : Int) (W : World) (h : BookAt W p q cap capt B) (hg : Nothing W) (hboyT : inB boy 0 (B.boys.length - 1) = true) (hweekT : inB week 0 (wrap64 (B.weeks - 1)) = true) (hspanT : (inB lo 0 hi && decide (hi ≤ 40)) = false) :
    Calls Tryz.prog 26 #[B.val p q cap capt, .int .i64 boy, .int .i64 week, .agg #[.int .i64 lo, .int .i64 hi]] W (ErrQ B (.int .i64 0) false W) := by
  have hnb := h.nb
  refine callsIn_wide.1 (callsIn_of_wp (n := 0) Tryz.func26 rfl trivial ?_ rfl)
  simp only [Tryz.ntmps26, List.size_toArray, List.length_cons, List.length_nil, Nat.reduceAdd, Nat.reduceSub, Array.replicate_succ, Array.replicate_zero, List.push_toArray, List.append_toArray, List.nil_append, List.cons_append]
  unfold Book.val
  gi_wp2_with fail
  obtain ⟨hk0, a0c, a1c, a2c⟩ := bk1 W p q cap capt B (Obj.cells #[.int .i64 lo, .int .i64 hi] 32)
  have lc : ((W.alloc (Obj.cells #[.slice p B.boys.length cap, .int .i64 B.weeks, .slice q B.trials.length capt] 25)).alloc (Obj.cells #[.int .i64 lo, .int .i64 hi] 32)).cell? ⟨W.heap.size + 1, 0, none⟩ = some (.int .i64 lo) := by go_simp
  have hc : ((W.alloc (Obj.cells #[.slice p B.boys.length cap, .int .i64 B.weeks, .slice q B.trials.length capt] 25)).alloc (Obj.cells #[.int .i64 lo, .int .i64 hi] 32)).cell? ⟨W.heap.size + 1, 1, none⟩ = some (.int .i64 hi) := by go_simp
  generalize ((W.alloc (Obj.cells #[.slice p B.boys.length cap, .int .i64 B.weeks, .slice q B.trials.length capt] 25)).alloc (Obj.cells #[.int .i64 lo, .int .i64 hi] 32)) = W0 at *
  refine wpIn_region_invL (StO 13 (fun j => match j with | 0 => (.agg #[.slice p B.boys.length cap, .int .i64 B.weeks, .slice q B.trials.length capt]) | 1 => (.agg #[.slice p B.boys.length cap, .int .i64 B.weeks, .slice q B.trials.length capt]) | 2 => .int .i64 boy | 3 => .bool true | 4 => .bool true | 5 => (.agg #[.slice p B.boys.length cap, .int .i64 B.weeks, .slice q B.trials.length capt]) | 6 => .int .i64 week | 7 => .bool true | 8 => .bool true | 9 => .bool true | 10 => .agg #[.int .i64 lo, .int .i64 hi] | 11 => .bool false | 12 => .bool false | _ => undef) W0 B false) (by kernel_rfl) (by kernel_rfl) StO.start ?hop ?hend
  case hop =>
    rintro i o listed a w hl ho h1 h2 hcl ⟨v, err, pp, ha, hw⟩
    have hi11 : i < 20 := (List.getElem?_eq_some_iff.1 ho).1
    match i, ho with
    | 0, ho =>
      have ST := StO.sm (by kernel_rfl) ha hw ho h1 (by decide)
      cases ho
      rw [if_pos (by rfl)]
      have t4 := ha.old 4 (by kernel_rfl)
      simp at t4
      have r0 := kcell hw.kept a0c
      have r1 := kcell hw.kept a1c
      have r2 := kcell hw.kept a2c
      go_simp
      exact ST.out
    | 1, ho =>
      have ST := StO.sm (by kernel_rfl) ha hw ho h1 (by decide)
      cases ho
      rw [if_pos (by rfl)]
      have t4 := ha.old 4 (by kernel_rfl)
      simp at t4
      have r0 := kcell hw.kept a0c
      have r1 := kcell hw.kept a1c
      have r2 := kcell hw.kept a2c
      go_simp
      exact ST.out
    | 2, ho =>
      have ST := StO.sm (by kernel_rfl) ha hw ho h1 (by decide)
      cases ho
      rw [if_pos (by rfl)]
      have t1 := ha.old 1 (by kernel_rfl)
      simp at t1
      go_simp
      exact ST.out
    | 3, ho =>
      have st := fun w' (k : Kept w w') => StO.same (by kernel_rfl) ha hw ho h1 (by omega) (by omega) (by omega) k
      have ST := Lib.hid st; clear st
      cases ho
      rw [if_pos (by rfl)]
      have t16 := ha.new 1 (h2 ⟨1, .data⟩ (by simp) rfl) (d := 16) rfl rfl (by simp)
      simp [openVs] at t16
      have t17 := ha.new 2 (h2 ⟨2, .data⟩ (by simp) rfl) (d := 17) rfl rfl (by simp)
      simp [openVs] at t17
      have hcall := isBoy_any p B.boys.length cap (.int .i64 B.weeks) (.slice q B.trials.length capt) boy w hnb
      rw [hboyT] at hcall
      go_simp
      refine ⟨trivial, rfl, (callsIn_wide.2 hcall).mono ?_⟩
      rintro e w' ⟨rfl, hk⟩
      exact ST.out _ hk
    | 4, ho =>
      have ST := StO.sm (by kernel_rfl) ha hw ho h1 (by decide)
      cases ho
      rw [if_pos (by rfl)]
      have t18 := ha.new 3 (h2 ⟨3, .data⟩ (by simp) rfl) (d := 18) rfl rfl (by simp)
      simp [openVs] at t18
      go_simp
      exact ST.out
    | 5, ho =>
      have ST := StO.sm (by kernel_rfl) ha hw ho h1 (by decide)
      cases ho
      have t19 := ha.new 4 (h2 ⟨4, .guard⟩ (by simp) rfl) (d := 19) rfl rfl (by simp)
      simp [openVs] at t19
      rw [if_pos (by simp [Region.wanted, yielded, getD_bool t19])]
      have t4 := ha.old 4 (by kernel_rfl)
      simp at t4
      have r0 := kcell hw.kept a0c
      have r1 := kcell hw.kept a1c
      have r2 := kcell hw.kept a2c
      go_simp
      exact ST.out
    | 6, ho =>
      have ST := StO.sm (by kernel_rfl) ha hw ho h1 (by decide)
      cases ho
      have t19 := ha.new 4 (h2 ⟨4, .guard⟩ (by simp) rfl) (d := 19) rfl rfl (by simp)
      simp [openVs] at t19
      rw [if_pos (by simp [Region.wanted, yielded, getD_bool t19])]
      have t2 := ha.old 2 (by kernel_rfl)
      simp at t2
      go_simp
      exact ST.out
    | 7, ho =>
      have st := fun w' (k : Kept w w') => StO.same (by kernel_rfl) ha hw ho h1 (by omega) (by omega) (by omega) k
      have ST := Lib.hid st; clear st
      cases ho
      have t19 := ha.new 4 (h2 ⟨4, .guard⟩ (by simp) rfl) (d := 19) rfl rfl (by simp)
      simp [openVs] at t19
      rw [if_pos (by simp [Region.wanted, yielded, getD_bool t19])]
      have t20 := ha.new 5 (h2 ⟨5, .data⟩ (by simp) rfl) (d := 20) rfl rfl (by simp)
      simp [openVs] at t20
      have t21 := ha.new 6 (h2 ⟨6, .data⟩ (by simp) rfl) (d := 21) rfl rfl (by simp)
      simp [openVs] at t21
      have hcall := isWeek_gen (.slice p B.boys.length cap) (.slice q B.trials.length capt) B.weeks week w
      rw [hweekT] at hcall
      go_simp
      refine ⟨trivial, rfl, (callsIn_wide.2 hcall).mono ?_⟩
      rintro e w' ⟨rfl, hk⟩
      exact ST.out _ hk
    | 8, ho =>
      have ST := StO.sm (by kernel_rfl) ha hw ho h1 (by decide)
      cases ho
      rw [if_pos (by rfl)]
      have t19 := ha.new 4 (h2 ⟨4, .data⟩ (by simp) rfl) (d := 19) rfl rfl (by simp)
      simp [openVs] at t19
      have t22 := ha.new 7 (h2 ⟨7, .data⟩ (by simp) rfl) (d := 22) rfl rfl (by simp)
      simp [openVs] at t22
      go_simp
      exact ST.out
    | 9, ho =>
      have ST := StO.sm (by kernel_rfl) ha hw ho h1 (by decide)
      cases ho
      rw [if_pos (by rfl)]
      have t23 := ha.new 8 (h2 ⟨8, .data⟩ (by simp) rfl) (d := 23) rfl rfl (by simp)
      simp [openVs] at t23
      go_simp
      exact ST.out
    | 10, ho =>
      have ST := StO.sm (by kernel_rfl) ha hw ho h1 (by decide)
      cases ho
      have t24 := ha.new 9 (h2 ⟨9, .guard⟩ (by simp) rfl) (d := 24) rfl rfl (by simp)
      simp [openVs] at t24
      rw [if_pos (by simp [Region.wanted, yielded, getD_bool t24])]
      have t7 := ha.old 7 (by kernel_rfl)
      simp at t7
      have rl0 := kcell hw.kept lc
      have rh0 := kcell hw.kept hc
      go_simp
      exact ST.out
    | 11, ho =>
      have st := fun w' (k : Kept w w') => StO.same (by kernel_rfl) ha hw ho h1 (by omega) (by omega) (by omega) k
      have ST := Lib.hid st; clear st
      cases ho
      have t24 := ha.new 9 (h2 ⟨9, .guard⟩ (by simp) rfl) (d := 24) rfl rfl (by simp)
      simp [openVs] at t24
      rw [if_pos (by simp [Region.wanted, yielded, getD_bool t24])]
      have t25 := ha.new 10 (h2 ⟨10, .data⟩ (by simp) rfl) (d := 25) rfl rfl (by simp)
      simp [openVs] at t25
      have hcall := isSpan_any lo hi 40 w
      rw [hspanT] at hcall
      go_simp
      refine ⟨trivial, rfl, (callsIn_wide.2 hcall).mono ?_⟩
      rintro e w' ⟨rfl, hk⟩
      exact ST.out _ hk
    | 12, ho =>
      have ST := StO.sm (by kernel_rfl) ha hw ho h1 (by decide)
      cases ho
      rw [if_pos (by rfl)]
      have t24 := ha.new 9 (h2 ⟨9, .data⟩ (by simp) rfl) (d := 24) rfl rfl (by simp)
      simp [openVs] at t24
      have t26 := ha.new 11 (h2 ⟨11, .data⟩ (by simp) rfl) (d := 26) rfl rfl (by simp)
      simp [openVs] at t26
      go_simp
      exact ST.out
    | 13, ho =>
      obtain ⟨n5, n6, n7, n9, n10⟩ := open_first hcl h1 ⟨_, rfl, ⟨13, .data⟩, by simp, rfl, rfl⟩ ⟨_, rfl, ⟨14, .data⟩, by simp, rfl, rfl⟩ ⟨_, rfl, ⟨14, .data⟩, by simp, rfl, rfl⟩ ⟨_, rfl, ⟨15, .data⟩, by simp, rfl, rfl⟩ ⟨_, rfl, ⟨16, .data⟩, by simp, rfl, rfl⟩
      have st := fun v' err' w' (k : OpenReg W0 B false v' err' pp true (on listed 17) (on listed 18) w') => StO.opened (by kernel_rfl) ha hl ho h1 n5 n6 n7 n9 n10 k
      have ST := Lib.hid st; clear st
      cases ho
      rw [if_pos (by rfl)]
      have t15 := ha.new 0 (h2 ⟨0, .data⟩ (by simp) rfl) (d := 15) rfl rfl (by simp)
      simp [openVs] at t15
      have t27 := ha.new 12 (h2 ⟨12, .data⟩ (by simp) rfl) (d := 27) rfl rfl (by simp)
      simp [openVs] at t27
      have hcall := open_any p q cap capt B false W w h (kept_trans hk0 hw.kept) (hg.kept (kept_trans hk0 hw.kept))
      unfold Book.val at hcall
      have HOP := Lib.hid (fun e w' => hw.opened (e := e) (w' := w') W.heap.size hk0.size n9)
      go_simp
      refine ⟨trivial, rfl, (callsIn_wide.2 hcall).mono ?_⟩
      intro e w' hop
      obtain ⟨v', err', rfl, hr⟩ := HOP.out e w' hop
      exact ST.out v' err' w' hr
    | 14, ho =>
      have ST := StO.sm (by kernel_rfl) ha hw ho h1 (by decide)
      cases ho
      rw [if_pos (by rfl)]
      have t28 := ha.new 13 (h2 ⟨13, .data⟩ (by simp) rfl) (d := 28) rfl rfl (by simp)
      simp [openVs] at t28
      go_simp
      exact ST.out
    | 15, ho =>
      have ST := StO.sm (by kernel_rfl) ha hw ho h1 (by decide)
      cases ho
      rw [if_pos (by rfl)]
      have t14 := ha.new 14 (h2 ⟨14, .data⟩ (by simp) rfl) (d := 14) rfl rfl (by simp)
      simp [openVs] at t14
      go_simp
      exact ST.out
    | 16, ho =>
      have ST := StO.sm (by kernel_rfl) ha hw ho h1 (by decide)
      cases ho
      rw [if_pos (by rfl)]
      have t14 := ha.new 14 (h2 ⟨14, .data⟩ (by simp) rfl) (d := 14) rfl rfl (by simp)
      simp [openVs] at t14
      go_simp
      exact ST.out
    | 17, ho =>
      have n9 : on listed 18 = false := by
        cases hb : on listed 18 with
        | false => rfl
        | true => have := hcl 18 _ rfl hb ⟨17, .data⟩ (by simp) rfl; rw [on_no h1] at this; cases this
      have st := StO.boxed (by kernel_rfl) ha hw hl ho h1 n9
      have ST := Lib.hid st; clear st
      cases ho
      rw [if_pos (by rfl)]
      go_simp
      exact ST.out
    | 18, ho =>
      have y8 : on listed 17 = true := h2 ⟨17, .data⟩ (by cases ho; simp) rfl
      have y4 : on listed 13 = true := h2 ⟨13, .chain⟩ (by cases ho; simp) rfl
      have t10 := ha.new 17 y8 (d := 10) rfl rfl (by simp)
      simp [openVs] at t10
      have t29 := ha.new 15 (h2 ⟨15, .data⟩ (by cases ho; simp) rfl) (d := 29) rfl rfl (by simp)
      simp [openVs] at t29
      obtain ⟨hbp, ⟨f0, f1, f2, f3, b0, b1, b2, b3⟩, hbf⟩ := hw.box y8
      have bf0 := hbf 0
      have bf1 := hbf 1
      have bf2 := hbf 2
      have bf3 := hbf 3
      rcases hw.res y4 with ⟨_, _, he, _⟩ | ⟨rfl, _⟩
      · cases he
      · have st := StO.stored (by kernel_rfl) ha hw hl ho (by cases ho; rfl) h1 y8 (show zeroChoir = _ from rfl)
        have ST := Lib.hid st; clear st
        cases ho
        rw [if_pos (by rfl)]
        unfold zeroChoir at t29
        clear hbf
        go_simp
        exact ST.out
    | 19, ho =>
      have ST := StO.sm (by kernel_rfl) ha hw ho h1 (by decide)
      cases ho
      rw [if_pos (by rfl)]
      have t30 := ha.new 16 (h2 ⟨16, .data⟩ (by simp) rfl) (d := 30) rfl rfl (by simp)
      simp [openVs] at t30
      go_simp
      exact ST.out
  case hend =>
    rintro listed a w hall ⟨v, err, pp, ha, hw⟩
    rw [show on listed 13 = true from hall 13 (by simp), show on listed 17 = true from hall 17 (by simp), show on listed 18 = true from hall 18 (by simp)] at hw
    obtain ⟨y, hy, hae⟩ := ha.lit (n := 46) rfl
    have y1 := (hy 1).symm.trans (ha.old 1 (by kernel_rfl))
    have y2 := (hy 2).symm.trans (ha.old 2 (by kernel_rfl))
    have y7 := (hy 7).symm.trans (ha.old 7 (by kernel_rfl))
    have y8 := (hy 8).symm.trans (ha.old 8 (by kernel_rfl))
    have y9 := (hy 9).symm.trans (ha.old 9 (by kernel_rfl))
    have y10 := (hy 10).symm.trans (ha.new 17 (hall 17 (by simp)) (d := 10) rfl rfl (by simp))
    have y11 := (hy 11).symm.trans (ha.new 19 (hall 19 (by simp)) (d := 11) rfl rfl (by simp))
    simp at y1 y2 y7 y8 y9
    simp [openVs] at y10 y11
    simp only [List.range, List.range.loop, List.map] at hae
    rw [y1, y2, y7, y8, y9, y10, y11] at hae
    subst hae
    clear ha hy y1 y2 y7 y8 y9 y10 y11
    refine (by assumption : ∀ a w, Code.wpIn _ _ _ _ _ a w → _) _ w ?_
    have wl := kcell hw.kept lc
    have wh := kcell hw.kept hc
    obtain ⟨_, x0, x1, x2, x3, hv, b0, b1, b2, b3⟩ := hw.put rfl
    rcases hw.res rfl with ⟨_, _, he, _⟩ | ⟨rfl, herr⟩
    · cases he
    · rcases herr with ⟨rfl, he⟩ | ⟨rfl, he, he2⟩ | ⟨_, _, he, _⟩
      · 
        gi_wp2_with fail
        refine bodyPost_ret (v := .tuple #[.int .i64 0, .int .i64 20]) (by simp [results, Tryz.results26, go_sem]) rfl ?_
        refine ⟨20, rfl, ?_, .inl ⟨rfl, he⟩⟩
        exact kept_trans hk0 hw.kept
      · 
        gi_wp2_with fail
        refine bodyPost_ret (v := .tuple #[.int .i64 0, .int .i64 21]) (by simp [results, Tryz.results26, go_sem]) rfl ?_
        refine ⟨21, rfl, ?_, .inr ⟨rfl, he, rfl⟩⟩
        exact kept_trans hk0 hw.kept
      · cases he
set_option maxHeartbeats 4000000 in
theorem heir_e3 (p q : Option Addr) (cap capt : Nat) (B : Book) (boy week lo hi : Int) (W : World) (h : BookAt W p q cap capt B) (hg : Nothing W) (hboyT : inB boy 0 (B.boys.length - 1) = true) (hweekT : inB week 0 (wrap64 (B.weeks - 1)) = true) (hspanT : (inB lo 0 hi && decide (hi ≤ 40)) = true) (hok0 : B.okB = false) :
    Calls Tryz.prog 26 #[B.val p q cap capt, .int .i64 boy, .int .i64 week, .agg #[.int .i64 lo, .int .i64 hi]] W (ErrQ B (.int .i64 0) true W) := by
  have hnb := h.nb
  refine callsIn_wide.1 (callsIn_of_wp (n := 0) Tryz.func26 rfl trivial ?_ rfl)
  simp only [Tryz.ntmps26, List.size_toArray, List.length_cons, List.length_nil, Nat.reduceAdd, Nat.reduceSub, Array.replicate_succ, Array.replicate_zero, List.push_toArray, List.append_toArray, List.nil_append, List.cons_append]
  unfold Book.val
  gi_wp2_with fail
  obtain ⟨hk0, a0c, a1c, a2c⟩ := bk1 W p q cap capt B (Obj.cells #[.int .i64 lo, .int .i64 hi] 32)
  have lc : ((W.alloc (Obj.cells #[.slice p B.boys.length cap, .int .i64 B.weeks, .slice q B.trials.length capt] 25)).alloc (Obj.cells #[.int .i64 lo, .int .i64 hi] 32)).cell? ⟨W.heap.size + 1, 0, none⟩ = some (.int .i64 lo) := by go_simp
  have hc : ((W.alloc (Obj.cells #[.slice p B.boys.length cap, .int .i64 B.weeks, .slice q B.trials.length capt] 25)).alloc (Obj.cells #[.int .i64 lo, .int .i64 hi] 32)).cell? ⟨W.heap.size + 1, 1, none⟩ = some (.int .i64 hi) := by go_simp
  generalize ((W.alloc (Obj.cells #[.slice p B.boys.length cap, .int .i64 B.weeks, .slice q B.trials.length capt] 25)).alloc (Obj.cells #[.int .i64 lo, .int .i64 hi] 32)) = W0 at *
  refine wpIn_region_invL (StO 13 (fun j => match j with | 0 => (.agg #[.slice p B.boys.length cap, .int .i64 B.weeks, .slice q B.trials.length capt]) | 1 => (.agg #[.slice p B.boys.length cap, .int .i64 B.weeks, .slice q B.trials.length capt]) | 2 => .int .i64 boy | 3 => .bool true | 4 => .bool true | 5 => (.agg #[.slice p B.boys.length cap, .int .i64 B.weeks, .slice q B.trials.length capt]) | 6 => .int .i64 week | 7 => .bool true | 8 => .bool true | 9 => .bool true | 10 => .agg #[.int .i64 lo, .int .i64 hi] | 11 => .bool true | 12 => .bool true | _ => undef) W0 B true) (by kernel_rfl) (by kernel_rfl) StO.start ?hop ?hend
  case hop =>
    rintro i o listed a w hl ho h1 h2 hcl ⟨v, err, pp, ha, hw⟩
    have hi11 : i < 20 := (List.getElem?_eq_some_iff.1 ho).1
    match i, ho with
    | 0, ho =>
      have ST := StO.sm (by kernel_rfl) ha hw ho h1 (by decide)
      cases ho
      rw [if_pos (by rfl)]
      have t4 := ha.old 4 (by kernel_rfl)
      simp at t4
      have r0 := kcell hw.kept a0c
      have r1 := kcell hw.kept a1c
      have r2 := kcell hw.kept a2c
      go_simp
      exact ST.out
    | 1, ho =>
      have ST := StO.sm (by kernel_rfl) ha hw ho h1 (by decide)
      cases ho
      rw [if_pos (by rfl)]
      have t4 := ha.old 4 (by kernel_rfl)
      simp at t4
      have r0 := kcell hw.kept a0c
      have r1 := kcell hw.kept a1c
      have r2 := kcell hw.kept a2c
      go_simp
      exact ST.out
    | 2, ho =>
      have ST := StO.sm (by kernel_rfl) ha hw ho h1 (by decide)
      cases ho
      rw [if_pos (by rfl)]
      have t1 := ha.old 1 (by kernel_rfl)
      simp at t1
      go_simp
      exact ST.out
    | 3, ho =>
      have st := fun w' (k : Kept w w') => StO.same (by kernel_rfl) ha hw ho h1 (by omega) (by omega) (by omega) k
      have ST := Lib.hid st; clear st
      cases ho
      rw [if_pos (by rfl)]
      have t16 := ha.new 1 (h2 ⟨1, .data⟩ (by simp) rfl) (d := 16) rfl rfl (by simp)
      simp [openVs] at t16
      have t17 := ha.new 2 (h2 ⟨2, .data⟩ (by simp) rfl) (d := 17) rfl rfl (by simp)
      simp [openVs] at t17
      have hcall := isBoy_any p B.boys.length cap (.int .i64 B.weeks) (.slice q B.trials.length capt) boy w hnb
      rw [hboyT] at hcall
      go_simp
      refine ⟨trivial, rfl, (callsIn_wide.2 hcall).mono ?_⟩
      rintro e w' ⟨rfl, hk⟩
      exact ST.out _ hk
    | 4, ho =>
      have ST := StO.sm (by kernel_rfl) ha hw ho h1 (by decide)
      cases ho
      rw [if_pos (by rfl)]
      have t18 := ha.new 3 (h2 ⟨3, .data⟩ (by simp) rfl) (d := 18) rfl rfl (by simp)
      simp [openVs] at t18
      go_simp
      exact ST.out
    | 5, ho =>
      have ST := StO.sm (by kernel_rfl) ha hw ho h1 (by decide)
      cases ho
      have t19 := ha.new 4 (h2 ⟨4, .guard⟩ (by simp) rfl) (d := 19) rfl rfl (by simp)
      simp [openVs] at t19
      rw [if_pos (by simp [Region.wanted, yielded, getD_bool t19])]
      have t4 := ha.old 4 (by kernel_rfl)
      simp at t4
      have r0 := kcell hw.kept a0c
      have r1 := kcell hw.kept a1c
      have r2 := kcell hw.kept a2c
      go_simp
      exact ST.out
    | 6, ho =>
      have ST := StO.sm (by kernel_rfl) ha hw ho h1 (by decide)
      cases ho
      have t19 := ha.new 4 (h2 ⟨4, .guard⟩ (by simp) rfl) (d := 19) rfl rfl (by simp)
      simp [openVs] at t19
      rw [if_pos (by simp [Region.wanted, yielded, getD_bool t19])]
      have t2 := ha.old 2 (by kernel_rfl)
      simp at t2
      go_simp
      exact ST.out
    | 7, ho =>
      have st := fun w' (k : Kept w w') => StO.same (by kernel_rfl) ha hw ho h1 (by omega) (by omega) (by omega) k
      have ST := Lib.hid st; clear st
      cases ho
      have t19 := ha.new 4 (h2 ⟨4, .guard⟩ (by simp) rfl) (d := 19) rfl rfl (by simp)
      simp [openVs] at t19
      rw [if_pos (by simp [Region.wanted, yielded, getD_bool t19])]
      have t20 := ha.new 5 (h2 ⟨5, .data⟩ (by simp) rfl) (d := 20) rfl rfl (by simp)
      simp [openVs] at t20
      have t21 := ha.new 6 (h2 ⟨6, .data⟩ (by simp) rfl) (d := 21) rfl rfl (by simp)
      simp [openVs] at t21
      have hcall := isWeek_gen (.slice p B.boys.length cap) (.slice q B.trials.length capt) B.weeks week w
      rw [hweekT] at hcall
      go_simp
      refine ⟨trivial, rfl, (callsIn_wide.2 hcall).mono ?_⟩
      rintro e w' ⟨rfl, hk⟩
      exact ST.out _ hk
    | 8, ho =>
      have ST := StO.sm (by kernel_rfl) ha hw ho h1 (by decide)
      cases ho
      rw [if_pos (by rfl)]
      have t19 := ha.new 4 (h2 ⟨4, .data⟩ (by simp) rfl) (d := 19) rfl rfl (by simp)
      simp [openVs] at t19
      have t22 := ha.new 7 (h2 ⟨7, .data⟩ (by simp) rfl) (d := 22) rfl rfl (by simp)
      simp [openVs] at t22
      go_simp
      exact ST.out
    | 9, ho =>
      have ST := StO.sm (by kernel_rfl) ha hw ho h1 (by decide)
      cases ho
      rw [if_pos (by rfl)]
      have t23 := ha.new 8 (h2 ⟨8, .data⟩ (by simp) rfl) (d := 23) rfl rfl (by simp)
      simp [openVs] at t23
      go_simp
      exact ST.out
    | 10, ho =>
      have ST := StO.sm (by kernel_rfl) ha hw ho h1 (by decide)
      cases ho
      have t24 := ha.new 9 (h2 ⟨9, .guard⟩ (by simp) rfl) (d := 24) rfl rfl (by simp)
      simp [openVs] at t24
      rw [if_pos (by simp [Region.wanted, yielded, getD_bool t24])]
      have t7 := ha.old 7 (by kernel_rfl)
      simp at t7
      have rl0 := kcell hw.kept lc
      have rh0 := kcell hw.kept hc
      go_simp
      exact ST.out
    | 11, ho =>
      have st := fun w' (k : Kept w w') => StO.same (by kernel_rfl) ha hw ho h1 (by omega) (by omega) (by omega) k
      have ST := Lib.hid st; clear st
      cases ho
      have t24 := ha.new 9 (h2 ⟨9, .guard⟩ (by simp) rfl) (d := 24) rfl rfl (by simp)
      simp [openVs] at t24
      rw [if_pos (by simp [Region.wanted, yielded, getD_bool t24])]
      have t25 := ha.new 10 (h2 ⟨10, .data⟩ (by simp) rfl) (d := 25) rfl rfl (by simp)
      simp [openVs] at t25
      have hcall := isSpan_any lo hi 40 w
      rw [hspanT] at hcall
      go_simp
      refine ⟨trivial, rfl, (callsIn_wide.2 hcall).mono ?_⟩
      rintro e w' ⟨rfl, hk⟩
      exact ST.out _ hk
    | 12, ho =>
      have ST := StO.sm (by kernel_rfl) ha hw ho h1 (by decide)
      cases ho
      rw [if_pos (by rfl)]
      have t24 := ha.new 9 (h2 ⟨9, .data⟩ (by simp) rfl) (d := 24) rfl rfl (by simp)
      simp [openVs] at t24
      have t26 := ha.new 11 (h2 ⟨11, .data⟩ (by simp) rfl) (d := 26) rfl rfl (by simp)
      simp [openVs] at t26
      go_simp
      exact ST.out
    | 13, ho =>
      obtain ⟨n5, n6, n7, n9, n10⟩ := open_first hcl h1 ⟨_, rfl, ⟨13, .data⟩, by simp, rfl, rfl⟩ ⟨_, rfl, ⟨14, .data⟩, by simp, rfl, rfl⟩ ⟨_, rfl, ⟨14, .data⟩, by simp, rfl, rfl⟩ ⟨_, rfl, ⟨15, .data⟩, by simp, rfl, rfl⟩ ⟨_, rfl, ⟨16, .data⟩, by simp, rfl, rfl⟩
      have st := fun v' err' w' (k : OpenReg W0 B true v' err' pp true (on listed 17) (on listed 18) w') => StO.opened (by kernel_rfl) ha hl ho h1 n5 n6 n7 n9 n10 k
      have ST := Lib.hid st; clear st
      cases ho
      rw [if_pos (by rfl)]
      have t15 := ha.new 0 (h2 ⟨0, .data⟩ (by simp) rfl) (d := 15) rfl rfl (by simp)
      simp [openVs] at t15
      have t27 := ha.new 12 (h2 ⟨12, .data⟩ (by simp) rfl) (d := 27) rfl rfl (by simp)
      simp [openVs] at t27
      have hcall := open_any p q cap capt B true W w h (kept_trans hk0 hw.kept) (hg.kept (kept_trans hk0 hw.kept))
      unfold Book.val at hcall
      have HOP := Lib.hid (fun e w' => hw.opened (e := e) (w' := w') W.heap.size hk0.size n9)
      go_simp
      refine ⟨trivial, rfl, (callsIn_wide.2 hcall).mono ?_⟩
      intro e w' hop
      obtain ⟨v', err', rfl, hr⟩ := HOP.out e w' hop
      exact ST.out v' err' w' hr
    | 14, ho =>
      have ST := StO.sm (by kernel_rfl) ha hw ho h1 (by decide)
      cases ho
      rw [if_pos (by rfl)]
      have t28 := ha.new 13 (h2 ⟨13, .data⟩ (by simp) rfl) (d := 28) rfl rfl (by simp)
      simp [openVs] at t28
      go_simp
      exact ST.out
    | 15, ho =>
      have ST := StO.sm (by kernel_rfl) ha hw ho h1 (by decide)
      cases ho
      rw [if_pos (by rfl)]
      have t14 := ha.new 14 (h2 ⟨14, .data⟩ (by simp) rfl) (d := 14) rfl rfl (by simp)
      simp [openVs] at t14
      go_simp
      exact ST.out
    | 16, ho =>
      have ST := StO.sm (by kernel_rfl) ha hw ho h1 (by decide)
      cases ho
      rw [if_pos (by rfl)]
      have t14 := ha.new 14 (h2 ⟨14, .data⟩ (by simp) rfl) (d := 14) rfl rfl (by simp)
      simp [openVs] at t14
      go_simp
      exact ST.out
    | 17, ho =>
      have n9 : on listed 18 = false := by
        cases hb : on listed 18 with
        | false => rfl
        | true => have := hcl 18 _ rfl hb ⟨17, .data⟩ (by simp) rfl; rw [on_no h1] at this; cases this
      have st := StO.boxed (by kernel_rfl) ha hw hl ho h1 n9
      have ST := Lib.hid st; clear st
      cases ho
      rw [if_pos (by rfl)]
      go_simp
      exact ST.out
    | 18, ho =>
      have y8 : on listed 17 = true := h2 ⟨17, .data⟩ (by cases ho; simp) rfl
      have y4 : on listed 13 = true := h2 ⟨13, .chain⟩ (by cases ho; simp) rfl
      have t10 := ha.new 17 y8 (d := 10) rfl rfl (by simp)
      simp [openVs] at t10
      have t29 := ha.new 15 (h2 ⟨15, .data⟩ (by cases ho; simp) rfl) (d := 29) rfl rfl (by simp)
      simp [openVs] at t29
      obtain ⟨hbp, ⟨f0, f1, f2, f3, b0, b1, b2, b3⟩, hbf⟩ := hw.box y8
      have bf0 := hbf 0
      have bf1 := hbf 1
      have bf2 := hbf 2
      have bf3 := hbf 3
      rcases hw.res y4 with ⟨_, _, _, _, c, S, hcB, rfl, _⟩ | ⟨rfl, _⟩
      · clear hcB
        have st := StO.stored (by kernel_rfl) ha hw hl ho (by cases ho; rfl) h1 y8 (show c.val = _ from rfl)
        have ST := Lib.hid st; clear st
        cases ho
        rw [if_pos (by rfl)]
        unfold Choir.val at t29
        clear hbf
        go_simp
        exact ST.out
      · have st := StO.stored (by kernel_rfl) ha hw hl ho (by cases ho; rfl) h1 y8 (show zeroChoir = _ from rfl)
        have ST := Lib.hid st; clear st
        cases ho
        rw [if_pos (by rfl)]
        unfold zeroChoir at t29
        clear hbf
        go_simp
        exact ST.out
    | 19, ho =>
      have ST := StO.sm (by kernel_rfl) ha hw ho h1 (by decide)
      cases ho
      rw [if_pos (by rfl)]
      have t30 := ha.new 16 (h2 ⟨16, .data⟩ (by simp) rfl) (d := 30) rfl rfl (by simp)
      simp [openVs] at t30
      go_simp
      exact ST.out
  case hend =>
    rintro listed a w hall ⟨v, err, pp, ha, hw⟩
    rw [show on listed 13 = true from hall 13 (by simp), show on listed 17 = true from hall 17 (by simp), show on listed 18 = true from hall 18 (by simp)] at hw
    obtain ⟨y, hy, hae⟩ := ha.lit (n := 46) rfl
    have y1 := (hy 1).symm.trans (ha.old 1 (by kernel_rfl))
    have y2 := (hy 2).symm.trans (ha.old 2 (by kernel_rfl))
    have y7 := (hy 7).symm.trans (ha.old 7 (by kernel_rfl))
    have y8 := (hy 8).symm.trans (ha.old 8 (by kernel_rfl))
    have y9 := (hy 9).symm.trans (ha.old 9 (by kernel_rfl))
    have y10 := (hy 10).symm.trans (ha.new 17 (hall 17 (by simp)) (d := 10) rfl rfl (by simp))
    have y11 := (hy 11).symm.trans (ha.new 19 (hall 19 (by simp)) (d := 11) rfl rfl (by simp))
    simp at y1 y2 y7 y8 y9
    simp [openVs] at y10 y11
    simp only [List.range, List.range.loop, List.map] at hae
    rw [y1, y2, y7, y8, y9, y10, y11] at hae
    subst hae
    clear ha hy y1 y2 y7 y8 y9 y10 y11
    refine (by assumption : ∀ a w, Code.wpIn _ _ _ _ _ a w → _) _ w ?_
    have wl := kcell hw.kept lc
    have wh := kcell hw.kept hc
    obtain ⟨_, x0, x1, x2, x3, hv, b0, b1, b2, b3⟩ := hw.put rfl
    rcases hw.res rfl with ⟨_, hok, _⟩ | ⟨rfl, herr⟩
    · rw [hok0] at hok; cases hok
    · rcases herr with ⟨rfl, he⟩ | ⟨_, he, _⟩ | ⟨_, he, _⟩
      · 
        gi_wp2_with fail
        refine bodyPost_ret (v := .tuple #[.int .i64 0, .int .i64 20]) (by simp [results, Tryz.results26, go_sem]) rfl ?_
        refine ⟨20, rfl, ?_, .inl ⟨rfl, he⟩⟩
        exact kept_trans hk0 hw.kept
      · rw [hok0] at he; cases he
      · rw [hok0] at he; cases he
end Go.Proofs.YthkcgengohoboaaGreatDoor
namespace Go.Proofs.YthkcgengohoboaaGreatDoor
open Go.RowKit Go.Sort Go.Rg
set_option maxRecDepth 100000
theorem span_of {lo hi : Int} {b : Bool} (h : fairB lo hi 40 40 = b) : (inB lo 0 hi && decide (hi ≤ 40)) = b := by
  rw [← h, Bool.eq_iff_iff]
  simp only [fairB, inB, Bool.and_eq_true, decide_eq_true_eq]
  omega
theorem week_of {B : Book} (hok : B.okB = true) {week : Int} (hw : inB week 0 (wrap64 (B.weeks - 1)) = true) : 0 ≤ week ∧ week < B.weeks := by
  obtain ⟨⟨-, -, q3, q4, -⟩, -, -⟩ := okB_boys hok
  have e := IntWalk.wrap64_in (B.weeks - 1) (by omega)
  simp only [inB, Bool.and_eq_true, decide_eq_true_eq, e] at hw
  omega
theorem sing_agree (p q : Option Addr) (cap capt : Nat) (B : Book) (boy week note : Int) (W : World) (h : BookAt W p q cap capt B) (hg : Nothing W) :
    ∃ v er : Int, (∀ V, Kept W V → Calls Tryz.prog 19 #[B.val p q cap capt, .int .i64 boy, .int .i64 week, .int .i64 note] V fun e C => e = .returned (.tuple #[.int .i64 v, .int .i64 er]) ∧ Kept V C) ∧ ∀ V, Kept W V → Calls Tryz.prog 20 #[B.val p q cap capt, .int .i64 boy, .int .i64 week, .int .i64 note] V fun e C => e = .returned (.tuple #[.int .i64 v, .int .i64 er]) ∧ Kept V C := by
  cases hb : inB boy 0 (B.boys.length - 1) with
  | false =>
    refine ⟨0, B.err false, fun V k => (sings_e0 p q cap capt B boy week note V (h.kept k) (hg.kept k) hb).mono ?_, fun V k => rsing_bad0 p q cap capt B boy week note _ V (h.kept k) hb rfl (err_false_ne B)⟩
    rintro e C ⟨err, rfl, hk, hc⟩
    refine ⟨?_, hk⟩
    rcases hc with ⟨rfl, ho⟩ | ⟨rfl, ho, -⟩
    · simp [Book.err, ho]
    · simp [Book.err, ho]
  | true =>
    cases hw : inB week 0 (wrap64 (B.weeks - 1)) with
    | false =>
      refine ⟨0, B.err false, fun V k => (sings_e1 p q cap capt B boy week note V (h.kept k) (hg.kept k) hb hw).mono ?_, fun V k => rsing_bad1 p q cap capt B boy week note _ V (h.kept k) hb hw rfl (err_false_ne B)⟩
      rintro e C ⟨err, rfl, hk, hc⟩
      refine ⟨?_, hk⟩
      rcases hc with ⟨rfl, ho⟩ | ⟨rfl, ho, -⟩
      · simp [Book.err, ho]
      · simp [Book.err, ho]
    | true =>
      cases hn : inB note 0 40 with
      | false =>
        refine ⟨0, B.err false, fun V k => (sings_e2 p q cap capt B boy week note V (h.kept k) (hg.kept k) hb hw hn).mono ?_, fun V k => rsing_bad2 p q cap capt B boy week note _ V (h.kept k) hb hw hn rfl (err_false_ne B)⟩
        rintro e C ⟨err, rfl, hk, hc⟩
        refine ⟨?_, hk⟩
        rcases hc with ⟨rfl, ho⟩ | ⟨rfl, ho, -⟩
        · simp [Book.err, ho]
        · simp [Book.err, ho]
      | true =>
        cases hok : B.okB with
        | false =>
          refine ⟨0, B.err true, fun V k => (sings_e3 p q cap capt B boy week note V (h.kept k) (hg.kept k) hb hw hn hok).mono ?_, fun V k => rsing_bad3 p q cap capt B boy week note _ V (h.kept k) hb hw hn rfl (by simp [Book.err, hok])⟩
          rintro e C ⟨err, rfl, hk, hc⟩
          refine ⟨?_, hk⟩
          rcases hc with ⟨rfl, ho⟩ | ⟨rfl, ho, -⟩
          · simp [Book.err, ho]
          · rw [hok] at ho; cases ho
        | true =>
          obtain ⟨bn, x, rfl, hx, hlt⟩ := boy_of hb
          have hwk := week_of hok hw
          have hw6 := (okB_boys hok).1.2.2.2.1
          have hnt : 0 ≤ note ∧ note ≤ 40 := by simpa [inB] using hn
          by_cases hc : Can B
          · have hf := (fine_can hok).2 hc
            have hL : B.voices bn x 0 ≠ [] := fun e => hc bn x hx ((voices_nil hok).1 e)
            refine ⟨_, 0, fun V k => (sings_all p q cap capt B bn week note V (h.kept k) (hg.kept k) hok hlt hwk hnt).mono ?_, fun V k => rsing_good p q cap capt B bn x (bn : Int) week note V (h.kept k) rfl hx hb hw hn (by omega) hok (by simp [Book.err, hok, hf])⟩
            rintro e C ⟨v, err, rfl, hk, hr⟩
            refine ⟨?_, hk⟩
            rcases hr with ⟨rfl, -, x', hx', rfl⟩ | ⟨-, hn', -⟩
            · rw [hx] at hx'; cases hx'
              rw [oftenV_eq hok hx hL]
            · exact absurd hc hn'
          · have hf : B.fineB 0 = false := by
              cases hh : B.fineB 0 with
              | false => rfl
              | true => exact absurd ((fine_can hok).1 hh) hc
            refine ⟨0, 22, fun V k => (sings_all p q cap capt B bn week note V (h.kept k) (hg.kept k) hok hlt hwk hnt).mono ?_, fun V k => rsing_bad3 p q cap capt B (bn : Int) week note 22 V (h.kept k) hb hw hn (by simp [Book.err, hok, hf]) rfl⟩
            rintro e C ⟨v, err, rfl, hk, hr⟩
            refine ⟨?_, hk⟩
            rcases hr with ⟨-, hn', -⟩ | ⟨rfl, -, rfl⟩
            · exact absurd hn' hc
            · rfl
theorem sure_agree (p q : Option Addr) (cap capt : Nat) (B : Book) (week note : Int) (W : World) (h : BookAt W p q cap capt B) (hg : Nothing W) :
    ∃ (l : List Nat) (er : Int), l.length ≤ 100 ∧ (∀ V, Kept W V → Calls Tryz.prog 21 #[B.val p q cap capt, .int .i64 week, .int .i64 note] V fun e C => ∃ v, e = .returned (.tuple #[v, .int .i64 er]) ∧ Kept V C ∧ ListAt C v l) ∧ ∀ V, Kept W V → Calls Tryz.prog 22 #[B.val p q cap capt, .int .i64 week, .int .i64 note] V fun e C => ∃ v, e = .returned (.tuple #[v, .int .i64 er]) ∧ Kept V C ∧ ListAt C v l := by
  cases hw : inB week 0 (wrap64 (B.weeks - 1)) with
  | false =>
    refine ⟨[], B.err false, by simp, fun V k => (surely_e0 p q cap capt B week note V (h.kept k) (hg.kept k) hw).mono ?_, fun V k => (rsure_bad0 p q cap capt B week note _ V (h.kept k) hw rfl (err_false_ne B)).mono ?_⟩
    rotate_left
    · rintro e C ⟨rfl, hk⟩
      exact ⟨_, rfl, hk, .inl ⟨rfl, rfl⟩⟩
    rintro e C ⟨err, rfl, hk, hc⟩
    refine ⟨_, ?_, hk, .inl ⟨rfl, rfl⟩⟩
    rcases hc with ⟨rfl, ho⟩ | ⟨rfl, ho, -⟩
    · simp [Book.err, ho]
    · simp [Book.err, ho]
  | true =>
    cases hn : inB note 0 40 with
    | false =>
      refine ⟨[], B.err false, by simp, fun V k => (surely_e1 p q cap capt B week note V (h.kept k) (hg.kept k) hw hn).mono ?_, fun V k => (rsure_bad1 p q cap capt B week note _ V (h.kept k) hw hn rfl (err_false_ne B)).mono ?_⟩
      rotate_left
      · rintro e C ⟨rfl, hk⟩
        exact ⟨_, rfl, hk, .inl ⟨rfl, rfl⟩⟩
      rintro e C ⟨err, rfl, hk, hc⟩
      refine ⟨_, ?_, hk, .inl ⟨rfl, rfl⟩⟩
      rcases hc with ⟨rfl, ho⟩ | ⟨rfl, ho, -⟩
      · simp [Book.err, ho]
      · simp [Book.err, ho]
    | true =>
      cases hok : B.okB with
      | false =>
        refine ⟨[], B.err true, by simp, fun V k => (surely_e2 p q cap capt B week note V (h.kept k) (hg.kept k) hw hn hok).mono ?_, fun V k => (rsure_bad2 p q cap capt B week note _ V (h.kept k) hw hn rfl (by simp [Book.err, hok])).mono ?_⟩
        rotate_left
        · rintro e C ⟨rfl, hk⟩
          exact ⟨_, rfl, hk, .inl ⟨rfl, rfl⟩⟩
        rintro e C ⟨err, rfl, hk, hc⟩
        refine ⟨_, ?_, hk, .inl ⟨rfl, rfl⟩⟩
        rcases hc with ⟨rfl, ho⟩ | ⟨rfl, ho, -⟩
        · simp [Book.err, ho]
        · rw [hok] at ho; cases ho
      | true =>
        have hwk := week_of hok hw
        have hw6 := (okB_boys hok).1.2.2.2.1
        have hnt : 0 ≤ note ∧ note ≤ 40 := by simpa [inB] using hn
        by_cases hc : Can B
        · have hf := (fine_can hok).2 hc
          refine ⟨surelyL B (singsN B week note note) B.boys.length, 0, ?_, fun V k => (surely_all p q cap capt B week note V (h.kept k) (hg.kept k) hok hwk hnt).mono ?_, fun V k => (rsure_good p q cap capt B week note V (h.kept k) hw hn hwk hok hc (by simp [Book.err, hok, hf])).mono ?_⟩
          · obtain ⟨⟨-, q2, -⟩, -, -⟩ := okB_boys hok
            unfold surelyL
            exact Nat.le_trans (List.length_filter_le _ _) (by simp; omega)
          · rintro e C ⟨v, err, rfl, hk, hr⟩
            rcases hr with ⟨rfl, -, hrow⟩ | ⟨-, hn', -⟩
            · exact ⟨v, rfl, hk, ListAt.of_row hrow⟩
            · exact absurd hc hn'
          · rintro e C ⟨v, rfl, hk, hrow⟩
            exact ⟨v, rfl, hk, ListAt.of_row hrow⟩
        · have hf : B.fineB 0 = false := by
            cases hh : B.fineB 0 with
            | false => rfl
            | true => exact absurd ((fine_can hok).1 hh) hc
          refine ⟨[], 22, by simp, fun V k => (surely_all p q cap capt B week note V (h.kept k) (hg.kept k) hok hwk hnt).mono ?_, fun V k => (rsure_bad2 p q cap capt B week note 22 V (h.kept k) hw hn (by simp [Book.err, hok, hf]) rfl).mono ?_⟩
          · rintro e C ⟨v, err, rfl, hk, hr⟩
            rcases hr with ⟨-, hn', -⟩ | ⟨rfl, -, rfl⟩
            · exact absurd hn' hc
            · exact ⟨_, rfl, hk, .inl ⟨rfl, rfl⟩⟩
          · rintro e C ⟨rfl, hk⟩
            exact ⟨_, rfl, hk, .inl ⟨rfl, rfl⟩⟩
theorem must_agree (p q : Option Addr) (cap capt : Nat) (B : Book) (week : Int) (W : World) (h : BookAt W p q cap capt B) (hg : Nothing W) :
    ∃ (l : List Nat) (er : Int), l.length ≤ 100 ∧ (∀ V, Kept W V → Calls Tryz.prog 24 #[B.val p q cap capt, .int .i64 week] V fun e C => ∃ v, e = .returned (.tuple #[v, .int .i64 er]) ∧ Kept V C ∧ ListAt C v l) ∧ ∀ V, Kept W V → Calls Tryz.prog 25 #[B.val p q cap capt, .int .i64 week] V fun e C => ∃ v, e = .returned (.tuple #[v, .int .i64 er]) ∧ Kept V C ∧ ListAt C v l := by
  cases hw : inB week 0 (wrap64 (B.weeks - 1)) with
  | false =>
    refine ⟨[], B.err false, by simp, fun V k => (must_e0 p q cap capt B week V (h.kept k) (hg.kept k) hw).mono ?_, fun V k => (rmust_bad0 p q cap capt B week _ V (h.kept k) hw rfl (err_false_ne B)).mono ?_⟩
    rotate_left
    · rintro e C ⟨rfl, hk⟩
      exact ⟨_, rfl, hk, .inl ⟨rfl, rfl⟩⟩
    rintro e C ⟨err, rfl, hk, hc⟩
    refine ⟨_, ?_, hk, .inl ⟨rfl, rfl⟩⟩
    rcases hc with ⟨rfl, ho⟩ | ⟨rfl, ho, -⟩
    · simp [Book.err, ho]
    · simp [Book.err, ho]
  | true =>
    cases hok : B.okB with
    | false =>
      refine ⟨[], B.err true, by simp, fun V k => (must_e1 p q cap capt B week V (h.kept k) (hg.kept k) hw hok).mono ?_, fun V k => (rmust_bad1 p q cap capt B week _ V (h.kept k) hw rfl (by simp [Book.err, hok])).mono ?_⟩
      rotate_left
      · rintro e C ⟨rfl, hk⟩
        exact ⟨_, rfl, hk, .inl ⟨rfl, rfl⟩⟩
      rintro e C ⟨err, rfl, hk, hc⟩
      refine ⟨_, ?_, hk, .inl ⟨rfl, rfl⟩⟩
      rcases hc with ⟨rfl, ho⟩ | ⟨rfl, ho, -⟩
      · simp [Book.err, ho]
      · rw [hok] at ho; cases ho
    | true =>
      have hwk := week_of hok hw
      have hw6 := (okB_boys hok).1.2.2.2.1
      by_cases hc : Can B
      · have hf := (fine_can hok).2 hc
        refine ⟨surelyL B (fun _ => brokenB week) B.boys.length, 0, ?_, fun V k => (must_any p q cap capt B week V (h.kept k) (hg.kept k) hok hwk).mono ?_, fun V k => (rmust_good p q cap capt B week V (h.kept k) hw hwk hok hc (by simp [Book.err, hok, hf])).mono ?_⟩
        · obtain ⟨⟨-, q2, -⟩, -, -⟩ := okB_boys hok
          unfold surelyL
          exact Nat.le_trans (List.length_filter_le _ _) (by simp; omega)
        · rintro e C ⟨v, err, rfl, hk, hr⟩
          rcases hr with ⟨rfl, -, hrow⟩ | ⟨-, hn', -⟩
          · exact ⟨v, rfl, hk, ListAt.of_row hrow⟩
          · exact absurd hc hn'
        · rintro e C ⟨v, rfl, hk, hrow⟩
          exact ⟨v, rfl, hk, ListAt.of_row hrow⟩
      · have hf : B.fineB 0 = false := by
          cases hh : B.fineB 0 with
          | false => rfl
          | true => exact absurd ((fine_can hok).1 hh) hc
        refine ⟨[], 22, by simp, fun V k => (must_any p q cap capt B week V (h.kept k) (hg.kept k) hok hwk).mono ?_, fun V k => (rmust_bad1 p q cap capt B week 22 V (h.kept k) hw (by simp [Book.err, hok, hf]) rfl).mono ?_⟩
        · rintro e C ⟨v, err, rfl, hk, hr⟩
          rcases hr with ⟨-, hn', -⟩ | ⟨rfl, -, rfl⟩
          · exact absurd hn' hc
          · exact ⟨_, rfl, hk, .inl ⟨rfl, rfl⟩⟩
        · rintro e C ⟨rfl, hk⟩
          exact ⟨_, rfl, hk, .inl ⟨rfl, rfl⟩⟩
theorem heir_agree (p q : Option Addr) (cap capt : Nat) (B : Book) (boy week lo hi : Int) (W : World) (h : BookAt W p q cap capt B) (hg : Nothing W) :
    ∃ v er : Int, (∀ V, Kept W V → Calls Tryz.prog 26 #[B.val p q cap capt, .int .i64 boy, .int .i64 week, .agg #[.int .i64 lo, .int .i64 hi]] V fun e C => e = .returned (.tuple #[.int .i64 v, .int .i64 er]) ∧ Kept V C) ∧ ∀ V, Kept W V → Calls Tryz.prog 27 #[B.val p q cap capt, .int .i64 boy, .int .i64 week, .agg #[.int .i64 lo, .int .i64 hi]] V fun e C => e = .returned (.tuple #[.int .i64 v, .int .i64 er]) ∧ Kept V C := by
  cases hb : inB boy 0 (B.boys.length - 1) with
  | false =>
    refine ⟨0, B.err false, fun V k => (heir_e0 p q cap capt B boy week lo hi V (h.kept k) (hg.kept k) hb).mono ?_, fun V k => rheir_bad0 p q cap capt B boy week lo hi _ V (h.kept k) hb rfl (err_false_ne B)⟩
    rintro e C ⟨err, rfl, hk, hc⟩
    refine ⟨?_, hk⟩
    rcases hc with ⟨rfl, ho⟩ | ⟨rfl, ho, -⟩
    · simp [Book.err, ho]
    · simp [Book.err, ho]
  | true =>
    cases hw : inB week 0 (wrap64 (B.weeks - 1)) with
    | false =>
      refine ⟨0, B.err false, fun V k => (heir_e1 p q cap capt B boy week lo hi V (h.kept k) (hg.kept k) hb hw).mono ?_, fun V k => rheir_bad1 p q cap capt B boy week lo hi _ V (h.kept k) hb hw rfl (err_false_ne B)⟩
      rintro e C ⟨err, rfl, hk, hc⟩
      refine ⟨?_, hk⟩
      rcases hc with ⟨rfl, ho⟩ | ⟨rfl, ho, -⟩
      · simp [Book.err, ho]
      · simp [Book.err, ho]
    | true =>
      cases hs : fairB lo hi 40 40 with
      | false =>
        refine ⟨0, B.err false, fun V k => (heir_e2 p q cap capt B boy week lo hi V (h.kept k) (hg.kept k) hb hw (span_of hs)).mono ?_, fun V k => rheir_bad2 p q cap capt B boy week lo hi _ V (h.kept k) hb hw hs rfl (err_false_ne B)⟩
        rintro e C ⟨err, rfl, hk, hc⟩
        refine ⟨?_, hk⟩
        rcases hc with ⟨rfl, ho⟩ | ⟨rfl, ho, -⟩
        · simp [Book.err, ho]
        · simp [Book.err, ho]
      | true =>
        cases hok : B.okB with
        | false =>
          refine ⟨0, B.err true, fun V k => (heir_e3 p q cap capt B boy week lo hi V (h.kept k) (hg.kept k) hb hw (span_of hs) hok).mono ?_, fun V k => rheir_bad3 p q cap capt B boy week lo hi _ V (h.kept k) hb hw hs rfl (by simp [Book.err, hok])⟩
          rintro e C ⟨err, rfl, hk, hc⟩
          refine ⟨?_, hk⟩
          rcases hc with ⟨rfl, ho⟩ | ⟨rfl, ho, -⟩
          · simp [Book.err, ho]
          · rw [hok] at ho; cases ho
        | true =>
          obtain ⟨bn, x, rfl, hx, hlt⟩ := boy_of hb
          have hwk := week_of hok hw
          have hw6 := (okB_boys hok).1.2.2.2.1
          have hsp : 0 ≤ lo ∧ lo ≤ hi ∧ hi ≤ 40 := by
            simp only [fairB, Bool.and_eq_true, decide_eq_true_eq] at hs
            omega
          by_cases hc : Can B
          · have hf := (fine_can hok).2 hc
            obtain ⟨hv, he, hh⟩ : ∃ hv he : Int, heirR (heirOf (surelyL B (singsN B week lo hi) B.boys.length) bn) = .tuple #[.int .i64 hv, .int .i64 he] := by
              cases heirOf (surelyL B (singsN B week lo hi) B.boys.length) bn with
              | none => exact ⟨0, 4, rfl⟩
              | some b => exact ⟨b, 0, rfl⟩
            refine ⟨hv, he, fun V k => (heir_all p q cap capt B bn week lo hi V (h.kept k) (hg.kept k) hok hlt hwk hsp).mono ?_, fun V k => (rheir_good p q cap capt B bn (bn : Int) week lo hi V (h.kept k) rfl hb hw hs hwk hok hc (by simp [Book.err, hok, hf])).mono ?_⟩
            · rintro e C ⟨v, err, rfl, hk, hr⟩
              refine ⟨?_, hk⟩
              rcases hr with ⟨-, ⟨rfl, rfl, ho⟩ | ⟨rfl, b, rfl, ho⟩⟩ | ⟨-, hn', -⟩
              · rw [ho] at hh; exact congrArg Ending.returned hh
              · rw [ho] at hh; exact congrArg Ending.returned hh
              · exact absurd hc hn'
            · rintro e C ⟨rfl, hk⟩
              exact ⟨congrArg Ending.returned hh, hk⟩
          · have hf : B.fineB 0 = false := by
              cases hh : B.fineB 0 with
              | false => rfl
              | true => exact absurd ((fine_can hok).1 hh) hc
            refine ⟨0, 22, fun V k => (heir_all p q cap capt B bn week lo hi V (h.kept k) (hg.kept k) hok hlt hwk hsp).mono ?_, fun V k => rheir_bad3 p q cap capt B (bn : Int) week lo hi 22 V (h.kept k) hb hw hs (by simp [Book.err, hok, hf]) rfl⟩
            rintro e C ⟨v, err, rfl, hk, hr⟩
            refine ⟨?_, hk⟩
            rcases hr with ⟨hn', -⟩ | ⟨rfl, -, rfl⟩
            · exact absurd hn' hc
            · rfl
end Go.Proofs.YthkcgengohoboaaGreatDoor
