/- A boy is told for a part just if the layer of voices says that he surely sings its lowest and its highest note, whatever lies in the arguments: the law returns true. The package-level variables voice.nothing, voice.bounds and bench.rest hold what their initialisers lay (tied). -/
import Derived.Test.YteehcnicdkkimaaGreatDoorGF
set_option linter.all false
set_option linter.all false
namespace Go.Proofs.YteehcnicdkkimaaGreatDoor
open Go.RowKit Go.Sort Go.Rg
set_option maxRecDepth 100000
attribute [local go_sem] Oper.semAt_some

theorem sings_no (p q : Option Addr) (cap capt : Nat) (B : Book) (boy : Nat) (week note : Int) (W : World) (h : BookAt W p q cap capt B) (hg : Nothing W) (hok0 : B.okB = true) (hcan : ¬ Can B) (hb : boy < B.boys.length) (hwk0 : 0 ≤ week ∧ week < B.weeks) (hnt0 : 0 ≤ note ∧ note ≤ 40) :
    Calls Tryz.prog 14 #[.agg #[.slice p B.boys.length cap, .int .i64 B.weeks, .slice q B.trials.length capt], .int .i64 (boy : Int), .int .i64 week, .int .i64 note] W fun e C => e = .returned (.tuple #[.int .i64 0, .int .i64 22]) ∧ Kept W C := by
  refine (sings_all p q cap capt B boy week note W h hg hok0 hb hwk0 hnt0).mono ?_
  rintro e C ⟨v, err, rfl, hk, ⟨rfl, hc, x, hx, rfl⟩ | ⟨rfl, hn, rfl⟩⟩
  · exact absurd hc hcan
  · exact ⟨rfl, hk⟩
theorem sings_err (p q : Option Addr) (cap capt : Nat) (B : Book) (boy : Nat) (week note : Int) (W : World) (h : BookAt W p q cap capt B) (hg : Nothing W) (hok0 : B.okB = true) (hb : boy < B.boys.length) (hwk0 : 0 ≤ week ∧ week < B.weeks) (hnt0 : 0 ≤ note ∧ note ≤ 40) :
    Calls Tryz.prog 14 #[.agg #[.slice p B.boys.length cap, .int .i64 B.weeks, .slice q B.trials.length capt], .int .i64 (boy : Int), .int .i64 week, .int .i64 note] W fun e C => ∃ v err, e = .returned (.tuple #[.int .i64 v, .int .i64 err]) ∧ Kept W C ∧ ((Can B ∧ v = surelyN B boy week note ∧ err = 0) ∨ (¬ Can B ∧ v = 0 ∧ err = 22)) := by
  by_cases hc : Can B
  · refine (sings_one p q cap capt B boy week note W h hg hok0 hc hb hwk0 hnt0).mono ?_
    rintro e C ⟨rfl, hk⟩
    exact ⟨_, _, rfl, hk, .inl ⟨hc, rfl, rfl⟩⟩
  · refine (sings_no p q cap capt B boy week note W h hg hok0 hc hb hwk0 hnt0).mono ?_
    rintro e C ⟨rfl, hk⟩
    exact ⟨_, _, rfl, hk, .inr ⟨hc, rfl, rfl⟩⟩

set_option maxHeartbeats 4000000 in
theorem law_false (X : BBook) (n0 n1 n2 : Int) (W : World) (h : BBookAt W X) (hg : Nothing W) (hr : Rest W) (hok : X.okB = false) :
    Calls Tryz.prog 4 #[X.val, .agg #[.int .i64 n0, .int .i64 n1, .int .i64 n2]] W fun e C => e = .returned (.bool true) ∧ Kept W C := by
  have hk0 : Kept W ((W.alloc (Obj.cells #[.slice X.p X.B.boys.length X.cap, .int .i64 X.B.weeks, .slice X.q X.B.trials.length X.capt, .slice X.r X.pieces.length X.capp, .int .i64 X.most] 28)).alloc (Obj.cells #[.int .i64 n0, .int .i64 n1, .int .i64 n2] 46)) := kept_alloc (kept_alloc (kept_refl _) _) _
  have HC := Lib.hid (sound_any X _ (h.kept hk0))
  rw [hok] at HC
  have HS := Lib.hid (fun V (k : Kept W V) => seated_is V (h.book.laid.kept k) (hg.kept k) (hr.kept k))
  clear h hg hr
  unfold BBook.val at *
  go_enter Tryz.func4, Tryz.ntmps4
  go_wp2_with fail
  generalize ((W.alloc (Obj.cells #[.slice X.p X.B.boys.length X.cap, .int .i64 X.B.weeks, .slice X.q X.B.trials.length X.capt, .slice X.r X.pieces.length X.capp, .int .i64 X.most] 28)).alloc (Obj.cells #[.int .i64 n0, .int .i64 n1, .int .i64 n2] 46)) = W0 at *
  with_reducible refine HC.out.mono ?_
  rintro e w2 ⟨rfl, hk2⟩
  have hk02 := kept_trans hk0 hk2
  go_wp2_with fail
  with_reducible refine (HS.out _ hk02).mono ?_
  rintro e w3 ⟨rfl, hk3⟩
  go_wp2_with fail
  refine bodyPost_ret (v := .bool true) (by simp [results, Tryz.results4, go_sem]) rfl ?_
  exact ⟨rfl, kept_trans hk02 hk3⟩

set_option maxHeartbeats 8000000 in
theorem law_true (X : BBook) (n0 n1 n2 : Int) (W : World) (h : BBookAt W X) (hg : Nothing W) (hr : Rest W) (hok : X.okB = true) :
    Calls Tryz.prog 4 #[X.val, .agg #[.int .i64 n0, .int .i64 n1, .int .i64 n2]] W fun e C => e = .returned (.bool true) ∧ Kept W C := by
  obtain ⟨hvok, hnp, hmo, hpp⟩ := okB_parts hok
  have hvv := hvok
  simp only [Book.okB, inB, Bool.and_eq_true, decide_eq_true_eq] at hvv
  have hnb : 1 ≤ X.B.boys.length ∧ X.B.boys.length ≤ 4 := by omega
  clear hvv
  have hk0 : Kept W ((W.alloc (Obj.cells #[.slice X.p X.B.boys.length X.cap, .int .i64 X.B.weeks, .slice X.q X.B.trials.length X.capt, .slice X.r X.pieces.length X.capp, .int .i64 X.most] 28)).alloc (Obj.cells #[.int .i64 n0, .int .i64 n1, .int .i64 n2] 46)) := kept_alloc (kept_alloc (kept_refl _) _) _
  have HC := Lib.hid (sound_any X _ (h.kept hk0))
  rw [hok] at HC
  have HS := Lib.hid (fun V (k : Kept W V) => seated_is V (h.book.laid.kept k) (hg.kept k) (hr.kept k))
  have a0 : ((W.alloc (Obj.cells #[.slice X.p X.B.boys.length X.cap, .int .i64 X.B.weeks, .slice X.q X.B.trials.length X.capt, .slice X.r X.pieces.length X.capp, .int .i64 X.most] 28)).alloc (Obj.cells #[.int .i64 n0, .int .i64 n1, .int .i64 n2] 46)).cell? ⟨W.heap.size, 0, none⟩ = some (.slice X.p X.B.boys.length X.cap) := by go_simp
  have a1 : ((W.alloc (Obj.cells #[.slice X.p X.B.boys.length X.cap, .int .i64 X.B.weeks, .slice X.q X.B.trials.length X.capt, .slice X.r X.pieces.length X.capp, .int .i64 X.most] 28)).alloc (Obj.cells #[.int .i64 n0, .int .i64 n1, .int .i64 n2] 46)).cell? ⟨W.heap.size, 1, none⟩ = some (.int .i64 X.B.weeks) := by go_simp
  have a2 : ((W.alloc (Obj.cells #[.slice X.p X.B.boys.length X.cap, .int .i64 X.B.weeks, .slice X.q X.B.trials.length X.capt, .slice X.r X.pieces.length X.capp, .int .i64 X.most] 28)).alloc (Obj.cells #[.int .i64 n0, .int .i64 n1, .int .i64 n2] 46)).cell? ⟨W.heap.size, 2, none⟩ = some (.slice X.q X.B.trials.length X.capt) := by go_simp
  have a3 : ((W.alloc (Obj.cells #[.slice X.p X.B.boys.length X.cap, .int .i64 X.B.weeks, .slice X.q X.B.trials.length X.capt, .slice X.r X.pieces.length X.capp, .int .i64 X.most] 28)).alloc (Obj.cells #[.int .i64 n0, .int .i64 n1, .int .i64 n2] 46)).cell? ⟨W.heap.size, 3, none⟩ = some (.slice X.r X.pieces.length X.capp) := by go_simp
  have a4 : ((W.alloc (Obj.cells #[.slice X.p X.B.boys.length X.cap, .int .i64 X.B.weeks, .slice X.q X.B.trials.length X.capt, .slice X.r X.pieces.length X.capp, .int .i64 X.most] 28)).alloc (Obj.cells #[.int .i64 n0, .int .i64 n1, .int .i64 n2] 46)).cell? ⟨W.heap.size, 4, none⟩ = some (.int .i64 X.most) := by go_simp
  have b0 : ((W.alloc (Obj.cells #[.slice X.p X.B.boys.length X.cap, .int .i64 X.B.weeks, .slice X.q X.B.trials.length X.capt, .slice X.r X.pieces.length X.capp, .int .i64 X.most] 28)).alloc (Obj.cells #[.int .i64 n0, .int .i64 n1, .int .i64 n2] 46)).cell? ⟨W.heap.size + 1, 0, none⟩ = some (.int .i64 n0) := by go_simp
  have b1 : ((W.alloc (Obj.cells #[.slice X.p X.B.boys.length X.cap, .int .i64 X.B.weeks, .slice X.q X.B.trials.length X.capt, .slice X.r X.pieces.length X.capp, .int .i64 X.most] 28)).alloc (Obj.cells #[.int .i64 n0, .int .i64 n1, .int .i64 n2] 46)).cell? ⟨W.heap.size + 1, 1, none⟩ = some (.int .i64 n1) := by go_simp
  have b2 : ((W.alloc (Obj.cells #[.slice X.p X.B.boys.length X.cap, .int .i64 X.B.weeks, .slice X.q X.B.trials.length X.capt, .slice X.r X.pieces.length X.capp, .int .i64 X.most] 28)).alloc (Obj.cells #[.int .i64 n0, .int .i64 n1, .int .i64 n2] 46)).cell? ⟨W.heap.size + 1, 2, none⟩ = some (.int .i64 n2) := by go_simp
  have HB := Lib.hid h
  have HG := Lib.hid hg
  clear h hg hr
  obtain ⟨p0, p1⟩ := turnI_lt n0 (X.pieces.length : Int) (by omega)
  have HT0 := Lib.hid (fun V => turn_is n0 (X.pieces.length : Int) (by omega) (by omega) V)
  obtain ⟨p, hp⟩ := Int.eq_ofNat_of_zero_le p0
  rw [hp] at HT0 p1
  have hpl : p < X.pieces.length := by omega
  obtain ⟨x, hx⟩ : ∃ x, X.pieces[p]? = some x := ⟨_, List.getElem?_eq_getElem hpl⟩
  obtain ⟨hxw, hxl, hparts⟩ := hpp p x hx
  obtain ⟨k0, k1⟩ := turnI_lt n1 (x.parts.length : Int) (by omega)
  have HT1 := Lib.hid (fun V => turn_is n1 (x.parts.length : Int) (by omega) (by omega) V)
  obtain ⟨k, hk⟩ := Int.eq_ofNat_of_zero_le k0
  rw [hk] at HT1 k1
  have hkl : k < x.parts.length := by omega
  obtain ⟨y, hy⟩ : ∃ y, x.parts[k]? = some y := ⟨_, List.getElem?_eq_getElem hkl⟩
  obtain ⟨m1, m2, m3, m4, m5⟩ := hparts k y hy
  obtain ⟨o0, o1⟩ := turnI_lt n2 (X.B.boys.length : Int) (by omega)
  have HT2 := Lib.hid (fun V => turn_is n2 (X.B.boys.length : Int) (by omega) (by omega) V)
  obtain ⟨boy, hboy⟩ := Int.eq_ofNat_of_zero_le o0
  rw [hboy] at HT2 o1
  have hbl : boy < X.B.boys.length := by omega
  clear p0 hp k0 hk o0 hboy hpp hparts hmo
  obtain ⟨bp, op, hrp, hbz, c0, c1, hpi⟩ := piece_cells HB.out hx
  obtain ⟨bq, oq, hxp, hqz, d0, d1, d2⟩ := part_cells hpi hy
  have hplI : (p : Int) < X.pieces.length := by omega
  have hp0I : (0 : Int) ≤ p := by omega
  have hklI : (k : Int) < x.parts.length := by omega
  have hk0I : (0 : Int) ≤ k := by omega
  have HX := Lib.hid hx
  have HY := Lib.hid hy
  have HRP := Lib.hid hrp
  have HXP := Lib.hid hxp
  have HW := Lib.hid (And.intro hxw (And.intro (show 0 ≤ y.lo ∧ y.lo ≤ 40 by omega) (show 0 ≤ y.hi ∧ y.hi ≤ 40 by omega)))
  rw [hxp] at c1
  clear hx hy hrp hxp hpi p1 k1 o1 m1 m2 m3 m4 m5 hxw hxl
  unfold BBook.val at *
  go_enter Tryz.func4, Tryz.ntmps4
  go_wp2_with fail
  generalize ((W.alloc (Obj.cells #[.slice X.p X.B.boys.length X.cap, .int .i64 X.B.weeks, .slice X.q X.B.trials.length X.capt, .slice X.r X.pieces.length X.capp, .int .i64 X.most] 28)).alloc (Obj.cells #[.int .i64 n0, .int .i64 n1, .int .i64 n2] 46)) = W0 at *
  with_reducible refine HC.out.mono ?_
  rintro e w2 ⟨rfl, hk2⟩
  have hk02 := kept_trans hk0 hk2
  replace a0 := kcell hk2 a0
  replace a1 := kcell hk2 a1
  replace a2 := kcell hk2 a2
  replace a3 := kcell hk2 a3
  replace a4 := kcell hk2 a4
  replace b0 := kcell hk2 b0
  replace b1 := kcell hk2 b1
  replace b2 := kcell hk2 b2
  replace c0 := kcell hk02 c0
  replace c1 := kcell hk02 c1
  replace d0 := kcell hk02 d0
  replace d1 := kcell hk02 d1
  replace d2 := kcell hk02 d2
  go_wp2_with fail
  with_reducible refine (HT0.out _).mono ?_
  rintro e w' ⟨rfl, rfl⟩
  rw [HRP.out] at a3
  have ra0 := cell_regrown a0
  have ra1 := cell_regrown a1
  have ra2 := cell_regrown a2
  have ra3 := cell_regrown a3
  have rb1 := cell_regrown b1
  have rb2 := cell_regrown b2
  have rc0 := cell_regrown c0
  have rc1 := cell_regrown c1
  have rd0 := cell_regrown d0
  have rd1 := cell_regrown d1
  have HT1W := Lib.hid (fun d os => Calls.regrown_of ((HT1.out (grow (redrawn w2 d) os)).mono (by rintro e w' ⟨rfl, rfl⟩; exact ⟨rfl, kept_refl _⟩)))
  have HT2W := Lib.hid (fun d os => Calls.regrown_of ((HT2.out (grow (redrawn w2 d) os)).mono (by rintro e w' ⟨rfl, rfl⟩; exact ⟨rfl, kept_refl _⟩)))
  go_wp2_with fail
  refine wp_region_quiet_below (by kernel_rfl) (by kernel_rfl) ?_
  repeat (any_goals (first | go_big_quiet_skip | quiet_step (first | with_reducible exact HT1W.out _ _ | with_reducible exact HT2W.out _ _)))
  refine wpQuiet_nil ?_
  intro _ hw'
  obtain ⟨⟨dq, osq⟩, hw''⟩ := hw'
  subst hw''
  have kQ := below_regrown w2 dq osq
  have hk03 := kept_trans hk02 kQ
  clear ra0
  replace a0 := kcell kQ a0
  clear ra1
  replace a1 := kcell kQ a1
  clear ra2
  replace a2 := kcell kQ a2
  clear ra3
  replace a3 := kcell kQ a3
  clear rb1
  replace b1 := kcell kQ b1
  clear rb2
  replace b2 := kcell kQ b2
  clear rc0
  replace c0 := kcell kQ c0
  clear rc1
  replace c1 := kcell kQ c1
  clear rd0
  replace d0 := kcell kQ d0
  clear rd1
  replace d1 := kcell kQ d1
  clear HT1W HT2W b0 b1 b2 d2
  generalize grow (redrawn w2 dq) osq = V3 at *
  go_wp2_with fail
  refine (wpIn_wide (n := 0)).1 (wpIn_region_invL (StG (Locs V3 (fun j : Nat => match j with | 0 => .pointer (some ⟨W.heap.size, 3, none⟩) | 1 => .slice (some ⟨bp, op, none⟩) X.pieces.length X.capp | 2 => .int .i64 (p : Int) | 3 => .pointer (some ⟨bp, op + p * 2, none⟩) | 4 => .agg #[.int .i64 x.week, .slice (some ⟨bq, oq, none⟩) x.parts.length x.cap] | 5 => .pointer (some ⟨W.heap.size, 3, none⟩) | 6 => .slice (some ⟨bp, op, none⟩) X.pieces.length X.capp | 7 => .int .i64 (p : Int) | 8 => .pointer (some ⟨bp, op + p * 2, none⟩) | 9 => .pointer (some ⟨bp, op + p * 2 + 1, none⟩) | 10 => .slice (some ⟨bq, oq, none⟩) x.parts.length x.cap | 11 => .int .i64 (k : Int) | 12 => .pointer (some ⟨bq, oq + k * 3, none⟩) | 13 => .pointer (some ⟨bq, oq + k * 3, none⟩) | 14 => .agg #[.int .i64 y.lo, .int .i64 y.hi] | _ => undef) [⟨15, 17, [.int .i64 0, .slice none 0 0], [.int .i64 x.week, .slice (some ⟨bq, oq, none⟩) x.parts.length x.cap]⟩, ⟨16, 18, [.int .i64 0, .int .i64 0], [.int .i64 y.lo, .int .i64 y.hi]⟩])) (by kernel_rfl) (by kernel_rfl) (StG.start Locs.start) ?hop ?hend)
  case hop =>
    rintro i o listed a w hl ho h1 h2 hcl ⟨vs, ha, hI⟩
    have hi11 : i < 19 := (List.getElem?_eq_some_iff.1 ho).1
    match i, ho with
    | 0, ho =>
      have st := StG.step (by kernel_rfl) ha hl ho h1 (hI.pure 0 (by kernel_rfl) (by simp) (kept_refl w))
      have ST := Lib.hid st; clear st
      cases ho
      rw [if_pos (by rfl)]
      have t2 := ha.old 2 (by kernel_rfl)
      simp at t2
      have HI := Lib.hid hI; clear hI
      go_simp
      exact ST.out
    | 1, ho =>
      have st := StG.step (by kernel_rfl) ha hl ho h1 (hI.pure 1 (by kernel_rfl) (by simp) (kept_refl w))
      have ST := Lib.hid st; clear st
      cases ho
      rw [if_pos (by rfl)]
      have t43 := (ha.new 0 (h2 ⟨0, .data⟩ (by simp) rfl) (d := 43) rfl rfl (by simp)).trans (hI.val 0 (h2 ⟨0, .data⟩ (by simp) rfl) (by kernel_rfl))
      simp at t43
      have ra3 := kcell hI.kept a3
      have HI := Lib.hid hI; clear hI
      go_simp
      exact ST.out
    | 2, ho =>
      have st := StG.step (by kernel_rfl) ha hl ho h1 (hI.pure 2 (by kernel_rfl) (by simp) (kept_refl w))
      have ST := Lib.hid st; clear st
      cases ho
      rw [if_pos (by rfl)]
      have t5 := ha.old 5 (by kernel_rfl)
      simp at t5
      have HI := Lib.hid hI; clear hI
      go_simp
      exact ST.out
    | 3, ho =>
      have st := StG.step (by kernel_rfl) ha hl ho h1 (hI.pure 3 (by kernel_rfl) (by simp) (kept_refl w))
      have ST := Lib.hid st; clear st
      cases ho
      rw [if_pos (by rfl)]
      have t44 := (ha.new 1 (h2 ⟨1, .data⟩ (by simp) rfl) (d := 44) rfl rfl (by simp)).trans (hI.val 1 (h2 ⟨1, .data⟩ (by simp) rfl) (by kernel_rfl))
      simp at t44
      have t45 := (ha.new 2 (h2 ⟨2, .data⟩ (by simp) rfl) (d := 45) rfl rfl (by simp)).trans (hI.val 2 (h2 ⟨2, .data⟩ (by simp) rfl) (by kernel_rfl))
      simp at t45
      have HI := Lib.hid hI; clear hI
      go_simp
      exact ST.out
    | 4, ho =>
      have st := StG.step (by kernel_rfl) ha hl ho h1 (hI.pure 4 (by kernel_rfl) (by simp) (kept_refl w))
      have ST := Lib.hid st; clear st
      cases ho
      rw [if_pos (by rfl)]
      have t46 := (ha.new 3 (h2 ⟨3, .data⟩ (by simp) rfl) (d := 46) rfl rfl (by simp)).trans (hI.val 3 (h2 ⟨3, .data⟩ (by simp) rfl) (by kernel_rfl))
      simp at t46
      have rc0 := kcell hI.kept c0
      have rc1 := kcell hI.kept c1
      have HI := Lib.hid hI; clear hI
      go_simp
      exact ST.out
    | 5, ho =>
      have st := StG.step (by kernel_rfl) ha hl ho h1 (hI.pure 5 (by kernel_rfl) (by simp) (kept_refl w))
      have ST := Lib.hid st; clear st
      cases ho
      rw [if_pos (by rfl)]
      have t2 := ha.old 2 (by kernel_rfl)
      simp at t2
      have HI := Lib.hid hI; clear hI
      go_simp
      exact ST.out
    | 6, ho =>
      have st := StG.step (by kernel_rfl) ha hl ho h1 (hI.pure 6 (by kernel_rfl) (by simp) (kept_refl w))
      have ST := Lib.hid st; clear st
      cases ho
      rw [if_pos (by rfl)]
      have t48 := (ha.new 5 (h2 ⟨5, .data⟩ (by simp) rfl) (d := 48) rfl rfl (by simp)).trans (hI.val 5 (h2 ⟨5, .data⟩ (by simp) rfl) (by kernel_rfl))
      simp at t48
      have ra3 := kcell hI.kept a3
      have HI := Lib.hid hI; clear hI
      go_simp
      exact ST.out
    | 7, ho =>
      have st := StG.step (by kernel_rfl) ha hl ho h1 (hI.pure 7 (by kernel_rfl) (by simp) (kept_refl w))
      have ST := Lib.hid st; clear st
      cases ho
      rw [if_pos (by rfl)]
      have t5 := ha.old 5 (by kernel_rfl)
      simp at t5
      have HI := Lib.hid hI; clear hI
      go_simp
      exact ST.out
    | 8, ho =>
      have st := StG.step (by kernel_rfl) ha hl ho h1 (hI.pure 8 (by kernel_rfl) (by simp) (kept_refl w))
      have ST := Lib.hid st; clear st
      cases ho
      rw [if_pos (by rfl)]
      have t49 := (ha.new 6 (h2 ⟨6, .data⟩ (by simp) rfl) (d := 49) rfl rfl (by simp)).trans (hI.val 6 (h2 ⟨6, .data⟩ (by simp) rfl) (by kernel_rfl))
      simp at t49
      have t50 := (ha.new 7 (h2 ⟨7, .data⟩ (by simp) rfl) (d := 50) rfl rfl (by simp)).trans (hI.val 7 (h2 ⟨7, .data⟩ (by simp) rfl) (by kernel_rfl))
      simp at t50
      have HI := Lib.hid hI; clear hI
      go_simp
      exact ST.out
    | 9, ho =>
      have st := StG.step (by kernel_rfl) ha hl ho h1 (hI.pure 9 (by kernel_rfl) (by simp) (kept_refl w))
      have ST := Lib.hid st; clear st
      cases ho
      rw [if_pos (by rfl)]
      have t51 := (ha.new 8 (h2 ⟨8, .data⟩ (by simp) rfl) (d := 51) rfl rfl (by simp)).trans (hI.val 8 (h2 ⟨8, .data⟩ (by simp) rfl) (by kernel_rfl))
      simp at t51
      have HI := Lib.hid hI; clear hI
      go_simp
      exact ST.out
    | 10, ho =>
      have st := StG.step (by kernel_rfl) ha hl ho h1 (hI.pure 10 (by kernel_rfl) (by simp) (kept_refl w))
      have ST := Lib.hid st; clear st
      cases ho
      rw [if_pos (by rfl)]
      have t52 := (ha.new 9 (h2 ⟨9, .data⟩ (by simp) rfl) (d := 52) rfl rfl (by simp)).trans (hI.val 9 (h2 ⟨9, .data⟩ (by simp) rfl) (by kernel_rfl))
      simp at t52
      have rc1 := kcell hI.kept c1
      have HI := Lib.hid hI; clear hI
      go_simp
      exact ST.out
    | 11, ho =>
      have st := StG.step (by kernel_rfl) ha hl ho h1 (hI.pure 11 (by kernel_rfl) (by simp) (kept_refl w))
      have ST := Lib.hid st; clear st
      cases ho
      rw [if_pos (by rfl)]
      have t6 := ha.old 6 (by kernel_rfl)
      simp at t6
      have HI := Lib.hid hI; clear hI
      go_simp
      exact ST.out
    | 12, ho =>
      have st := StG.step (by kernel_rfl) ha hl ho h1 (hI.pure 12 (by kernel_rfl) (by simp) (kept_refl w))
      have ST := Lib.hid st; clear st
      cases ho
      rw [if_pos (by rfl)]
      have t53 := (ha.new 10 (h2 ⟨10, .data⟩ (by simp) rfl) (d := 53) rfl rfl (by simp)).trans (hI.val 10 (h2 ⟨10, .data⟩ (by simp) rfl) (by kernel_rfl))
      simp at t53
      have t54 := (ha.new 11 (h2 ⟨11, .data⟩ (by simp) rfl) (d := 54) rfl rfl (by simp)).trans (hI.val 11 (h2 ⟨11, .data⟩ (by simp) rfl) (by kernel_rfl))
      simp at t54
      have HI := Lib.hid hI; clear hI
      go_simp
      exact ST.out
    | 13, ho =>
      have st := StG.step (by kernel_rfl) ha hl ho h1 (hI.pure 13 (by kernel_rfl) (by simp) (kept_refl w))
      have ST := Lib.hid st; clear st
      cases ho
      rw [if_pos (by rfl)]
      have t55 := (ha.new 12 (h2 ⟨12, .data⟩ (by simp) rfl) (d := 55) rfl rfl (by simp)).trans (hI.val 12 (h2 ⟨12, .data⟩ (by simp) rfl) (by kernel_rfl))
      simp at t55
      have HI := Lib.hid hI; clear hI
      go_simp
      exact ST.out
    | 14, ho =>
      have st := StG.step (by kernel_rfl) ha hl ho h1 (hI.pure 14 (by kernel_rfl) (by simp) (kept_refl w))
      have ST := Lib.hid st; clear st
      cases ho
      rw [if_pos (by rfl)]
      have t56 := (ha.new 13 (h2 ⟨13, .data⟩ (by simp) rfl) (d := 56) rfl rfl (by simp)).trans (hI.val 13 (h2 ⟨13, .data⟩ (by simp) rfl) (by kernel_rfl))
      simp at t56
      have rd0 := kcell hI.kept d0
      have rd1 := kcell hI.kept d1
      have HI := Lib.hid hI; clear hI
      go_simp
      exact ST.out
    | 15, ho =>
      have nst : on listed 17 = false := by
        cases hb : on listed 17 with
        | false => rfl
        | true => have := hcl 17 _ rfl hb ⟨15, .data⟩ (by simp) rfl; rw [on_no h1] at this; cases this
      have st := StG.step (by kernel_rfl) ha hl ho h1 (hI.laid ⟨15, 17, [.int .i64 0, .slice none 0 0], [.int .i64 x.week, .slice (some ⟨bq, oq, none⟩) x.parts.length x.cap]⟩ (by simp) (by simp) (by simp) nst 49)
      have ST := Lib.hid st; clear st
      have HI := Lib.hid hI; clear hI
      cases ho
      rw [if_pos (by rfl)]
      go_simp
      exact ST.out
    | 16, ho =>
      have nst : on listed 18 = false := by
        cases hb : on listed 18 with
        | false => rfl
        | true => have := hcl 18 _ rfl hb ⟨16, .data⟩ (by simp) rfl; rw [on_no h1] at this; cases this
      have st := StG.step (by kernel_rfl) ha hl ho h1 (hI.laid ⟨16, 18, [.int .i64 0, .int .i64 0], [.int .i64 y.lo, .int .i64 y.hi]⟩ (by simp) (by simp) (by simp) nst 51)
      have ST := Lib.hid st; clear st
      have HI := Lib.hid hI; clear hI
      cases ho
      rw [if_pos (by rfl)]
      go_simp
      exact ST.out
    | 17, ho =>
      have yal : on listed 15 = true := h2 ⟨15, .data⟩ (by cases ho; simp) rfl
      obtain ⟨bx, hbx, _, hbz, hcs, hbf, _⟩ := hI.loc ⟨15, 17, [.int .i64 0, .slice none 0 0], [.int .i64 x.week, .slice (some ⟨bq, oq, none⟩) x.parts.length x.cap]⟩ (by simp) yal
      have t8 := (ha.new 15 yal (d := 8) rfl rfl (by simp)).trans hbx
      have t47 := (ha.new 4 (h2 ⟨4, .data⟩ (by cases ho; simp) rfl) (d := 47) rfl rfl (by simp)).trans (hI.val 4 (h2 ⟨4, .data⟩ (by cases ho; simp) rfl) (by kernel_rfl))
      simp at t8 t47
      simp only [List.length_cons, List.length_nil, Nat.reduceAdd] at hcs
      obtain ⟨f0, bc0⟩ := hcs 0 (by simp)
      obtain ⟨f1, bc1⟩ := hcs 1 (by simp)
      have bf0 := hbf 0
      have bf1 := hbf 1
      have st := StG.step (by kernel_rfl) ha hl ho h1 (hI.stored ⟨15, 17, [.int .i64 0, .slice none 0 0], [.int .i64 x.week, .slice (some ⟨bq, oq, none⟩) x.parts.length x.cap]⟩ (by simp) (by kernel_rfl) (by simp) (by simp) yal rfl hbx)
      simp only [setAll, Nat.reduceAdd] at st
      have ST := Lib.hid st; clear st
      have HI := Lib.hid hI; clear hI
      clear hbf hcs
      cases ho
      rw [if_pos (by rfl)]
      go_simp
      exact ST.out
    | 18, ho =>
      have yal : on listed 16 = true := h2 ⟨16, .data⟩ (by cases ho; simp) rfl
      obtain ⟨bx, hbx, _, hbz, hcs, hbf, _⟩ := hI.loc ⟨16, 18, [.int .i64 0, .int .i64 0], [.int .i64 y.lo, .int .i64 y.hi]⟩ (by simp) yal
      have t9 := (ha.new 16 yal (d := 9) rfl rfl (by simp)).trans hbx
      have t57 := (ha.new 14 (h2 ⟨14, .data⟩ (by cases ho; simp) rfl) (d := 57) rfl rfl (by simp)).trans (hI.val 14 (h2 ⟨14, .data⟩ (by cases ho; simp) rfl) (by kernel_rfl))
      simp at t9 t57
      simp only [List.length_cons, List.length_nil, Nat.reduceAdd] at hcs
      obtain ⟨f0, bc0⟩ := hcs 0 (by simp)
      obtain ⟨f1, bc1⟩ := hcs 1 (by simp)
      have bf0 := hbf 0
      have bf1 := hbf 1
      have st := StG.step (by kernel_rfl) ha hl ho h1 (hI.stored ⟨16, 18, [.int .i64 0, .int .i64 0], [.int .i64 y.lo, .int .i64 y.hi]⟩ (by simp) (by kernel_rfl) (by simp) (by simp) yal rfl hbx)
      simp only [setAll, Nat.reduceAdd] at st
      have ST := Lib.hid st; clear st
      have HI := Lib.hid hI; clear hI
      clear hbf hcs
      cases ho
      rw [if_pos (by rfl)]
      go_simp
      exact ST.out
  case hend =>
    rintro listed a w hall ⟨vs, ha, hI⟩
    have kV := hI.kept
    obtain ⟨b8, e8, g8, z8, _, _, x8⟩ := hI.loc ⟨15, 17, [.int .i64 0, .slice none 0 0], [.int .i64 x.week, .slice (some ⟨bq, oq, none⟩) x.parts.length x.cap]⟩ (by simp) (hall 15 (by simp))
    obtain ⟨b9, e9, g9, z9, _, _, x9⟩ := hI.loc ⟨16, 18, [.int .i64 0, .int .i64 0], [.int .i64 y.lo, .int .i64 y.hi]⟩ (by simp) (hall 16 (by simp))
    have u0 := x8 (hall 17 (by simp)) 0 _ rfl
    have v0 := x9 (hall 18 (by simp)) 0 _ rfl
    have v1 := x9 (hall 18 (by simp)) 1 _ rfl
    obtain ⟨yy, hy, hae⟩ := ha.lit (n := 133) rfl
    have y2 := (hy 2).symm.trans (ha.old 2 (by kernel_rfl))
    have y3 := (hy 3).symm.trans (ha.old 3 (by kernel_rfl))
    have y4 := (hy 4).symm.trans (ha.old 4 (by kernel_rfl))
    have y5 := (hy 5).symm.trans (ha.old 5 (by kernel_rfl))
    have y6 := (hy 6).symm.trans (ha.old 6 (by kernel_rfl))
    have y7 := (hy 7).symm.trans (ha.old 7 (by kernel_rfl))
    have y8 := ((hy 8).symm.trans (ha.new 15 (hall 15 (by simp)) (d := 8) rfl rfl (by simp))).trans e8
    have y9 := ((hy 9).symm.trans (ha.new 16 (hall 16 (by simp)) (d := 9) rfl rfl (by simp))).trans e9
    simp at y2 y3 y4 y5 y6 y7
    simp only [List.range, List.range.loop, List.map] at hae
    rw [y2, y3, y4, y5, y6, y7, y8, y9] at hae
    subst hae
    clear ha hy y2 y3 y4 y5 y6 y7 y8 y9 x8 x9 e8 e9 hI hall
    refine (by assumption : ∀ (a : Act) (w : World), Code.wp Tryz.prog _ _ a w → _) _ w ?_
    replace a0 := kcell kV a0
    replace a1 := kcell kV a1
    replace a2 := kcell kV a2
    replace a3 := kcell kV a3
    replace a4 := kcell (kept_trans kQ kV) a4
    have kW := kept_trans hk03 kV
    clear c0 c1 d0 d1
    have hcall := bCan_any X p k x w (HB.out.kept kW) (HG.out.kept kW) hok HX.out hkl
    unfold BBook.val at hcall
    rw [HRP.out] at hcall
    have HCA := Lib.hid hcall; clear hcall
    have HSI := Lib.hid (fun V (kk : Kept W V) note (hn : 0 ≤ note ∧ note ≤ 40) => sings_err X.p X.q X.cap X.capt X.B boy x.week note V (HB.out.book.kept kk) (HG.out.kept kk) hvok hbl HW.out.1 hn)
    have hz8 := Go.Ai.lt_of_cell u0
    have hz9 := Go.Ai.lt_of_cell v0
    have hza := Go.Ai.lt_of_cell a0
    have HOK := Lib.hid (And.intro hok hvok)
    clear hok hvok
    go_wp2_with fail
    with_reducible refine HCA.out.mono ?_
    rintro e V5 ⟨lv, err, rfl, hk5, hr5⟩
    have kW5 := kept_trans kW hk5
    replace a0 := kcell hk5 a0
    replace a1 := kcell hk5 a1
    replace a2 := kcell hk5 a2
    replace u0 := kcell hk5 u0
    replace v0 := kcell hk5 v0
    replace v1 := kcell hk5 v1
    have HR5 := Lib.hid hr5; clear hr5 HCA
    go_wp2_with fail
    with_reducible refine (HSI.out _ kW5 _ HW.out.2.1).mono ?_
    rintro e V6 ⟨s1, err2, rfl, hk6, hs1⟩
    have kW6 := kept_trans kW5 hk6
    replace a0 := kcell hk6 a0
    replace a1 := kcell hk6 a1
    replace a2 := kcell hk6 a2
    replace u0 := kcell hk6 u0
    replace v1 := kcell hk6 v1
    have HS1 := Lib.hid hs1; clear hs1
    go_wp2_with fail
    with_reducible refine (HSI.out _ kW6 _ HW.out.2.2).mono ?_
    rintro e V7 ⟨s2, err3, rfl, hk7, hs2⟩
    have kW7 := kept_trans kW6 hk7
    replace a0 := kcell hk7 a0
    have HS2 := Lib.hid hs2; clear hs2 HSI
    by_cases hcan : Can X.B
    · obtain ⟨rfl, hlist⟩ : err = 0 ∧ ListAt V5 lv (boysAt (triO X X.pieces.length) p k) := by
        rcases HR5.out with ⟨h1, _, h3⟩ | ⟨_, h2, _⟩
        · exact ⟨h1, h3⟩
        · exact absurd hcan h2
      obtain ⟨rfl, rfl⟩ : s1 = surelyN X.B boy x.week y.lo ∧ err2 = 0 := by
        rcases HS1.out with ⟨_, h1, h2⟩ | ⟨h1, _⟩
        · exact ⟨h1, h2⟩
        · exact absurd hcan h1
      obtain ⟨rfl, rfl⟩ : s2 = surelyN X.B boy x.week y.hi ∧ err3 = 0 := by
        rcases HS2.out with ⟨_, h1, h2⟩ | ⟨h1, _⟩
        · exact ⟨h1, h2⟩
        · exact absurd hcan h1
      rw [boysAt_eq HX.out hkl] at hlist
      have hlen : ((List.range X.B.boys.length).filter (surT X p k)).length ≤ X.B.boys.length := by
        have := List.length_filter_le (surT X p k) (List.range X.B.boys.length)
        simpa using this
      have hlt : ∀ b ∈ (List.range X.B.boys.length).filter (surT X p k), b < X.B.boys.length := fun b hb => List.mem_range.1 (List.mem_filter.1 hb).1
      have hinc : incr ((List.range X.B.boys.length).filter (surT X p k)) := filter_incr
      have hmem : boy ∈ (List.range X.B.boys.length).filter (surT X p k) ↔ (surelyN X.B boy x.week y.lo = 2 ∧ surelyN X.B boy x.week y.hi = 2) := by
        rw [List.mem_filter]
        simp [hbl, surT, HX.out, HY.out, sureP]
      have hL7 := hlist.kept (kept_trans hk6 hk7)
      have HORD := Lib.hid (ordered_any lv _ X.B.boys.length V7 hL7 (by omega) hlt (by omega) hinc)
      have HWH := Lib.hid (fun V (kk : Kept V7 V) => where_is lv _ boy V (hL7.kept kk) (by omega))
      have hwi := wI_mem boy ((List.range X.B.boys.length).filter (surT X p k)) 0
      rw [hmem] at hwi
      have HWI := Lib.hid hwi
      generalize wI boy ((List.range X.B.boys.length).filter (surT X p k)) 0 = wi at *
      clear hlist hlen hlt hinc hmem hL7 hwi HR5 HS1 HS2
      have key : ∃ q1 q2 q3, (surelyN X.B boy x.week y.lo == 2) = q1 ∧ (surelyN X.B boy x.week y.hi == 2) = q2 ∧ decide (wi ≥ 0) = q3 ∧ decide (0 ≤ wi) = q3 ∧ q3 = (q1 && q2) := by
        refine ⟨_, _, _, rfl, rfl, rfl, rfl, ?_⟩
        have := HWI.out
        rw [Bool.eq_iff_iff]
        simp only [decide_eq_true_eq, Bool.and_eq_true, beq_iff_eq]
        exact this
      obtain ⟨q1, q2, q3, e1, e2, e3, e4, e5⟩ := key
      generalize surelyN X.B boy x.week y.lo = s1 at *
      generalize surelyN X.B boy x.week y.hi = s2 at *
      have FIN : q1 = true ∨ q1 = false := by cases q1 <;> simp
      rcases FIN with rfl | rfl <;> rcases (show q2 = true ∨ q2 = false by cases q2 <;> simp) with rfl | rfl <;> simp only [Bool.and_true, Bool.and_false, Bool.true_and, Bool.false_and] at e5 <;> subst e5
      all_goals
        go_wp2_with fail
        with_reducible refine HORD.out.mono ?_
        rintro e V8 ⟨rfl, hk8⟩
        go_wp2_with fail
        with_reducible refine (HWH.out _ hk8).mono ?_
        rintro e V9 ⟨rfl, hk9⟩
        have kW9 := kept_trans kW7 (kept_trans hk8 hk9)
        go_wp2_with (go_at_call 6; with_reducible refine (HS.out _ kW9).mono ?_; rintro e w' ⟨rfl, hk10⟩)
        refine bodyPost_ret (v := .bool true) (by simp [results, Tryz.results4, go_sem]) rfl ?_
        exact ⟨rfl, kept_trans kW9 hk10⟩
    · obtain ⟨rfl, rfl⟩ : err = 72 ∧ lv = .slice none 0 0 := by
        rcases HR5.out with ⟨_, h2, _⟩ | ⟨h1, _, h3⟩
        · exact absurd h2 hcan
        · exact ⟨h1, h3⟩
      obtain ⟨rfl, rfl⟩ : s1 = 0 ∧ err2 = 22 := by
        rcases HS1.out with ⟨h1, _⟩ | ⟨_, h1, h2⟩
        · exact absurd h1 hcan
        · exact ⟨h1, h2⟩
      obtain ⟨rfl, rfl⟩ : s2 = 0 ∧ err3 = 22 := by
        rcases HS2.out with ⟨h1, _⟩ | ⟨_, h1, h2⟩
        · exact absurd h1 hcan
        · exact ⟨h1, h2⟩
      clear HR5 HS1 HS2
      go_wp2_with (go_at_call 6; with_reducible refine (HS.out _ kW7).mono ?_; rintro e w' ⟨rfl, hk10⟩)
      refine bodyPost_ret (v := .bool true) (by simp [results, Tryz.results4, go_sem]) rfl ?_
      exact ⟨rfl, kept_trans kW7 hk10⟩
end Go.Proofs.YteehcnicdkkimaaGreatDoor
set_option linter.all false
namespace Go.Proofs.YteehcnicdkkimaaGreatDoor
open Go.ChangeShapes Go.WideShapes Go.ChangeAt Go.WideMaps Go.WideElems Go.RowKit Go.Deep Go.Rg
set_option maxRecDepth 100000
theorem benchCancA : Tryz.prog.cellsOf 46 = 3 := by kernel_rfl
theorem benchCanlen {α : Type} {l : List α} (h : l.length = 3) : ∃ a0 a1 a2, l = [a0, a1, a2] := by
  match l, h with
  | [a0, a1, a2], _ => exact ⟨a0, a1, a2, rfl⟩
set_option maxHeartbeats 1000000 in
theorem benchCanlifted (os : Os) (started : os.Started) (H : Type) (enc : TypeId × Value → H) :
    ReturnsInHanded {} Tryz.checked os 4 .any (fun w args => (Rows.benchCanSpec.pre enc Tryz.prog Tryz.f4 [] false w args ∧ laidMetH Tryz.prog bklaid w) ∧ sizedMet enc Tryz.prog Tryz.f4 (OpenSpec.ofChange Rows.benchCanSpec) false w args)
      (Rows.benchCanSpec.post enc Tryz.prog Tryz.f4 false true false false) := by
  refine returnsInHanded_of_change_and (C := Tryz.checked) (X := fun w _ => laidMetH Tryz.prog bklaid w) (fun _ _ _ hh h => h.of_heap hh) bkown started (by kernel_rfl) Tryz.func4
    (ChangeSpec.witness_shaped (enc := enc) (C := Tryz.checked) (os := os) (X := fun w _ => laidMetH Tryz.prog bklaid w) false (World.doorLaid Tryz.prog 400 os) #[.agg #[.slice none 0 0, .int .i64 0, .slice none 0 0, .slice none 0 0, .int .i64 0], .agg #[.int .i64 0, .int .i64 0, .int .i64 0]] 8 rfl (World.shaped_of_RefB (by kernel_rfl) (by kernel_rfl)) (by kernel_rfl) (by kernel_rfl) (by kernel_rfl) (bkdoor_met os _)) ?_
  intro W base args ds gs before hval0 hW _ hwt0 hL _
  have hW' := hW
  obtain ⟨p, q, hA0, hV, rfl, hfz, hnd⟩ := hW
  have hA : DataW.TrodAll enc Tryz.prog W 0 (fun _ => true) true Tryz.f4.params.toList args.toList ds p := hA0
  have hval := hval0
  have hwt := hwt0
  rw [Tryz.params4] at hA hval hwt
  obtain ⟨v0, v1, d0, d1, p0, p1, rfl, rfl, rfl, h0, h1⟩ := trodAll_two hA
  obtain ⟨rfl, rfl⟩ := trodVars_none hV
  have hlt : ∀ x ∈ p0 ++ p1, x.block < W.heap.size := fun x hx => hW'.lt x (by simpa using hx)
  have a0 : ∀ (W' : World), Below W.heap.size W W' → DataW.Trod enc Tryz.prog W' 0 (fun b => decide (b < W.heap.size)) true 28 v0 d0 p0 :=
    fun W' hn => Below.trod vlaidOut (by kernel_rfl) (of_decide_eq_true (by kernel_rfl)) h0 hn (fun x hx => hlt x (List.mem_append_left _ hx))
  have a1 : ∀ (W' : World), Below W.heap.size W W' → DataW.Trod enc Tryz.prog W' 0 (fun b => decide (b < W.heap.size)) true 46 v1 d1 p1 :=
    fun W' hn => Below.trod vlaidOut (by kernel_rfl) (of_decide_eq_true (by kernel_rfl)) h1 hn (fun x hx => hlt x (List.mem_append_right _ hx))
  obtain ⟨X, rfl, hBook, hN, hR⟩ := book_reads hL (hval 0 28 v0 rfl rfl) hwt h0
  obtain ⟨c1, rfl, hc1⟩ := okWide_arr Tryz.underlying46 (hval 1 46 v1 rfl rfl)
  obtain ⟨fu1, hf1⟩ := h1
  obtain ⟨xs, m1, _, _, hl1, hxl, hel⟩ := DataW.trod_array Tryz.underlying46 hf1
  rw [benchCancA] at hc1
  obtain ⟨l3⟩ := c1
  obtain ⟨m0v, m1v, m2v, rfl⟩ := benchCanlen (by simpa using hc1)
  obtain ⟨z0, z1, z2, rfl⟩ := benchCanlen hxl
  have w0 : DataW.trod enc Tryz.prog W 0 (fun _ => true) true m1 3 (([m0v, m1v, m2v].drop (0 * Tryz.prog.cellsOf 3)).take (Tryz.prog.cellsOf 3)) = some z0 := hel 0 (by omega)
  have w1 : DataW.trod enc Tryz.prog W 0 (fun _ => true) true m1 3 (([m0v, m1v, m2v].drop (1 * Tryz.prog.cellsOf 3)).take (Tryz.prog.cellsOf 3)) = some z1 := hel 1 (by omega)
  have w2 : DataW.trod enc Tryz.prog W 0 (fun _ => true) true m1 3 (([m0v, m1v, m2v].drop (2 * Tryz.prog.cellsOf 3)).take (Tryz.prog.cellsOf 3)) = some z2 := hel 2 (by omega)
  rw [vcI] at w0 w1 w2
  obtain ⟨n0, rfl⟩ := one_int w0
  obtain ⟨n1, rfl⟩ := one_int w1
  obtain ⟨n2, rfl⟩ := one_int w2
  clear w0 w1 w2 hel hf1 hl1 hc1
  have hlaw : Calls Tryz.prog 4 #[X.val, .agg #[.int .i64 n0, .int .i64 n1, .int .i64 n2]] W fun e C => e = .returned (.bool true) ∧ Kept W C := by
    cases hok : X.okB with
    | false => exact law_false X n0 n1 n2 W hBook hN hR hok
    | true => exact law_true X n0 n1 n2 W hBook hN hR hok
  refine hlaw.mono fun e W' ⟨he, hk⟩ => ?_
  subst he
  exact ⟨_, rfl, _, _, _, [], _, [], hW', trodAll_mk1 (shut_bool Tryz.underlying4 true), ⟨_, _, a0 W' hk, ⟨_, _, a1 W' hk, rfl, rfl⟩, rfl⟩, rfl, kept_but hk _, fun h => by cases h⟩

theorem benchCan_holds : Rows.BenchCanSaid :=
  OpenClaim.holds_of_wide 4 Tryz.f4 rfl rfl rfl rfl rfl rfl rfl ⟨rfl, rfl, rfl, rfl, rfl⟩ rfl rfl rfl rfl rfl (by kernel_rfl) Tryz.func4 (by kernel_rfl)
    (of_decide_eq_true (by kernel_rfl)) (by unfold Func.isWrapper; first | (rw [if_pos (by decide +kernel)]; kernel_rfl) | (rw [if_neg (by decide +kernel)]; exact ⟨rfl, rfl⟩))
    (fun os started H enc _ => benchCanlifted os started H enc)

theorem benchCansi0 : Tryz.prog.wantsStandIn 28 = false := by kernel_rfl
theorem benchCansi1 : Tryz.prog.wantsStandIn 46 = false := by kernel_rfl
theorem benchCan_card_holds : Rows.BenchCanCardSaid :=
  Claim7.holds_tied_plain_at .later [] [.data, .data, .data] true (true, "1c3f286119c9506227c6ada73c78be59b4f7d58a38ac8a9f97078d928f09b776") false
    benchCan_holds (fun _ h => by cases h) (by kernel_rfl) (fun _ h => by cases h) benchCan_row_tie rfl ⟨rfl, rfl⟩ (by kernel_rfl) rfl
    (fun f fn hf hfn => by
      obtain rfl : f = 4 := Option.some.inj ((show Tryz.prog.funcNamed "decani/decanilaw07.BenchCan" = some 4 by kernel_rfl).symm.trans hf) |>.symm
      obtain rfl : fn = Tryz.f4 := (Option.some.inj (Tryz.func4.symm.trans hfn)).symm
      exact ⟨by kernel_rfl, fun j t ht => by
        rw [Tryz.params4] at ht
        match j, ht with
        | 0, ht => simp at ht; subst ht; exact benchCansi0
        | 1, ht => simp at ht; subst ht; exact benchCansi1
        | n + 2, ht => simp at ht⟩)
    (by kernel_rfl)
#print axioms benchCan_card_holds
end Go.Proofs.YteehcnicdkkimaaGreatDoor
