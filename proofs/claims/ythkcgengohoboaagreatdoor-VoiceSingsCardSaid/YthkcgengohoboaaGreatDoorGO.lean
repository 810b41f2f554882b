/- Sings, Surely, Must and Heir of package voice answer what decaniref02 answers: the law returns true for every book, numbers and notes. The package-level variables voice.nothing and voice.bounds hold what their initialisers lay (tied). -/
import Derived.Test.YthkcgengohoboaaGreatDoorGN
import Derived.Test.YthkcgengohoboaaGreatDoorGE
set_option linter.all false
namespace Go.Proofs.YthkcgengohoboaaGreatDoor
open Go.RowKit Go.Sort Go.Rg
set_option maxRecDepth 100000
set_option maxHeartbeats 16000000 in
theorem sings_law (p q : Option Addr) (cap capt : Nat) (B : Book) (n0 n1 n2 lo hi : Int) (W : World) (h : BookAt W p q cap capt B) (hg : Nothing W) :
    Calls Tryz.prog 4 #[B.val p q cap capt, .agg #[.int .i64 n0, .int .i64 n1, .int .i64 n2], .agg #[.int .i64 lo, .int .i64 hi]] W fun e C => e = .returned (.bool true) ∧ Kept W C := by
  obtain ⟨kv, ek, hP1, hR1⟩ := sing_agree p q cap capt B n0 n1 n2 W h hg
  obtain ⟨ls, es, hlls, hP2, hR2⟩ := sure_agree p q cap capt B n1 n2 W h hg
  obtain ⟨lm, em, hllm, hP3, hR3⟩ := must_agree p q cap capt B n1 W h hg
  obtain ⟨hv, eh, hP4, hR4⟩ := heir_agree p q cap capt B n0 n1 lo hi W h hg
  unfold Book.val at hP1 hR1 hP2 hR2 hP3 hR3 hP4 hR4 ⊢
  have HP1 := Lib.hid hP1; clear hP1
  have HR1 := Lib.hid hR1; clear hR1
  have HP2 := Lib.hid hP2; clear hP2
  have HR2 := Lib.hid hR2; clear hR2
  have HP3 := Lib.hid hP3; clear hP3
  have HR3 := Lib.hid hR3; clear hR3
  have HP4 := Lib.hid hP4; clear hP4
  have HR4 := Lib.hid hR4; clear hR4
  have HB := Lib.hid h; clear h
  have HG := Lib.hid hg; clear hg
  have hk : Kept W (((W.alloc (Obj.cells #[.slice p B.boys.length cap, .int .i64 B.weeks, .slice q B.trials.length capt] 25)).alloc (Obj.cells #[.int .i64 n0, .int .i64 n1, .int .i64 n2] 38)).alloc (Obj.cells #[.int .i64 lo, .int .i64 hi] 32)) := kept_alloc (kept_alloc (kept_alloc (kept_refl _) _) _) _
  obtain ⟨-, a0, a1, a2⟩ := bk2 W p q cap capt B (Obj.cells #[.int .i64 n0, .int .i64 n1, .int .i64 n2] 38) (Obj.cells #[.int .i64 lo, .int .i64 hi] 32)
  obtain ⟨X, hX⟩ : ∃ X, X = (((W.alloc (Obj.cells #[.slice p B.boys.length cap, .int .i64 B.weeks, .slice q B.trials.length capt] 25)).alloc (Obj.cells #[.int .i64 n0, .int .i64 n1, .int .i64 n2] 38)).alloc (Obj.cells #[.int .i64 lo, .int .i64 hi] 32)) := ⟨_, rfl⟩
  have b0 : X.cell? ⟨W.heap.size + 1, 0, none⟩ = some (.int .i64 n0) := by rw [hX]; go_simp
  have b1 : X.cell? ⟨W.heap.size + 1, 1, none⟩ = some (.int .i64 n1) := by rw [hX]; go_simp
  have b2 : X.cell? ⟨W.heap.size + 1, 2, none⟩ = some (.int .i64 n2) := by rw [hX]; go_simp
  have c0 : X.cell? ⟨W.heap.size + 1 + 1, 0, none⟩ = some (.int .i64 lo) := by rw [hX]; go_simp
  have c1 : X.cell? ⟨W.heap.size + 1 + 1, 1, none⟩ = some (.int .i64 hi) := by rw [hX]; go_simp
  rw [hX] at b0 b1 b2 c0 c1
  clear hX X
  have z1 : (kv != kv) = false := by simp
  have z2 : (ek != ek) = false := by simp
  have z3 : (es != es) = false := by simp
  have z4 : (em != em) = false := by simp
  have z5 : (hv == hv) = true := by simp
  have z6 : (eh == eh) = true := by simp
  go_enter Tryz.func4, Tryz.ntmps4
  go_wp2_with fail
  generalize (((W.alloc (Obj.cells #[.slice p B.boys.length cap, .int .i64 B.weeks, .slice q B.trials.length capt] 25)).alloc (Obj.cells #[.int .i64 n0, .int .i64 n1, .int .i64 n2] 38)).alloc (Obj.cells #[.int .i64 lo, .int .i64 hi] 32)) = W0 at *
  have hz := Go.Ai.lt_of_cell a0
  have hzb := Go.Ai.lt_of_cell b0
  refine (HP1.out W0 hk).mono ?_
  rintro e w1 ⟨rfl, hk'⟩
  replace a0 := kcell hk' a0
  replace a1 := kcell hk' a1
  replace a2 := kcell hk' a2
  replace b0 := kcell hk' b0
  replace b1 := kcell hk' b1
  replace b2 := kcell hk' b2
  replace c0 := kcell hk' c0
  replace c1 := kcell hk' c1
  replace hk := kept_trans hk hk'
  clear hk'
  have hz := Go.Ai.lt_of_cell a0
  have hzb := Go.Ai.lt_of_cell b0
  go_wp2_with fail
  refine (HR1.out w1 hk).mono ?_
  rintro e w2 ⟨rfl, hk'⟩
  replace a0 := kcell hk' a0
  replace a1 := kcell hk' a1
  replace a2 := kcell hk' a2
  replace b0 := kcell hk' b0
  replace b1 := kcell hk' b1
  replace b2 := kcell hk' b2
  replace c0 := kcell hk' c0
  replace c1 := kcell hk' c1
  replace hk := kept_trans hk hk'
  clear hk'
  have hz := Go.Ai.lt_of_cell a0
  have hzb := Go.Ai.lt_of_cell b0
  go_wp2_with fail
  refine (HP2.out w2 hk).mono ?_
  rintro e w3 ⟨vsp, rfl, hk', hl⟩
  obtain ⟨psp, qsp, rfl⟩ := listAt_len hl
  have HLsp := Lib.hid hl
  clear hl
  replace a0 := kcell hk' a0
  replace a1 := kcell hk' a1
  replace a2 := kcell hk' a2
  replace b0 := kcell hk' b0
  replace b1 := kcell hk' b1
  replace b2 := kcell hk' b2
  replace c0 := kcell hk' c0
  replace c1 := kcell hk' c1
  replace hk := kept_trans hk hk'
  clear hk'
  have hz := Go.Ai.lt_of_cell a0
  have hzb := Go.Ai.lt_of_cell b0
  go_wp2_with fail
  refine (HR2.out w3 hk).mono ?_
  rintro e w4 ⟨vsr, rfl, hk', hl⟩
  obtain ⟨psr, qsr, rfl⟩ := listAt_len hl
  have HLsr := Lib.hid hl
  clear hl
  replace a0 := kcell hk' a0
  replace a1 := kcell hk' a1
  replace a2 := kcell hk' a2
  replace b0 := kcell hk' b0
  replace b1 := kcell hk' b1
  replace b2 := kcell hk' b2
  replace c0 := kcell hk' c0
  replace c1 := kcell hk' c1
  replace hk := kept_trans hk hk'
  have HKsr := Lib.hid hk'
  clear hk'
  have hz := Go.Ai.lt_of_cell a0
  have hzb := Go.Ai.lt_of_cell b0
  go_wp2_with fail
  refine (equal_same _ _ ls w4 (HLsp.out.kept HKsr.out) HLsr.out hlls).mono ?_
  rintro e w5 ⟨rfl, hk'⟩
  replace a0 := kcell hk' a0
  replace a1 := kcell hk' a1
  replace a2 := kcell hk' a2
  replace b0 := kcell hk' b0
  replace b1 := kcell hk' b1
  replace b2 := kcell hk' b2
  replace c0 := kcell hk' c0
  replace c1 := kcell hk' c1
  replace hk := kept_trans hk hk'
  clear hk' HLsp HLsr HKsr
  have hz := Go.Ai.lt_of_cell a0
  have hzb := Go.Ai.lt_of_cell b0
  go_wp2_with fail
  refine (HP3.out w5 hk).mono ?_
  rintro e w6 ⟨vmp, rfl, hk', hl⟩
  obtain ⟨pmp, qmp, rfl⟩ := listAt_len hl
  have HLmp := Lib.hid hl
  clear hl
  replace a0 := kcell hk' a0
  replace a1 := kcell hk' a1
  replace a2 := kcell hk' a2
  replace b0 := kcell hk' b0
  replace b1 := kcell hk' b1
  replace c0 := kcell hk' c0
  replace c1 := kcell hk' c1
  replace hk := kept_trans hk hk'
  clear hk'
  have hz := Go.Ai.lt_of_cell a0
  have hzb := Go.Ai.lt_of_cell b0
  go_wp2_with fail
  refine (HR3.out w6 hk).mono ?_
  rintro e w7 ⟨vmr, rfl, hk', hl⟩
  obtain ⟨pmr, qmr, rfl⟩ := listAt_len hl
  have HLmr := Lib.hid hl
  clear hl
  replace a0 := kcell hk' a0
  replace a1 := kcell hk' a1
  replace a2 := kcell hk' a2
  replace b0 := kcell hk' b0
  replace b1 := kcell hk' b1
  replace c0 := kcell hk' c0
  replace c1 := kcell hk' c1
  replace hk := kept_trans hk hk'
  have HKmr := Lib.hid hk'
  clear hk'
  have hz := Go.Ai.lt_of_cell a0
  have hzb := Go.Ai.lt_of_cell b0
  go_wp2_with fail
  refine (equal_same _ _ lm w7 (HLmp.out.kept HKmr.out) HLmr.out hllm).mono ?_
  rintro e w8 ⟨rfl, hk'⟩
  replace a0 := kcell hk' a0
  replace a1 := kcell hk' a1
  replace a2 := kcell hk' a2
  replace b0 := kcell hk' b0
  replace b1 := kcell hk' b1
  replace c0 := kcell hk' c0
  replace c1 := kcell hk' c1
  replace hk := kept_trans hk hk'
  clear hk' HLmp HLmr HKmr
  have hz := Go.Ai.lt_of_cell a0
  have hzb := Go.Ai.lt_of_cell b0
  have hzc := Go.Ai.lt_of_cell c0
  go_wp2_with fail
  refine (HP4.out w8 hk).mono ?_
  rintro e w9 ⟨rfl, hk'⟩
  replace a0 := kcell hk' a0
  replace a1 := kcell hk' a1
  replace a2 := kcell hk' a2
  replace b0 := kcell hk' b0
  replace b1 := kcell hk' b1
  replace c0 := kcell hk' c0
  replace c1 := kcell hk' c1
  replace hk := kept_trans hk hk'
  clear hk'
  have hz := Go.Ai.lt_of_cell a0
  have hzb := Go.Ai.lt_of_cell b0
  have hzc := Go.Ai.lt_of_cell c0
  go_wp2_with fail
  refine (HR4.out w9 hk).mono ?_
  rintro e w10 ⟨rfl, hk'⟩
  replace hk := kept_trans hk hk'
  clear hk'
  go_wp2_with fail
  refine (sung_is w10 (HB.out.laid.kept hk) (HG.out.kept hk)).mono ?_
  rintro e wE ⟨rfl, hkE⟩
  go_wp2_with fail
  refine bodyPost_ret (v := .bool true) (by simp [results, Tryz.results4, go_sem]) rfl ⟨rfl, kept_trans hk hkE⟩
end Go.Proofs.YthkcgengohoboaaGreatDoor
namespace Go.Proofs.YthkcgengohoboaaGreatDoor
open Go.ChangeShapes Go.WideShapes Go.ChangeAt Go.WideMaps Go.WideElems Go.RowKit Go.Deep Go.Rg
set_option maxRecDepth 100000
theorem len2s {α : Type} {l : List α} (h : l.length = 2) : ∃ a b, l = [a, b] := by
  match l, h with
  | [a, b], _ => exact ⟨a, b, rfl⟩
set_option maxHeartbeats 1000000 in
theorem vlifted (os : Os) (started : os.Started) (H : Type) (enc : TypeId × Value → H) :
    ReturnsInHanded {} Tryz.checked os 4 .any (fun w args => (Rows.voiceSingsSpec.pre enc Tryz.prog Tryz.f4 [] false w args ∧ laidMetH Tryz.prog vlaid w) ∧ sizedMet enc Tryz.prog Tryz.f4 (OpenSpec.ofChange Rows.voiceSingsSpec) false w args)
      (Rows.voiceSingsSpec.post enc Tryz.prog Tryz.f4 false true false false) := by
  refine returnsInHanded_of_change_and (C := Tryz.checked) (X := fun w _ => laidMetH Tryz.prog vlaid w) (fun _ _ _ hh h => h.of_heap hh) vown started (by kernel_rfl) Tryz.func4
    (ChangeSpec.witness_shaped (enc := enc) (C := Tryz.checked) (os := os) (X := fun w _ => laidMetH Tryz.prog vlaid w) false (World.doorLaid Tryz.prog 400 os) #[.agg #[.slice none 0 0, .int .i64 0, .slice none 0 0], .agg #[.int .i64 0, .int .i64 0, .int .i64 0], .agg #[.int .i64 0, .int .i64 0]] 8 rfl (World.shaped_of_RefB (by kernel_rfl) (by kernel_rfl)) (by kernel_rfl) (by kernel_rfl) (by kernel_rfl) (vdoor_met os _)) ?_
  intro W base args ds gs before hval0 hW _ hwt0 hL _
  have hW' := hW
  obtain ⟨p, q, hA0, hV, rfl, hfz, hnd⟩ := hW
  have hA : DataW.TrodAll enc Tryz.prog W 0 (fun _ => true) true Tryz.f4.params.toList args.toList ds p := hA0
  have hval := hval0
  have hwt := hwt0
  rw [Tryz.params4] at hA hval hwt
  obtain ⟨v0, v1, vt, d0, d1, dt, p0, p1, pt0, rfl, rfl, rfl, h0, h1, ht0⟩ := trodAll_three hA
  obtain ⟨rfl, rfl⟩ := trodVars_none hV
  have hlt : ∀ x ∈ p0 ++ (p1 ++ pt0), x.block < W.heap.size := fun x hx => hW'.lt x (by simpa using hx)
  have a0 : ∀ (W' : World), Below W.heap.size W W' → DataW.Trod enc Tryz.prog W' 0 (fun b => decide (b < W.heap.size)) true 25 v0 d0 p0 :=
    fun W' hn => Below.trod vlaidOut (by kernel_rfl) (of_decide_eq_true (by kernel_rfl)) h0 hn (fun x hx => hlt x (List.mem_append_left _ hx))
  have at1 : ∀ (W' : World), Below W.heap.size W W' → DataW.Trod enc Tryz.prog W' 0 (fun b => decide (b < W.heap.size)) true 32 vt dt pt0 :=
    fun W' hn => Below.trod vlaidOut (by kernel_rfl) (of_decide_eq_true (by kernel_rfl)) ht0 hn (fun x hx => hlt x (List.mem_append_right _ (List.mem_append_right _ hx)))
  have a1 : ∀ (W' : World), Below W.heap.size W W' → DataW.Trod enc Tryz.prog W' 0 (fun b => decide (b < W.heap.size)) true 38 v1 d1 p1 :=
    fun W' hn => Below.trod vlaidOut (by kernel_rfl) (of_decide_eq_true (by kernel_rfl)) h1 hn (fun x hx => hlt x (List.mem_append_right _ (List.mem_append_left _ hx)))
  obtain ⟨l1, l2⟩ := of_vlaid hL
  have hN : Nothing W := l1
  have hLd : Laid W := ⟨Go.Ai.lt_of_cell (l2 0 (by omega)), l2 0 (by omega), l2 1 (by omega), l2 2 (by omega), l2 3 (by omega), l2 4 (by omega), l2 5 (by omega), l2 6 (by omega), l2 7 (by omega), l2 8 (by omega), l2 9 (by omega)⟩
  obtain ⟨c0, rfl, hc0⟩ := okWide_struct Tryz.underlying25 (hval 0 25 v0 rfl rfl)
  obtain ⟨fu0, hf0⟩ := h0
  obtain ⟨y0, y1, y2, n, hy, hl0, t0, t1, t2⟩ := trod_struct3 Tryz.underlying25 hf0
  rw [vcK] at hc0
  obtain ⟨lc⟩ := c0
  obtain ⟨s0, s1, s2, rfl⟩ := len3 (by simpa using hc0)
  clear hc0 hl0 hf0
  have u0 : DataW.trod enc Tryz.prog W 0 (fun _ => true) true n 22 (([s0, s1, s2].drop 0).take (Tryz.prog.cellsOf 22)) = some y0 := t0
  have u1 : DataW.trod enc Tryz.prog W 0 (fun _ => true) true n 3 (([s0, s1, s2].drop 1).take (Tryz.prog.cellsOf 3)) = some y1 := t1
  have u2 : DataW.trod enc Tryz.prog W 0 (fun _ => true) true n 23 (([s0, s1, s2].drop 2).take (Tryz.prog.cellsOf 23)) = some y2 := t2
  rw [vcL] at u0
  rw [vcI] at u1
  rw [vcM] at u2
  have hy1 := congrArg Prod.fst hy
  simp only at hy1
  subst hy1
  obtain ⟨hw1, hw2⟩ := book_weights hwt
  obtain ⟨wk, rfl⟩ := one_int u1
  obtain ⟨pb, capb, lb, rfl, nb, hb, _⟩ := rows_of (k := 11) boyCells (by omega) (fun _ => rfl) Tryz.underlying22 vcB (fun n cs x h => boy_ints h) u0
  obtain ⟨pt, capt, lt, rfl, nt, ht, hroom⟩ := rows_of (k := 4) trialCells (by omega) (fun _ => rfl) Tryz.underlying23 vcT (fun n cs x h => trial_ints h) u2
  clear u0 u1 u2 t0 t1 t2
  have hBook : BookAt W pb pt capb capt ⟨lb, wk, lt⟩ := by
    refine ⟨hLd, nb.elim (fun e => by rw [e]; simp) (few_boys hw1), ⟨nt.elim (fun e => by rw [e]; simp) (few_trials hw2), hroom⟩, ?_, ?_⟩
    · rcases hb with e | ⟨b, o, rfl, hz, hc⟩
      · exact .inl e
      · exact .inr ⟨b, o, rfl, hz, fun i y hy => ⟨hc i y hy 0 (by omega), hc i y hy 1 (by omega), hc i y hy 2 (by omega), hc i y hy 3 (by omega), hc i y hy 4 (by omega), hc i y hy 5 (by omega), hc i y hy 6 (by omega), hc i y hy 7 (by omega), hc i y hy 8 (by omega), hc i y hy 9 (by omega), hc i y hy 10 (by omega)⟩⟩
    · rcases ht with e | ⟨b, o, rfl, hz, hc⟩
      · exact .inl e
      · exact .inr ⟨b, o, rfl, hz, fun i y hy => ⟨hc i y hy 0 (by omega), hc i y hy 1 (by omega), hc i y hy 2 (by omega), hc i y hy 3 (by omega)⟩⟩
  obtain ⟨c1, rfl, hc1⟩ := okWide_arr Tryz.underlying38 (hval 1 38 v1 rfl rfl)
  obtain ⟨ct, rfl, hct⟩ := okWide_struct Tryz.underlying32 (hval 2 32 vt rfl rfl)
  rw [vcS] at hct
  obtain ⟨lct⟩ := ct
  obtain ⟨q0', q1', rfl⟩ := len2s (by simpa using hct)
  obtain ⟨fut, hft⟩ := ht0
  obtain ⟨lo, hi, rfl, rfl⟩ := span_ints hft
  clear hct
  obtain ⟨fu1, hf1⟩ := h1
  obtain ⟨xs, m1, _, _, hl1, hxl, hel⟩ := DataW.trod_array Tryz.underlying38 hf1
  rw [vcA] at hc1
  obtain ⟨l3⟩ := c1
  obtain ⟨m0, m1', m2, rfl⟩ := len3 (by simpa using hc1)
  obtain ⟨z0, z1, z2, rfl⟩ := len3 hxl
  have w0 : DataW.trod enc Tryz.prog W 0 (fun _ => true) true m1 3 (([m0, m1', m2].drop (0 * Tryz.prog.cellsOf 3)).take (Tryz.prog.cellsOf 3)) = some z0 := hel 0 (by omega)
  have w1 : DataW.trod enc Tryz.prog W 0 (fun _ => true) true m1 3 (([m0, m1', m2].drop (1 * Tryz.prog.cellsOf 3)).take (Tryz.prog.cellsOf 3)) = some z1 := hel 1 (by omega)
  have w2 : DataW.trod enc Tryz.prog W 0 (fun _ => true) true m1 3 (([m0, m1', m2].drop (2 * Tryz.prog.cellsOf 3)).take (Tryz.prog.cellsOf 3)) = some z2 := hel 2 (by omega)
  rw [vcI] at w0 w1 w2
  obtain ⟨n0, rfl⟩ := one_int w0
  obtain ⟨n1, rfl⟩ := one_int w1
  obtain ⟨n2, rfl⟩ := one_int w2
  clear w0 w1 w2 hel hf1 hl1 hc1 hb ht
  have hlaw : Calls Tryz.prog 4 #[(Book.mk lb wk lt).val pb pt capb capt, .agg #[.int .i64 n0, .int .i64 n1, .int .i64 n2], .agg #[.int .i64 lo, .int .i64 hi]] W fun e C => e = .returned (.bool true) ∧ Kept W C := by
    exact sings_law pb pt capb capt _ n0 n1 n2 lo hi W hBook hN
  refine hlaw.mono fun e W' ⟨he, hk⟩ => ?_
  subst he
  exact ⟨_, rfl, _, _, _, [], _, [], hW', trodAll_mk1 (shut_bool Tryz.underlying4 true), ⟨_, _, a0 W' hk, ⟨_, _, a1 W' hk, ⟨_, _, at1 W' hk, rfl, rfl⟩, rfl⟩, rfl⟩, rfl, kept_but hk _, fun h => by cases h⟩
theorem voiceSings_holds : Rows.VoiceSingsSaid :=
  OpenClaim.holds_of_wide 4 Tryz.f4 rfl rfl rfl rfl rfl rfl rfl ⟨rfl, rfl, rfl, rfl, rfl⟩ rfl rfl rfl rfl rfl (by kernel_rfl) Tryz.func4 (by kernel_rfl)
    (of_decide_eq_true (by kernel_rfl)) (by unfold Func.isWrapper; first | (rw [if_pos (by decide +kernel)]; kernel_rfl) | (rw [if_neg (by decide +kernel)]; exact ⟨rfl, rfl⟩))
    (fun os started H enc _ => vlifted os started H enc)
theorem vsi2 : Tryz.prog.wantsStandIn 32 = false := by kernel_rfl
theorem vsi0 : Tryz.prog.wantsStandIn 25 = false := by kernel_rfl
theorem vsi1 : Tryz.prog.wantsStandIn 38 = false := by kernel_rfl
theorem voiceSings_card_holds : Rows.VoiceSingsCardSaid :=
  Claim7.holds_tied_plain_at .later [] [.data, .data] true (true, "5c4b87f4a7cbbbc90cfe47ae55d5aaa8e70e54cf31c79c0fc3f89bc86bf81c0e") false
    voiceSings_holds (fun _ h => by cases h) (by kernel_rfl) (fun _ h => by cases h) voiceSings_row_tie rfl ⟨rfl, rfl⟩ (by kernel_rfl) rfl
    (fun f fn hf hfn => by
      obtain rfl : f = 4 := Option.some.inj ((show Tryz.prog.funcNamed "decani/decanilaw02.VoiceSings" = some 4 by kernel_rfl).symm.trans hf) |>.symm
      obtain rfl : fn = Tryz.f4 := (Option.some.inj (Tryz.func4.symm.trans hfn)).symm
      exact ⟨by kernel_rfl, fun j t ht => by
        rw [Tryz.params4] at ht
        match j, ht with
        | 0, ht => simp at ht; subst ht; exact vsi0
        | 1, ht => simp at ht; subst ht; exact vsi1
        | 2, ht => simp at ht; subst ht; exact vsi2
        | n + 3, ht => simp at ht⟩)
    (by kernel_rfl)
end Go.Proofs.YthkcgengohoboaaGreatDoor
