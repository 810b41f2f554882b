/- VoiceMore holds: one trial more never widens what is known, whatever the book, the trial and the numbers. No conditions but the row's own. -/
import Derived.Test.YtchgkfnodcbpiaaDoorVI
import Derived.Test.YtchgkfnodcbpiaaDoorNA
set_option linter.all false
set_option linter.all false
namespace Go.Proofs.YtchgkfnodcbpiaaDoor
open Go.ChangeShapes Go.WideShapes Go.ChangeAt Go.WideMaps Go.WideElems Go.RowKit Go.Deep Go.Rg
set_option maxRecDepth 100000
set_option maxHeartbeats 1000000 in
theorem vlifted (os : Os) (started : os.Started) (H : Type) (enc : TypeId × Value → H) :
    ReturnsInHanded {} Tryd.checked os 3 .any (fun w args => (Rows.voiceMoreSpec.pre enc Tryd.prog Tryd.f3 [] false w args ∧ laidMetH Tryd.prog vlaid w) ∧ sizedMet enc Tryd.prog Tryd.f3 (OpenSpec.ofChange Rows.voiceMoreSpec) false w args)
      (Rows.voiceMoreSpec.post enc Tryd.prog Tryd.f3 false true false false) := by
  refine returnsInHanded_of_change_and (C := Tryd.checked) (X := fun w _ => laidMetH Tryd.prog vlaid w) (fun _ _ _ hh h => h.of_heap hh) vown started (by kernel_rfl) Tryd.func3
    (ChangeSpec.witness_shaped (enc := enc) (C := Tryd.checked) (os := os) (X := fun w _ => laidMetH Tryd.prog vlaid w) false (World.doorLaid Tryd.prog 400 os) #[.agg #[.slice none 0 0, .int .i64 0, .slice none 0 0], .agg #[.int .i64 0, .int .i64 0, .int .i64 0, .int .i64 0], .agg #[.int .i64 0, .int .i64 0, .int .i64 0]] 8 rfl (World.shaped_of_RefB (by kernel_rfl) (by kernel_rfl)) (by kernel_rfl) (by kernel_rfl) (by kernel_rfl) (vdoor_met os _)) ?_
  intro W base args ds gs before hval0 hW _ hwt0 hL _
  have hW' := hW
  obtain ⟨p, q, hA0, hV, rfl, hfz, hnd⟩ := hW
  have hA : DataW.TrodAll enc Tryd.prog W 0 (fun _ => true) true Tryd.f3.params.toList args.toList ds p := hA0
  have hval := hval0
  have hwt := hwt0
  rw [Tryd.params3] at hA hval hwt
  obtain ⟨v0, vt, v1, d0, dt, d1, p0, pt0, p1, rfl, rfl, rfl, h0, ht0, h1⟩ := trodAll_three hA
  obtain ⟨rfl, rfl⟩ := trodVars_none hV
  have hlt : ∀ x ∈ p0 ++ (pt0 ++ p1), x.block < W.heap.size := fun x hx => hW'.lt x (by simpa using hx)
  have a0 : ∀ (W' : World), Below W.heap.size W W' → DataW.Trod enc Tryd.prog W' 0 (fun b => decide (b < W.heap.size)) true 25 v0 d0 p0 :=
    fun W' hn => Below.trod vlaidOut (by kernel_rfl) (of_decide_eq_true (by kernel_rfl)) h0 hn (fun x hx => hlt x (List.mem_append_left _ hx))
  have at1 : ∀ (W' : World), Below W.heap.size W W' → DataW.Trod enc Tryd.prog W' 0 (fun b => decide (b < W.heap.size)) true 27 vt dt pt0 :=
    fun W' hn => Below.trod vlaidOut (by kernel_rfl) (of_decide_eq_true (by kernel_rfl)) ht0 hn (fun x hx => hlt x (List.mem_append_right _ (List.mem_append_left _ hx)))
  have a1 : ∀ (W' : World), Below W.heap.size W W' → DataW.Trod enc Tryd.prog W' 0 (fun b => decide (b < W.heap.size)) true 28 v1 d1 p1 :=
    fun W' hn => Below.trod vlaidOut (by kernel_rfl) (of_decide_eq_true (by kernel_rfl)) h1 hn (fun x hx => hlt x (List.mem_append_right _ (List.mem_append_right _ hx)))
  obtain ⟨l1, l2⟩ := of_vlaid hL
  have hN : Nothing W := l1
  have hLd : Laid W := ⟨Go.Ai.lt_of_cell (l2 0 (by omega)), l2 0 (by omega), l2 1 (by omega), l2 2 (by omega), l2 3 (by omega), l2 4 (by omega), l2 5 (by omega), l2 6 (by omega), l2 7 (by omega), l2 8 (by omega), l2 9 (by omega)⟩
  obtain ⟨c0, rfl, hc0⟩ := okWide_struct Tryd.underlying25 (hval 0 25 v0 rfl rfl)
  obtain ⟨fu0, hf0⟩ := h0
  obtain ⟨y0, y1, y2, n, hy, hl0, t0, t1, t2⟩ := trod_struct3 Tryd.underlying25 hf0
  rw [vcK] at hc0
  obtain ⟨lc⟩ := c0
  obtain ⟨s0, s1, s2, rfl⟩ := len3 (by simpa using hc0)
  clear hc0 hl0 hf0
  have u0 : DataW.trod enc Tryd.prog W 0 (fun _ => true) true n 22 (([s0, s1, s2].drop 0).take (Tryd.prog.cellsOf 22)) = some y0 := t0
  have u1 : DataW.trod enc Tryd.prog W 0 (fun _ => true) true n 3 (([s0, s1, s2].drop 1).take (Tryd.prog.cellsOf 3)) = some y1 := t1
  have u2 : DataW.trod enc Tryd.prog W 0 (fun _ => true) true n 23 (([s0, s1, s2].drop 2).take (Tryd.prog.cellsOf 23)) = some y2 := t2
  rw [vcL] at u0
  rw [vcI] at u1
  rw [vcM] at u2
  have hy1 := congrArg Prod.fst hy
  simp only at hy1
  subst hy1
  obtain ⟨hw1, hw2⟩ := book_weights hwt
  obtain ⟨wk, rfl⟩ := one_int u1
  obtain ⟨pb, capb, lb, rfl, nb, hb, _⟩ := rows_of (k := 11) boyCells (by omega) (fun _ => rfl) Tryd.underlying22 vcB (fun n cs x h => boy_ints h) u0
  obtain ⟨pt, capt, lt, rfl, nt, ht, hroom⟩ := rows_of (k := 4) trialCells (by omega) (fun _ => rfl) Tryd.underlying23 vcT (fun n cs x h => trial_ints h) u2
  clear u0 u1 u2 t0 t1 t2
  have hBook : BookAt W pb pt capb capt ⟨lb, wk, lt⟩ := by
    refine ⟨hLd, nb.elim (fun e => by rw [e]; simp) (few_boys hw1), ⟨nt.elim (fun e => by rw [e]; simp) (few_trials hw2), hroom⟩, ?_, ?_⟩
    · rcases hb with e | ⟨b, o, rfl, hz, hc⟩
      · exact .inl e
      · exact .inr ⟨b, o, rfl, hz, fun i y hy => ⟨hc i y hy 0 (by omega), hc i y hy 1 (by omega), hc i y hy 2 (by omega), hc i y hy 3 (by omega), hc i y hy 4 (by omega), hc i y hy 5 (by omega), hc i y hy 6 (by omega), hc i y hy 7 (by omega), hc i y hy 8 (by omega), hc i y hy 9 (by omega), hc i y hy 10 (by omega)⟩⟩
    · rcases ht with e | ⟨b, o, rfl, hz, hc⟩
      · exact .inl e
      · exact .inr ⟨b, o, rfl, hz, fun i y hy => ⟨hc i y hy 0 (by omega), hc i y hy 1 (by omega), hc i y hy 2 (by omega), hc i y hy 3 (by omega)⟩⟩
  obtain ⟨c1, rfl, hc1⟩ := okWide_arr Tryd.underlying28 (hval 2 28 v1 rfl rfl)
  obtain ⟨ct, rfl, hct⟩ := okWide_struct Tryd.underlying27 (hval 1 27 vt rfl rfl)
  obtain ⟨fut, hft⟩ := ht0
  obtain ⟨t, htl⟩ := trial_ints hft
  obtain ⟨lct⟩ := ct
  subst htl
  obtain ⟨fu1, hf1⟩ := h1
  obtain ⟨xs, m1, _, _, hl1, hxl, hel⟩ := DataW.trod_array Tryd.underlying28 hf1
  rw [vcA] at hc1
  obtain ⟨l3⟩ := c1
  obtain ⟨m0, m1', m2, rfl⟩ := len3 (by simpa using hc1)
  obtain ⟨z0, z1, z2, rfl⟩ := len3 hxl
  have w0 : DataW.trod enc Tryd.prog W 0 (fun _ => true) true m1 3 (([m0, m1', m2].drop (0 * Tryd.prog.cellsOf 3)).take (Tryd.prog.cellsOf 3)) = some z0 := hel 0 (by omega)
  have w1 : DataW.trod enc Tryd.prog W 0 (fun _ => true) true m1 3 (([m0, m1', m2].drop (1 * Tryd.prog.cellsOf 3)).take (Tryd.prog.cellsOf 3)) = some z1 := hel 1 (by omega)
  have w2 : DataW.trod enc Tryd.prog W 0 (fun _ => true) true m1 3 (([m0, m1', m2].drop (2 * Tryd.prog.cellsOf 3)).take (Tryd.prog.cellsOf 3)) = some z2 := hel 2 (by omega)
  rw [vcI] at w0 w1 w2
  obtain ⟨n0, rfl⟩ := one_int w0
  obtain ⟨n1, rfl⟩ := one_int w1
  obtain ⟨n2, rfl⟩ := one_int w2
  clear w0 w1 w2 hel hf1 hl1 hc1 hb ht
  have hlaw : Calls Tryd.prog 3 #[(Book.mk lb wk lt).val pb pt capb capt, .agg #[.int .i64 t.boy, .int .i64 t.week, .int .i64 t.note, .int .i64 t.sang], .agg #[.int .i64 n0, .int .i64 n1, .int .i64 n2]] W fun e C => e = .returned (.bool true) ∧ Kept W C := by
    exact more_all pb pt capb capt _ t n0 n1 n2 W hBook hN
  refine hlaw.mono fun e W' ⟨he, hk⟩ => ?_
  subst he
  exact ⟨_, rfl, _, _, _, [], _, [], hW', trodAll_mk1 (shut_bool Tryd.underlying4 true), ⟨_, _, a0 W' hk, ⟨_, _, at1 W' hk, ⟨_, _, a1 W' hk, rfl, rfl⟩, rfl⟩, rfl⟩, rfl, kept_but hk _, fun h => by cases h⟩

theorem voiceMore_holds : Rows.VoiceMoreSaid :=
  OpenClaim.holds_of_wide 3 Tryd.f3 rfl rfl rfl rfl rfl rfl rfl ⟨rfl, rfl, rfl, rfl, rfl⟩ rfl rfl rfl rfl rfl (by kernel_rfl) Tryd.func3 (by kernel_rfl)
    (of_decide_eq_true (by kernel_rfl)) (by unfold Func.isWrapper; first | (rw [if_pos (by decide +kernel)]; kernel_rfl) | (rw [if_neg (by decide +kernel)]; exact ⟨rfl, rfl⟩))
    (fun os started H enc _ => vlifted os started H enc)

theorem vsi1 : Tryd.prog.wantsStandIn 27 = false := by kernel_rfl
theorem vsi0 : Tryd.prog.wantsStandIn 25 = false := by kernel_rfl
theorem vsi2 : Tryd.prog.wantsStandIn 28 = false := by kernel_rfl
theorem voiceMore_card_holds : Rows.VoiceMoreCardSaid :=
  Claim7.holds_tied_plain_at .later [] [.data, .data] true (true, "1fe02e092f358b022fb2d1289528f226cd0b3f899295aab512013b537510d860") false
    voiceMore_holds (fun _ h => by cases h) (by kernel_rfl) (fun _ h => by cases h) voiceMore_row_tie rfl ⟨rfl, rfl⟩ (by kernel_rfl) rfl
    (fun f fn hf hfn => by
      obtain rfl : f = 3 := Option.some.inj ((show Tryd.prog.funcNamed "decani/decanilaw02.VoiceMore" = some 3 by kernel_rfl).symm.trans hf) |>.symm
      obtain rfl : fn = Tryd.f3 := (Option.some.inj (Tryd.func3.symm.trans hfn)).symm
      exact ⟨by kernel_rfl, fun j t ht => by
        rw [Tryd.params3] at ht
        match j, ht with
        | 0, ht => simp at ht; subst ht; exact vsi0
        | 1, ht => simp at ht; subst ht; exact vsi1
        | 2, ht => simp at ht; subst ht; exact vsi2
        | n + 3, ht => simp at ht⟩)
    (by kernel_rfl)
#print axioms voiceMore_card_holds
end Go.Proofs.YtchgkfnodcbpiaaDoor
