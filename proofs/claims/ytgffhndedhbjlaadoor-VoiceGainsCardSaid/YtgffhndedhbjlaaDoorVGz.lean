/- A boy who gains more, or loses less, or whose highest note is higher at first, has no lower highest note, and surely sings what he surely sang: the law VoiceGains returns true for every book that reads as one and all numbers. The package-level variables voice.nothing and voice.bounds hold what their initialisers lay (tied). -/
import Derived.Test.YtgffhndedhbjlaaDoorVI
import Derived.Test.YtgffhndedhbjlaaDoorVGa
set_option linter.all false
set_option linter.all false
namespace Go.Proofs.YtgffhndedhbjlaaDoor
open Go.ChangeShapes Go.WideShapes Go.ChangeAt Go.WideMaps Go.WideElems Go.RowKit Go.Deep Go.Rg
set_option maxRecDepth 100000
theorem vcA4 : Tryd.prog.cellsOf 44 = 4 := by kernel_rfl
theorem len4 {α : Type} {l : List α} (h : l.length = 4) : ∃ a b c d, l = [a, b, c, d] := by
  match l, h with
  | [a, b, c, d], _ => exact ⟨a, b, c, d, rfl⟩
set_option maxHeartbeats 1000000 in
theorem vlifted (os : Os) (started : os.Started) (H : Type) (enc : TypeId × Value → H) :
    ReturnsInHanded {} Tryd.checked os 5 .any (fun w args => (Rows.voiceGainsSpec.pre enc Tryd.prog Tryd.f5 [] false w args ∧ laidMetH Tryd.prog vlaid w) ∧ sizedMet enc Tryd.prog Tryd.f5 (OpenSpec.ofChange Rows.voiceGainsSpec) false w args)
      (Rows.voiceGainsSpec.post enc Tryd.prog Tryd.f5 false true false false) := by
  refine returnsInHanded_of_change_and (C := Tryd.checked) (X := fun w _ => laidMetH Tryd.prog vlaid w) (fun _ _ _ hh h => h.of_heap hh) vown started (by kernel_rfl) Tryd.func5
    (ChangeSpec.witness_shaped (enc := enc) (C := Tryd.checked) (os := os) (X := fun w _ => laidMetH Tryd.prog vlaid w) false (World.doorLaid Tryd.prog 400 os) #[.agg #[.slice none 0 0, .int .i64 0, .slice none 0 0], .agg #[.int .i64 0, .int .i64 0, .int .i64 0, .int .i64 0]] 8 rfl (World.shaped_of_RefB (by kernel_rfl) (by kernel_rfl)) (by kernel_rfl) (by kernel_rfl) (by kernel_rfl) (vdoor_met os _)) ?_
  intro W base args ds gs before hval0 hW _ hwt0 hL _
  have hW' := hW
  obtain ⟨p, q, hA0, hV, rfl, hfz, hnd⟩ := hW
  have hA : DataW.TrodAll enc Tryd.prog W 0 (fun _ => true) true Tryd.f5.params.toList args.toList ds p := hA0
  have hval := hval0
  have hwt := hwt0
  rw [Tryd.params5] at hA hval hwt
  obtain ⟨v0, v1, d0, d1, p0, p1, rfl, rfl, rfl, h0, h1⟩ := trodAll_two hA
  obtain ⟨rfl, rfl⟩ := trodVars_none hV
  have hlt : ∀ x ∈ p0 ++ p1, x.block < W.heap.size := fun x hx => hW'.lt x (by simpa using hx)
  have a0 : ∀ (W' : World), Below W.heap.size W W' → DataW.Trod enc Tryd.prog W' 0 (fun b => decide (b < W.heap.size)) true 25 v0 d0 p0 :=
    fun W' hn => Below.trod vlaidOut (by kernel_rfl) (of_decide_eq_true (by kernel_rfl)) h0 hn (fun x hx => hlt x (List.mem_append_left _ hx))
  have a1 : ∀ (W' : World), Below W.heap.size W W' → DataW.Trod enc Tryd.prog W' 0 (fun b => decide (b < W.heap.size)) true 44 v1 d1 p1 :=
    fun W' hn => Below.trod vlaidOut (by kernel_rfl) (of_decide_eq_true (by kernel_rfl)) h1 hn (fun x hx => hlt x (List.mem_append_right _ hx))
  obtain ⟨l1, l2⟩ := of_vlaid hL
  have hN : Nothing W := l1
  have hLd : Laid W := ⟨Go.Ai.lt_of_cell (l2 0 (by omega)), l2 0 (by omega), l2 1 (by omega), l2 2 (by omega), l2 3 (by omega), l2 4 (by omega), l2 5 (by omega), l2 6 (by omega), l2 7 (by omega), l2 8 (by omega), l2 9 (by omega)⟩
  obtain ⟨c0, rfl, hc0⟩ := okWide_struct Tryd.underlying25 (hval 0 25 v0 rfl rfl)
  obtain ⟨fu0, hf0⟩ := h0
  obtain ⟨y0, y1, y2, n, hy, hl0, t0, t1, t2⟩ := trod_struct3 Tryd.underlying25 hf0
  rw [vcK] at hc0
  obtain ⟨lc⟩ := c0
  obtain ⟨s0, s1, s2, rfl⟩ := len3 (by simpa using hc0)
  clear hc0 hl0 hf0
  have u0 : DataW.trod enc Tryd.prog W 0 (fun _ => true) true n 22 (([s0, s1, s2].drop 0).take (Tryd.prog.cellsOf 22)) = some y0 := t0
  have u1 : DataW.trod enc Tryd.prog W 0 (fun _ => true) true n 3 (([s0, s1, s2].drop 1).take (Tryd.prog.cellsOf 3)) = some y1 := t1
  have u2 : DataW.trod enc Tryd.prog W 0 (fun _ => true) true n 23 (([s0, s1, s2].drop 2).take (Tryd.prog.cellsOf 23)) = some y2 := t2
  rw [vcL] at u0
  rw [vcI] at u1
  rw [vcM] at u2
  have hy1 := congrArg Prod.fst hy
  simp only at hy1
  subst hy1
  obtain ⟨hw1, hw2⟩ := book_weights hwt
  obtain ⟨wk, rfl⟩ := one_int u1
  obtain ⟨pb, capb, lb, rfl, nb, hb⟩ := rows_of (k := 11) boyCells (by omega) (fun _ => rfl) Tryd.underlying22 vcB (fun n cs x h => boy_ints h) u0
  obtain ⟨pt, capt, lt, rfl, nt, ht⟩ := rows_of (k := 4) trialCells (by omega) (fun _ => rfl) Tryd.underlying23 vcT (fun n cs x h => trial_ints h) u2
  clear u0 u1 u2 t0 t1 t2
  have hBook : BookAt W pb pt capb capt ⟨lb, wk, lt⟩ := by
    refine ⟨hLd, nb.elim (fun e => by rw [e]; simp) (few_boys hw1), nt.elim (fun e => by rw [e]; simp) (few_trials hw2), ?_, ?_⟩
    · rcases hb with e | ⟨b, o, rfl, hz, hc⟩
      · exact .inl e
      · exact .inr ⟨b, o, rfl, hz, fun i y hy => ⟨hc i y hy 0 (by omega), hc i y hy 1 (by omega), hc i y hy 2 (by omega), hc i y hy 3 (by omega), hc i y hy 4 (by omega), hc i y hy 5 (by omega), hc i y hy 6 (by omega), hc i y hy 7 (by omega), hc i y hy 8 (by omega), hc i y hy 9 (by omega), hc i y hy 10 (by omega)⟩⟩
    · rcases ht with e | ⟨b, o, rfl, hz, hc⟩
      · exact .inl e
      · exact .inr ⟨b, o, rfl, hz, fun i y hy => ⟨hc i y hy 0 (by omega), hc i y hy 1 (by omega), hc i y hy 2 (by omega), hc i y hy 3 (by omega)⟩⟩
  obtain ⟨c1, rfl, hc1⟩ := okWide_arr Tryd.underlying44 (hval 1 44 v1 rfl rfl)
  obtain ⟨fu1, hf1⟩ := h1
  obtain ⟨xs, m1, _, _, hl1, hxl, hel⟩ := DataW.trod_array Tryd.underlying44 hf1
  rw [vcA4] at hc1
  obtain ⟨l3⟩ := c1
  obtain ⟨m0, m1', m2, m3, rfl⟩ := len4 (by simpa using hc1)
  obtain ⟨z0, z1, z2, z3, rfl⟩ := len4 hxl
  have w0 : DataW.trod enc Tryd.prog W 0 (fun _ => true) true m1 3 (([m0, m1', m2, m3].drop (0 * Tryd.prog.cellsOf 3)).take (Tryd.prog.cellsOf 3)) = some z0 := hel 0 (by omega)
  have w1 : DataW.trod enc Tryd.prog W 0 (fun _ => true) true m1 3 (([m0, m1', m2, m3].drop (1 * Tryd.prog.cellsOf 3)).take (Tryd.prog.cellsOf 3)) = some z1 := hel 1 (by omega)
  have w2 : DataW.trod enc Tryd.prog W 0 (fun _ => true) true m1 3 (([m0, m1', m2, m3].drop (2 * Tryd.prog.cellsOf 3)).take (Tryd.prog.cellsOf 3)) = some z2 := hel 2 (by omega)
  have w3 : DataW.trod enc Tryd.prog W 0 (fun _ => true) true m1 3 (([m0, m1', m2, m3].drop (3 * Tryd.prog.cellsOf 3)).take (Tryd.prog.cellsOf 3)) = some z3 := hel 3 (by omega)
  rw [vcI] at w0 w1 w2 w3
  obtain ⟨n0, rfl⟩ := one_int w0
  obtain ⟨n1, rfl⟩ := one_int w1
  obtain ⟨n2, rfl⟩ := one_int w2
  obtain ⟨n3, rfl⟩ := one_int w3
  clear w0 w1 w2 w3 hel hf1 hl1 hc1 hb ht
  have hlaw : Calls Tryd.prog 5 #[(Book.mk lb wk lt).val pb pt capb capt, .agg #[.int .i64 n0, .int .i64 n1, .int .i64 n2, .int .i64 n3]] W fun e C => e = .returned (.bool true) ∧ Kept W C := by
    cases hok : (Book.mk lb wk lt).okB with
    | false => exact gains_false pb pt capb capt _ n0 n1 n2 n3 W hBook hN hok
    | true => exact gains_true pb pt capb capt _ n0 n1 n2 n3 W hBook hN hok
  refine hlaw.mono fun e W' ⟨he, hk⟩ => ?_
  subst he
  exact ⟨_, rfl, _, _, _, [], _, [], hW', trodAll_mk1 (shut_bool Tryd.underlying4 true), ⟨_, _, a0 W' hk, ⟨_, _, a1 W' hk, rfl, rfl⟩, rfl⟩, rfl, kept_but hk _, fun h => by cases h⟩

theorem voiceGains_holds : Rows.VoiceGainsSaid :=
  OpenClaim.holds_of_wide 5 Tryd.f5 rfl rfl rfl rfl rfl rfl rfl ⟨rfl, rfl, rfl, rfl, rfl⟩ rfl rfl rfl rfl rfl (by kernel_rfl) Tryd.func5 (by kernel_rfl)
    (of_decide_eq_true (by kernel_rfl)) (by unfold Func.isWrapper; first | (rw [if_pos (by decide +kernel)]; kernel_rfl) | (rw [if_neg (by decide +kernel)]; exact ⟨rfl, rfl⟩))
    (fun os started H enc _ => vlifted os started H enc)

theorem vsi0 : Tryd.prog.wantsStandIn 25 = false := by kernel_rfl
theorem vsi1 : Tryd.prog.wantsStandIn 44 = false := by kernel_rfl
theorem voiceGains_card_holds : Rows.VoiceGainsCardSaid :=
  Claim7.holds_tied_plain_at .later [] [.data, .data] true (true, "582e94aa9929fb8981e6d2afd0790621e7704627b881c92c0a7369938743bfb3") false
    voiceGains_holds (fun _ h => by cases h) (by kernel_rfl) (fun _ h => by cases h) voiceGains_row_tie rfl ⟨rfl, rfl⟩ (by kernel_rfl) rfl
    (fun f fn hf hfn => by
      obtain rfl : f = 5 := Option.some.inj ((show Tryd.prog.funcNamed "decani/decanilaw02.VoiceGains" = some 5 by kernel_rfl).symm.trans hf) |>.symm
      obtain rfl : fn = Tryd.f5 := (Option.some.inj (Tryd.func5.symm.trans hfn)).symm
      exact ⟨by kernel_rfl, fun j t ht => by
        rw [Tryd.params5] at ht
        match j, ht with
        | 0, ht => simp at ht; subst ht; exact vsi0
        | 1, ht => simp at ht; subst ht; exact vsi1
        | n + 2, ht => simp at ht⟩)
    (by kernel_rfl)
#print axioms voiceGains_card_holds
end Go.Proofs.YtgffhndedhbjlaaDoor
