/- What the chapter says of single books of dormitories holds of the program: the closed law returns true. The package-level variables cold.nowhere and cold.nobody hold what their initialisers lay (tied). -/
import Derived.Test.YtbhgicggpkibeaaDoorCTop
import Derived.Test.YtbhgicggpkibeaaDoorAiL
import Derived.Test.YtbhgicggpkibeaaDoorCards
import Derived.Test.YtbhgicggpkibeaaDoorTie
import Derived.WalkKit
import Derived.ProofKit
import Derived.OpenShut
import Derived.LaidMore
import Derived.Lib.LaidTab
import Derived.Stop.Joined
set_option linter.all false
namespace Go.Proofs.YtbhgicggpkibeaaDoor
open Go.ChangeShapes Go.WideShapes Go.ChangeAt Go.WideMaps Go.WideElems Go.RowKit
set_option maxRecDepth 100000

theorem cown : ownKnob Tryd.prog.godebug = none := by kernel_rfl
theorem gNow : Tryd.prog.globalNamed "decani/cold.nowhere" = some 0 := by kernel_rfl
theorem tNow : (Tryd.prog.globals[0]?).map (·.type) = some 102 := by kernel_rfl
theorem gNob : Tryd.prog.globalNamed "decani/cold.nobody" = some 2 := by kernel_rfl
theorem tNob : (Tryd.prog.globals[2]?).map (·.type) = some 107 := by kernel_rfl
theorem cc3 : Tryd.prog.cellsOf 3 = 1 := by kernel_rfl
theorem cc102 : Tryd.prog.cellsOf 102 = 2 := by kernel_rfl
theorem cc107 : Tryd.prog.cellsOf 107 = 5 := by kernel_rfl
def claid : List (String × DataW Unit) := [("decani/cold.nowhere", Rows.laid_decani_cold_nowhere), ("decani/cold.nobody", Rows.laid_decani_cold_nobody)]

theorem cdoor_met (os : Os) (args : Array Value) : laidMetH Tryd.prog claid ((World.doorLaid Tryd.prog 400 os).forCall (fun _ _ => 0) ⟨#[], args, []⟩).memory :=
  laidMetH_of_parts3 (fuel := 8) (laidMet_of_run' 8 (by kernel_rfl) (by kernel_rfl)) (by kernel_rfl) (by kernel_rfl)

theorem of_claid {W : World} (h : laidMetH Tryd.prog claid W) : (∀ i, i < 2 → W.cell? ⟨0, i, none⟩ = some (.int .i64 (-1))) ∧ ∀ i, i < 5 → W.cell? ⟨2, i, none⟩ = some (.int .i64 6) := by
  rw [MakeChecks.laidMetH_plain _ _ _ (by kernel_rfl)] at h
  obtain ⟨ps, ⟨g, t, cs, fuel, p, q, hg, ht, hv, hd, h2⟩, h3⟩ := h
  have h2' := h2
  obtain ⟨⟨g', t', cs', fuel', p', q', hg', ht', hv', hd', _⟩, _⟩ := h2'
  obtain rfl := Option.some.inj (gNow.symm.trans hg)
  obtain rfl := Option.some.inj (tNow.symm.trans ht)
  obtain rfl := Option.some.inj (gNob.symm.trans hg')
  obtain rfl := Option.some.inj (tNob.symm.trans ht')
  refine ⟨?_, ?_⟩
  · obtain ⟨y0, y1, m', hyy, _, t0, t1⟩ := trod_struct2 Tryd.underlying102 hd
    rw [cc3] at t0 t1
    obtain ⟨z0, c0, e0, _⟩ := DataW.trod_int Tryd.underlying3 t0
    obtain ⟨z1, c1, e1, _⟩ := DataW.trod_int Tryd.underlying3 t1
    have hy1 := congrArg Prod.fst hyy
    rw [e0, e1] at hy1
    simp only [Rows.laid_decani_cold_nowhere, DataW.agg.injEq, List.cons.injEq, DataW.lit.injEq, Lit.int.injEq, true_and, and_true] at hy1
    obtain ⟨rfl, rfl⟩ := hy1
    have k0 := congrArg (fun z => z[0]?) c0
    have k1 := congrArg (fun z => z[0]?) c1
    simp [List.getElem?_take, List.getElem?_drop] at k0 k1
    have cell : ∀ i v, cs.toList[i]? = some v → W.cell? ⟨0, i, none⟩ = some v := fun i v hv' => by
      have := World.var?_cell hg hv i
      rw [this, ← Array.getElem?_toList]
      exact hv'
    intro i hi
    match i, hi with
    | 0, _ => exact cell 0 _ (by simpa using k0)
    | 1, _ => exact cell 1 _ (by simpa using k1)
  · have hc := Lib.cells_of_tab (zs := [6, 6, 6, 6, 6]) (k := .i64) Tryd.underlying107 Tryd.underlying3 cc3 cc107 hd'
    have cell : ∀ i v, cs'.toList[i]? = some v → W.cell? ⟨2, i, none⟩ = some v := fun i v hv2 => by
      have := World.var?_cell hg' hv' i
      rw [this, ← Array.getElem?_toList]
      exact hv2
    intro i hi
    match i, hi with
    | 0, _ => exact cell 0 _ (by simp [hc])
    | 1, _ => exact cell 1 _ (by simp [hc])
    | 2, _ => exact cell 2 _ (by simp [hc])
    | 3, _ => exact cell 3 _ (by simp [hc])
    | 4, _ => exact cell 4 _ (by simp [hc])

theorem ccalls (W : World) (h1 : ∀ i, i < 2 → W.cell? ⟨0, i, none⟩ = some (.int .i64 (-1))) (h2 : ∀ i, i < 5 → W.cell? ⟨2, i, none⟩ = some (.int .i64 6)) :
    Calls Tryd.prog 4 #[] W fun e w' => e = .returned (.bool true) ∧ ∀ may, W.keptBut w' may := by
  have I : Go.Ai.Inv 4 (fun b => ⟨b, 0, 0⟩) ceTop.heap W := by
    refine Go.Ai.start_inv (G := 4) (by decide) (by decide) (by decide) fun b x hx => ?_
    simp only [ceTop, List.mem_cons, List.not_mem_nil, or_false, Prod.mk.injEq] at hx
    rcases hx with ⟨rfl, rfl⟩ | ⟨rfl, rfl⟩ | ⟨rfl, rfl⟩ | ⟨rfl, rfl⟩
    · refine .inr ⟨_, rfl, by decide, fun i v hv => ?_, Go.Ai.lt_of_cell (h1 0 (by omega))⟩
      match i, hv with
      | 0, hv => cases hv; exact h1 0 (by omega)
      | 1, hv => cases hv; exact h1 1 (by omega)
    · exact .inl rfl
    · refine .inr ⟨_, rfl, by decide, fun i v hv => ?_, Go.Ai.lt_of_cell (h2 0 (by omega))⟩
      match i, hv with
      | 0, hv => cases hv; exact h2 0 (by omega)
      | 1, hv => cases hv; exact h2 1 (by omega)
      | 2, hv => cases hv; exact h2 2 (by omega)
      | 3, hv => cases hv; exact h2 3 (by omega)
      | 4, hv => cases hv; exact h2 4 (by omega)
    · exact .inl rfl
  refine (Go.Ai.calls_of_ent ceTop_h rfl I rfl).mono fun e w' ⟨j2, he, A⟩ => ⟨?_, A.keptBut⟩
  rw [he]; rfl

theorem clifted (os : Os) (started : os.Started) (H : Type) (enc : TypeId × Value → H) :
    ReturnsInHanded {} Tryd.checked os 4 .any (fun w args => (Rows.coldKnownSpec.pre enc Tryd.prog Tryd.f4 [] false w args ∧ laidMetH Tryd.prog claid w) ∧ sizedMet enc Tryd.prog Tryd.f4 (OpenSpec.ofChange Rows.coldKnownSpec) false w args)
      (Rows.coldKnownSpec.post enc Tryd.prog Tryd.f4 false true false false) := by
  refine returnsInHanded_of_change_and (C := Tryd.checked) (X := fun w _ => laidMetH Tryd.prog claid w) (fun _ _ _ hh h => h.of_heap hh) cown started (by kernel_rfl) Tryd.func4
    (ChangeSpec.witness_shaped (enc := enc) (C := Tryd.checked) (os := os) (X := fun w _ => laidMetH Tryd.prog claid w) false (World.doorLaid Tryd.prog 400 os) #[] 8 rfl (World.shaped_of_RefB (by kernel_rfl) (by kernel_rfl)) (by kernel_rfl) (by kernel_rfl) (by kernel_rfl) (cdoor_met os _)) ?_
  intro W base args ds gs before hval0 hW _ _ hL _
  have hW' := hW
  obtain ⟨p, q, hA0, hV, rfl, hfz, hnd⟩ := hW
  have hA : DataW.TrodAll enc Tryd.prog W 0 (fun _ => true) true Tryd.f4.params.toList args.toList ds p := hA0
  rw [Tryd.params4] at hA
  obtain ⟨hargs, rfl, rfl⟩ := trodAll_none hA
  obtain ⟨rfl, rfl⟩ := trodVars_none hV
  obtain rfl : args = #[] := by cases args; simp_all
  obtain ⟨l1, l2⟩ := of_claid hL
  refine (ccalls W l1 l2).mono fun e W' ⟨he, hk⟩ => ?_
  subst he
  exact ⟨_, rfl, _, _, _, [], [], [], hW', trodAll_mk1 (shut_bool Tryd.underlying4 true), rfl, rfl, hk _, fun h => by cases h⟩

theorem coldKnown_holds : Rows.ColdKnownSaid :=
  OpenClaim.holds_of_wide 4 Tryd.f4 rfl rfl rfl rfl rfl rfl rfl ⟨rfl, rfl, rfl, rfl, rfl⟩ rfl rfl rfl rfl rfl (by kernel_rfl) Tryd.func4 (by kernel_rfl)
    (of_decide_eq_true (by kernel_rfl)) (by unfold Func.isWrapper; first | (rw [if_pos (by decide +kernel)]; kernel_rfl) | (rw [if_neg (by decide +kernel)]; exact ⟨rfl, rfl⟩))
    (fun os started H enc _ => clifted os started H enc)

theorem coldKnown_card_holds : Rows.ColdKnownCardSaid :=
  Claim7.holds_tied_plain_at .later [] [.data, .data] true (true, "a2d311d538934d1591382793f8fa2b193fe9856d2bab7a2823e0288f4670e34a") false
    coldKnown_holds (fun _ h => by cases h) (by kernel_rfl) (fun _ h => by cases h) coldKnown_row_tie rfl ⟨rfl, rfl⟩ (by kernel_rfl) rfl
    (fun f fn hf hfn => by
      obtain rfl : f = 4 := Option.some.inj ((show Tryd.prog.funcNamed "decani/decanilaw03.ColdKnown" = some 4 by kernel_rfl).symm.trans hf) |>.symm
      obtain rfl : fn = Tryd.f4 := (Option.some.inj (Tryd.func4.symm.trans hfn)).symm
      exact ⟨by kernel_rfl, fun j t ht => by
        rw [Tryd.params4] at ht
        simp at ht⟩)
    (by kernel_rfl)
#print axioms coldKnown_card_holds
end Go.Proofs.YtbhgicggpkibeaaDoor
