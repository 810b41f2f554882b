/- What the chapter says of single books of singers' strength holds of the program: the closed law returns true. The package-level variables strain.nobody and strain.nothing hold what their initialisers lay (tied). -/
import Derived.Test.YtgffhndedhbjlaaGreatDoorZTop
import Derived.Test.YtgffhndedhbjlaaGreatDoorAiL
import Derived.Test.YtgffhndedhbjlaaGreatDoorCards
import Derived.Test.YtgffhndedhbjlaaGreatDoorTie
import Derived.WalkKit
import Derived.ProofKit
import Derived.OpenShut
import Derived.LaidMore
import Derived.Lib.LaidTab
import Derived.Stop.Joined
set_option linter.all false
namespace Go.Proofs.YtgffhndedhbjlaaGreatDoor
open Go.ChangeShapes Go.WideShapes Go.ChangeAt Go.WideMaps Go.WideElems Go.RowKit
set_option maxRecDepth 100000

theorem cown : ownKnob Tryz.prog.godebug = none := by kernel_rfl
theorem gNow : Tryz.prog.globalNamed "decani/strain.nobody" = some 0 := by kernel_rfl
theorem tNow : (Tryz.prog.globals[0]?).map (·.type) = some 63 := by kernel_rfl
theorem gNob : Tryz.prog.globalNamed "decani/strain.nothing" = some 1 := by kernel_rfl
theorem tNob : (Tryz.prog.globals[1]?).map (·.type) = some 71 := by kernel_rfl
theorem cc3 : Tryz.prog.cellsOf 3 = 1 := by kernel_rfl
theorem cc102 : Tryz.prog.cellsOf 63 = 2 := by kernel_rfl
theorem cc107 : Tryz.prog.cellsOf 71 = 3 := by kernel_rfl
def claid : List (String × DataW Unit) := [("decani/strain.nobody", Rows.laid_decani_strain_nobody), ("decani/strain.nothing", Rows.laid_decani_strain_nothing)]

theorem cdoor_met (os : Os) (args : Array Value) : laidMetH Tryz.prog claid ((World.doorLaid Tryz.prog 400 os).forCall (fun _ _ => 0) ⟨#[], args, []⟩).memory :=
  laidMetH_of_parts3 (fuel := 8) (laidMet_of_run' 8 (by kernel_rfl) (by kernel_rfl)) (by kernel_rfl) (by kernel_rfl)

theorem of_claid {W : World} (h : laidMetH Tryz.prog claid W) : (W.cell? ⟨0, 0, none⟩ = some (.int .i64 5) ∧ W.cell? ⟨0, 1, none⟩ = some (.int .i64 3)) ∧ ∀ i, i < 3 → W.cell? ⟨1, i, none⟩ = some (.int .i64 (-1)) := by
  rw [MakeChecks.laidMetH_plain _ _ _ (by kernel_rfl)] at h
  obtain ⟨ps, ⟨g, t, cs, fuel, p, q, hg, ht, hv, hd, h2⟩, h3⟩ := h
  have h2' := h2
  obtain ⟨⟨g', t', cs', fuel', p', q', hg', ht', hv', hd', _⟩, _⟩ := h2'
  obtain rfl := Option.some.inj (gNow.symm.trans hg)
  obtain rfl := Option.some.inj (tNow.symm.trans ht)
  obtain rfl := Option.some.inj (gNob.symm.trans hg')
  obtain rfl := Option.some.inj (tNob.symm.trans ht')
  refine ⟨?_, ?_⟩
  · obtain ⟨y0, y1, m', hyy, _, t0, t1⟩ := trod_struct2 Tryz.underlying63 hd
    rw [cc3] at t0 t1
    obtain ⟨z0, c0, e0, _⟩ := DataW.trod_int Tryz.underlying3 t0
    obtain ⟨z1, c1, e1, _⟩ := DataW.trod_int Tryz.underlying3 t1
    have hy1 := congrArg Prod.fst hyy
    rw [e0, e1] at hy1
    simp only [Rows.laid_decani_strain_nobody, DataW.agg.injEq, List.cons.injEq, DataW.lit.injEq, Lit.int.injEq, true_and, and_true] at hy1
    obtain ⟨rfl, rfl⟩ := hy1
    have k0 := congrArg (fun z => z[0]?) c0
    have k1 := congrArg (fun z => z[0]?) c1
    simp [List.getElem?_take, List.getElem?_drop] at k0 k1
    have cell : ∀ i v, cs.toList[i]? = some v → W.cell? ⟨0, i, none⟩ = some v := fun i v hv' => by
      have := World.var?_cell hg hv i
      rw [this, ← Array.getElem?_toList]
      exact hv'
    exact ⟨cell 0 _ (by simpa using k0), cell 1 _ (by simpa using k1)⟩
  · have hc := Lib.cells_of_tab (zs := [-1, -1, -1]) (k := .i64) Tryz.underlying71 Tryz.underlying3 cc3 cc107 hd'
    have cell : ∀ i v, cs'.toList[i]? = some v → W.cell? ⟨1, i, none⟩ = some v := fun i v hv2 => by
      have := World.var?_cell hg' hv' i
      rw [this, ← Array.getElem?_toList]
      exact hv2
    intro i hi
    match i, hi with
    | 0, _ => exact cell 0 _ (by simp [hc])
    | 1, _ => exact cell 1 _ (by simp [hc])
    | 2, _ => exact cell 2 _ (by simp [hc])

theorem ccalls (W : World) (h1 : W.cell? ⟨0, 0, none⟩ = some (.int .i64 5) ∧ W.cell? ⟨0, 1, none⟩ = some (.int .i64 3)) (h2 : ∀ i, i < 3 → W.cell? ⟨1, i, none⟩ = some (.int .i64 (-1))) :
    Calls Tryz.prog 3 #[] W fun e w' => e = .returned (.bool true) ∧ ∀ may, W.keptBut w' may := by
  have I : Go.Ai.Inv 2 (fun b => ⟨b, 0, 0⟩) zfTop.heap W := by
    refine Go.Ai.start_inv (G := 2) (by decide) (by decide) (by decide) fun b x hx => ?_
    simp only [zfTop, List.mem_cons, List.not_mem_nil, or_false, Prod.mk.injEq] at hx
    rcases hx with ⟨rfl, rfl⟩ | ⟨rfl, rfl⟩
    · refine .inr ⟨_, rfl, by decide, fun i v hv => ?_, Go.Ai.lt_of_cell h1.1⟩
      match i, hv with
      | 0, hv => cases hv; exact h1.1
      | 1, hv => cases hv; exact h1.2
    · refine .inr ⟨_, rfl, by decide, fun i v hv => ?_, Go.Ai.lt_of_cell (h2 0 (by omega))⟩
      match i, hv with
      | 0, hv => cases hv; exact h2 0 (by omega)
      | 1, hv => cases hv; exact h2 1 (by omega)
      | 2, hv => cases hv; exact h2 2 (by omega)
  refine (Go.Ai.calls_of_ent zfTop_h rfl I rfl).mono fun e w' ⟨j2, he, A⟩ => ⟨?_, A.keptBut⟩
  rw [he]; rfl

theorem clifted (os : Os) (started : os.Started) (H : Type) (enc : TypeId × Value → H) :
    ReturnsInHanded {} Tryz.checked os 3 .any (fun w args => (Rows.strainKnownSpec.pre enc Tryz.prog Tryz.f3 [] false w args ∧ laidMetH Tryz.prog claid w) ∧ sizedMet enc Tryz.prog Tryz.f3 (OpenSpec.ofChange Rows.strainKnownSpec) false w args)
      (Rows.strainKnownSpec.post enc Tryz.prog Tryz.f3 false true false false) := by
  refine returnsInHanded_of_change_and (C := Tryz.checked) (X := fun w _ => laidMetH Tryz.prog claid w) (fun _ _ _ hh h => h.of_heap hh) cown started (by kernel_rfl) Tryz.func3
    (ChangeSpec.witness_shaped (enc := enc) (C := Tryz.checked) (os := os) (X := fun w _ => laidMetH Tryz.prog claid w) false (World.doorLaid Tryz.prog 400 os) #[] 8 rfl (World.shaped_of_RefB (by kernel_rfl) (by kernel_rfl)) (by kernel_rfl) (by kernel_rfl) (by kernel_rfl) (cdoor_met os _)) ?_
  intro W base args ds gs before hval0 hW _ _ hL _
  have hW' := hW
  obtain ⟨p, q, hA0, hV, rfl, hfz, hnd⟩ := hW
  have hA : DataW.TrodAll enc Tryz.prog W 0 (fun _ => true) true Tryz.f3.params.toList args.toList ds p := hA0
  rw [Tryz.params3] at hA
  obtain ⟨hargs, rfl, rfl⟩ := trodAll_none hA
  obtain ⟨rfl, rfl⟩ := trodVars_none hV
  obtain rfl : args = #[] := by cases args; simp_all
  obtain ⟨l1, l2⟩ := of_claid hL
  refine (ccalls W l1 l2).mono fun e W' ⟨he, hk⟩ => ?_
  subst he
  exact ⟨_, rfl, _, _, _, [], [], [], hW', trodAll_mk1 (shut_bool Tryz.underlying4 true), rfl, rfl, hk _, fun h => by cases h⟩

theorem strainKnown_holds : Rows.StrainKnownSaid :=
  OpenClaim.holds_of_wide 3 Tryz.f3 rfl rfl rfl rfl rfl rfl rfl ⟨rfl, rfl, rfl, rfl, rfl⟩ rfl rfl rfl rfl rfl (by kernel_rfl) Tryz.func3 (by kernel_rfl)
    (of_decide_eq_true (by kernel_rfl)) (by unfold Func.isWrapper; first | (rw [if_pos (by decide +kernel)]; kernel_rfl) | (rw [if_neg (by decide +kernel)]; exact ⟨rfl, rfl⟩))
    (fun os started H enc _ => clifted os started H enc)

theorem strainKnown_card_holds : Rows.StrainKnownCardSaid :=
  Claim7.holds_tied_plain_at .later [] [.data, .data] true (true, "0ecdbeaa7ce7ed65f8ca97b6608af375dd3203a003b352af34cca7667c03c71d") false
    strainKnown_holds (fun _ h => by cases h) (by kernel_rfl) (fun _ h => by cases h) strainKnown_row_tie rfl ⟨rfl, rfl⟩ (by kernel_rfl) rfl
    (fun f fn hf hfn => by
      obtain rfl : f = 3 := Option.some.inj ((show Tryz.prog.funcNamed "decani/decanilaw04.StrainKnown" = some 3 by kernel_rfl).symm.trans hf) |>.symm
      obtain rfl : fn = Tryz.f3 := (Option.some.inj (Tryz.func3.symm.trans hfn)).symm
      exact ⟨by kernel_rfl, fun j t ht => by
        rw [Tryz.params3] at ht
        simp at ht⟩)
    (by kernel_rfl)
#print axioms strainKnown_card_holds
end Go.Proofs.YtgffhndedhbjlaaGreatDoor
