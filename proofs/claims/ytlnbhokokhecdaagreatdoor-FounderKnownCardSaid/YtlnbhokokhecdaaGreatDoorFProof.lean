/- What the chapter says of single books of founders holds of the program: the closed law returns true. The package-level variables office.noSeason, founder.noServices, founder.noService hold what their initialisers lay (tied). -/
import Derived.Test.YtlnbhokokhecdaaGreatDoorFTop
import Derived.Test.YtlnbhokokhecdaaGreatDoorAiL
import Derived.Test.YtlnbhokokhecdaaGreatDoorCards
import Derived.Test.YtlnbhokokhecdaaGreatDoorTie
import Derived.WalkKit
import Derived.ProofKit
import Derived.OpenShut
import Derived.LaidMore
import Derived.Lib.LaidTab
import Derived.Stop.Joined
import Derived.Carry
import Derived.SizedLaws
import Derived.Deep.Slices
import Derived.Deep.Strs
set_option linter.all false
namespace Go.Proofs.YtlnbhokokhecdaaGreatDoor
open Go.ChangeShapes Go.WideShapes Go.ChangeAt Go.WideMaps Go.WideElems Go.RowKit Go.Deep
set_option maxRecDepth 100000

theorem fkown : ownKnob Tryz.prog.godebug = none := by kernel_rfl
theorem fkg1 : Tryz.prog.globalNamed "decani/office.noSeason" = some 1 := by kernel_rfl
theorem fkt1 : (Tryz.prog.globals[1]?).map (·.type) = some 119 := by kernel_rfl
theorem fkg0 : Tryz.prog.globalNamed "decani/founder.noServices" = some 0 := by kernel_rfl
theorem fkt0 : (Tryz.prog.globals[0]?).map (·.type) = some 87 := by kernel_rfl
theorem fkg2 : Tryz.prog.globalNamed "decani/founder.noService" = some 2 := by kernel_rfl
theorem fkt2 : (Tryz.prog.globals[2]?).map (·.type) = some 52 := by kernel_rfl
theorem fkc3 : Tryz.prog.cellsOf 3 = 1 := by kernel_rfl
theorem fkc52 : Tryz.prog.cellsOf 52 = 2 := by kernel_rfl
theorem fkc87 : Tryz.prog.cellsOf 87 = 3 := by kernel_rfl
theorem fkc119 : Tryz.prog.cellsOf 119 = 4 := by kernel_rfl
def fklaid : List (String × DataW Unit) := [("decani/office.noSeason", Rows.laid_decani_office_noSeason), ("decani/founder.noServices", Rows.laid_decani_founder_noServices), ("decani/founder.noService", Rows.laid_decani_founder_noService)]

theorem fkdoor_met (os : Os) (args : Array Value) : laidMetH Tryz.prog fklaid ((World.doorLaid Tryz.prog 400 os).forCall (fun _ _ => 0) ⟨#[], args, []⟩).memory :=
  laidMetH_of_parts3 (fuel := 8) (laidMet_of_run' 8 (by kernel_rfl) (by kernel_rfl)) (by kernel_rfl) (by kernel_rfl)
def fkl1 : List Int := [(-1), (-1), (-1), (-1)]
def fkl0 : List Int := [0, 0, 0]
def fkl2 : List Int := [(-1), (-1)]

theorem fkof_laid {W : World} (h : laidMetH Tryz.prog fklaid W) : (∀ i, i < 4 → W.cell? ⟨1, i, none⟩ = some (.int .i64 (fkl1.getD i 0))) ∧ (∀ i, i < 3 → W.cell? ⟨0, i, none⟩ = some (.int .i64 (fkl0.getD i 0))) ∧ (∀ i, i < 2 → W.cell? ⟨2, i, none⟩ = some (.int .i64 (fkl2.getD i 0))) := by
  rw [MakeChecks.laidMetH_plain _ _ _ (by kernel_rfl)] at h
  obtain ⟨ps, ⟨g0, t0, cs0, f0, p0, q0, hg0, ht0, hv0, hd0, ⟨⟨g1, t1, cs1, f1, p1, q1, hg1, ht1, hv1, hd1, ⟨⟨g2, t2, cs2, f2, p2, q2, hg2, ht2, hv2, hd2, _⟩, _⟩⟩, _⟩⟩, _⟩ := h
  obtain rfl := Option.some.inj (fkg1.symm.trans hg0)
  obtain rfl := Option.some.inj (fkt1.symm.trans ht0)
  obtain rfl := Option.some.inj (fkg0.symm.trans hg1)
  obtain rfl := Option.some.inj (fkt0.symm.trans ht1)
  obtain rfl := Option.some.inj (fkg2.symm.trans hg2)
  obtain rfl := Option.some.inj (fkt2.symm.trans ht2)
  refine ⟨?_, ?_, ?_⟩
  · have hc := Lib.cells_of_tab (zs := fkl1) (k := .i64) Tryz.underlying119 Tryz.underlying3 fkc3 fkc119 hd0
    have cell : ∀ i v, cs0.toList[i]? = some v → W.cell? ⟨1, i, none⟩ = some v := fun i v hv' => by
      have := World.var?_cell hg0 hv0 i
      rw [this, ← Array.getElem?_toList]
      exact hv'
    intro i hi
    match i, hi with
    | 0, _ => exact cell 0 _ (by simp [hc, fkl1])
    | 1, _ => exact cell 1 _ (by simp [hc, fkl1])
    | 2, _ => exact cell 2 _ (by simp [hc, fkl1])
    | 3, _ => exact cell 3 _ (by simp [hc, fkl1])
  · have hc := Lib.cells_of_tab (zs := fkl0) (k := .i64) Tryz.underlying87 Tryz.underlying3 fkc3 fkc87 hd1
    have cell : ∀ i v, cs1.toList[i]? = some v → W.cell? ⟨0, i, none⟩ = some v := fun i v hv' => by
      have := World.var?_cell hg1 hv1 i
      rw [this, ← Array.getElem?_toList]
      exact hv'
    intro i hi
    match i, hi with
    | 0, _ => exact cell 0 _ (by simp [hc, fkl0])
    | 1, _ => exact cell 1 _ (by simp [hc, fkl0])
    | 2, _ => exact cell 2 _ (by simp [hc, fkl0])
  · obtain ⟨y0, y1, m', hyy, _, u0, u1⟩ := trod_struct2 Tryz.underlying52 hd2
    rw [fkc3] at u0 u1
    obtain ⟨z0, k0, e0, _⟩ := DataW.trod_int Tryz.underlying3 u0
    obtain ⟨z1, k1, e1, _⟩ := DataW.trod_int Tryz.underlying3 u1
    have hy1 := congrArg Prod.fst hyy
    rw [e0, e1] at hy1
    simp only [Rows.laid_decani_founder_noService, DataW.agg.injEq, List.cons.injEq, DataW.lit.injEq, Lit.int.injEq, true_and, and_true] at hy1
    obtain ⟨rfl, rfl⟩ := hy1
    have j0 := congrArg (fun z => z[0]?) k0
    have j1 := congrArg (fun z => z[0]?) k1
    simp [List.getElem?_take, List.getElem?_drop] at j0 j1
    have cell : ∀ i v, cs2.toList[i]? = some v → W.cell? ⟨2, i, none⟩ = some v := fun i v hv' => by
      have := World.var?_cell hg2 hv2 i
      rw [this, ← Array.getElem?_toList]
      exact hv'
    intro i hi
    match i, hi with
    | 0, _ => exact cell 0 _ (by simpa [fkl2] using j0)
    | 1, _ => exact cell 1 _ (by simpa [fkl2] using j1)

theorem fkcalls (W : World) (h1 : ∀ i, i < 4 → W.cell? ⟨1, i, none⟩ = some (.int .i64 (fkl1.getD i 0))) (h0 : ∀ i, i < 3 → W.cell? ⟨0, i, none⟩ = some (.int .i64 (fkl0.getD i 0))) (h2 : ∀ i, i < 2 → W.cell? ⟨2, i, none⟩ = some (.int .i64 (fkl2.getD i 0))) :
    Calls Tryz.prog 3 #[] W fun e w' => e = .returned (.bool true) ∧ ∀ may, W.keptBut w' may := by
  have I : Go.Ai.Inv 3 (fun b => ⟨b, 0, 0⟩) fkeTop.heap W := by
    refine Go.Ai.start_inv (G := 3) (by decide) (by decide) (by decide) fun b x hx => ?_
    simp only [fkeTop, List.mem_cons, List.not_mem_nil, or_false, Prod.mk.injEq] at hx
    rcases hx with ⟨rfl, rfl⟩ | ⟨rfl, rfl⟩ | ⟨rfl, rfl⟩
    · refine .inr ⟨_, rfl, by decide, fun i v hv => ?_, Go.Ai.lt_of_cell (h0 0 (by omega))⟩
      match i, hv with
      | 0, hv => cases hv; exact h0 0 (by omega)
      | 1, hv => cases hv; exact h0 1 (by omega)
      | 2, hv => cases hv; exact h0 2 (by omega)
    · refine .inr ⟨_, rfl, by decide, fun i v hv => ?_, Go.Ai.lt_of_cell (h1 0 (by omega))⟩
      match i, hv with
      | 0, hv => cases hv; exact h1 0 (by omega)
      | 1, hv => cases hv; exact h1 1 (by omega)
      | 2, hv => cases hv; exact h1 2 (by omega)
      | 3, hv => cases hv; exact h1 3 (by omega)
    · refine .inr ⟨_, rfl, by decide, fun i v hv => ?_, Go.Ai.lt_of_cell (h2 0 (by omega))⟩
      match i, hv with
      | 0, hv => cases hv; exact h2 0 (by omega)
      | 1, hv => cases hv; exact h2 1 (by omega)
  refine (Go.Ai.calls_of_ent fkeTop_h rfl I rfl).mono fun e w' ⟨j2, he, A⟩ => ⟨?_, A.keptBut⟩
  rw [he]; rfl

theorem fklifted (os : Os) (started : os.Started) (H : Type) (enc : TypeId × Value → H) :
    ReturnsInHanded {} Tryz.checked os 3 .any (fun w args => (Rows.founderKnownSpec.pre enc Tryz.prog Tryz.f3 [] false w args ∧ laidMetH Tryz.prog fklaid w) ∧ sizedMet enc Tryz.prog Tryz.f3 (OpenSpec.ofChange Rows.founderKnownSpec) false w args)
      (Rows.founderKnownSpec.post enc Tryz.prog Tryz.f3 false true false false) := by
  refine returnsInHanded_of_change_and (C := Tryz.checked) (X := fun w _ => laidMetH Tryz.prog fklaid w) (fun _ _ _ hh h => h.of_heap hh) fkown started (by kernel_rfl) Tryz.func3
    (ChangeSpec.witness_shaped (enc := enc) (C := Tryz.checked) (os := os) (X := fun w _ => laidMetH Tryz.prog fklaid w) false (World.doorLaid Tryz.prog 400 os) #[] 8 rfl (World.shaped_of_RefB (by kernel_rfl) (by kernel_rfl)) (by kernel_rfl) (by kernel_rfl) (by kernel_rfl) (fkdoor_met os _)) ?_
  intro W base args ds gs before hval0 hW _ _ hL _
  have hW' := hW
  obtain ⟨p, q, hA0, hV, rfl, hfz, hnd⟩ := hW
  have hA : DataW.TrodAll enc Tryz.prog W 0 (fun _ => true) true Tryz.f3.params.toList args.toList ds p := hA0
  rw [Tryz.params3] at hA
  obtain ⟨hargs, rfl, rfl⟩ := trodAll_none hA
  obtain ⟨rfl, rfl⟩ := trodVars_none hV
  obtain rfl : args = #[] := by cases args; simp_all
  obtain ⟨l1, l0, l2⟩ := fkof_laid hL
  refine (fkcalls W l1 l0 l2).mono fun e W' ⟨he, hk⟩ => ?_
  subst he
  exact ⟨_, rfl, _, _, _, [], [], [], hW', trodAll_mk1 (shut_bool Tryz.underlying4 true), rfl, rfl, hk _, fun h => by cases h⟩

theorem founderKnown_holds : Rows.FounderKnownSaid :=
  OpenClaim.holds_of_wide 3 Tryz.f3 rfl rfl rfl rfl rfl rfl rfl ⟨rfl, rfl, rfl, rfl, rfl⟩ rfl rfl rfl rfl rfl (by kernel_rfl) Tryz.func3 (by kernel_rfl)
    (of_decide_eq_true (by kernel_rfl)) (by unfold Func.isWrapper; first | (rw [if_pos (by decide +kernel)]; kernel_rfl) | (rw [if_neg (by decide +kernel)]; exact ⟨rfl, rfl⟩))
    (fun os started H enc _ => fklifted os started H enc)

theorem founderKnown_card_holds : Rows.FounderKnownCardSaid :=
  Claim7.holds_tied_plain_at .later [] [.data, .data, .data] true (true, "a0eea931396144d951b5e515bfa8cd07aebcd6cda7b2aba9e21350d459f33c84") false
    founderKnown_holds (fun _ h => by cases h) (by kernel_rfl) (fun _ h => by cases h) founderKnown_row_tie rfl ⟨rfl, rfl⟩ (by kernel_rfl) rfl
    (fun f fn hf hfn => by
      obtain rfl : f = 3 := Option.some.inj ((show Tryz.prog.funcNamed "decani/decanilaw09.FounderKnown" = some 3 by kernel_rfl).symm.trans hf) |>.symm
      obtain rfl : fn = Tryz.f3 := (Option.some.inj (Tryz.func3.symm.trans hfn)).symm
      exact ⟨by kernel_rfl, fun j t ht => by
        rw [Tryz.params3] at ht
        simp at ht⟩)
    (by kernel_rfl)
#print axioms founderKnown_card_holds
end Go.Proofs.YtlnbhokokhecdaaGreatDoor
