/- What the chapter says of single books of rehearsals holds of the program: the closed law returns true. The package-level variables cold.nowhere, cold.nobody, strain.nobody, strain.nothing, practice.noneHeld hold what their initialisers lay (tied). -/
import Derived.Test.YtejlmnfioifniaaGreatDoorPTop
import Derived.Test.YtejlmnfioifniaaGreatDoorAiL
import Derived.Test.YtejlmnfioifniaaGreatDoorCards
import Derived.Test.YtejlmnfioifniaaGreatDoorTie
import Derived.WalkKit
import Derived.ProofKit
import Derived.OpenShut
import Derived.LaidMore
import Derived.Lib.LaidTab
import Derived.Stop.Joined
import Derived.Carry
import Derived.SizedLaws
import Derived.Deep.Slices
import Derived.Deep.Strs
set_option linter.all false
namespace Go.Proofs.YtejlmnfioifniaaGreatDoor
open Go.ChangeShapes Go.WideShapes Go.ChangeAt Go.WideMaps Go.WideElems Go.RowKit Go.Deep
set_option maxRecDepth 100000

theorem pkown : ownKnob Tryz.prog.godebug = none := by kernel_rfl
theorem pkg1 : Tryz.prog.globalNamed "decani/cold.nowhere" = some 1 := by kernel_rfl
theorem pkt1 : (Tryz.prog.globals[1]?).map (·.type) = some 135 := by kernel_rfl
theorem pkg4 : Tryz.prog.globalNamed "decani/cold.nobody" = some 4 := by kernel_rfl
theorem pkt4 : (Tryz.prog.globals[4]?).map (·.type) = some 146 := by kernel_rfl
theorem pkg3 : Tryz.prog.globalNamed "decani/strain.nobody" = some 3 := by kernel_rfl
theorem pkt3 : (Tryz.prog.globals[3]?).map (·.type) = some 95 := by kernel_rfl
theorem pkg2 : Tryz.prog.globalNamed "decani/strain.nothing" = some 2 := by kernel_rfl
theorem pkt2 : (Tryz.prog.globals[2]?).map (·.type) = some 138 := by kernel_rfl
theorem pkg0 : Tryz.prog.globalNamed "decani/practice.noneHeld" = some 0 := by kernel_rfl
theorem pkt0 : (Tryz.prog.globals[0]?).map (·.type) = some 76 := by kernel_rfl
theorem pkc3 : Tryz.prog.cellsOf 3 = 1 := by kernel_rfl
theorem pkc76 : Tryz.prog.cellsOf 76 = 3 := by kernel_rfl
theorem pkc95 : Tryz.prog.cellsOf 95 = 2 := by kernel_rfl
theorem pkc135 : Tryz.prog.cellsOf 135 = 2 := by kernel_rfl
theorem pkc138 : Tryz.prog.cellsOf 138 = 3 := by kernel_rfl
theorem pkc146 : Tryz.prog.cellsOf 146 = 5 := by kernel_rfl
def pklaid : List (String × DataW Unit) := [("decani/cold.nowhere", Rows.laid_decani_cold_nowhere), ("decani/cold.nobody", Rows.laid_decani_cold_nobody), ("decani/strain.nobody", Rows.laid_decani_strain_nobody), ("decani/strain.nothing", Rows.laid_decani_strain_nothing), ("decani/practice.noneHeld", Rows.laid_decani_practice_noneHeld)]

theorem pkdoor_met (os : Os) (args : Array Value) : laidMetH Tryz.prog pklaid ((World.doorLaid Tryz.prog 400 os).forCall (fun _ _ => 0) ⟨#[], args, []⟩).memory :=
  laidMetH_of_parts3 (fuel := 8) (laidMet_of_run' 8 (by kernel_rfl) (by kernel_rfl)) (by kernel_rfl) (by kernel_rfl)
def pkl1 : List Int := [(-1), (-1)]
def pkl4 : List Int := [6, 6, 6, 6, 6]
def pkl3 : List Int := [5, 3]
def pkl2 : List Int := [(-1), (-1), (-1)]
def pkl0 : List Int := [9, 9, 9]

theorem pkof_laid {W : World} (h : laidMetH Tryz.prog pklaid W) : (∀ i, i < 2 → W.cell? ⟨1, i, none⟩ = some (.int .i64 (pkl1.getD i 0))) ∧ (∀ i, i < 5 → W.cell? ⟨4, i, none⟩ = some (.int .i64 (pkl4.getD i 0))) ∧ (∀ i, i < 2 → W.cell? ⟨3, i, none⟩ = some (.int .i64 (pkl3.getD i 0))) ∧ (∀ i, i < 3 → W.cell? ⟨2, i, none⟩ = some (.int .i64 (pkl2.getD i 0))) ∧ (∀ i, i < 3 → W.cell? ⟨0, i, none⟩ = some (.int .i64 (pkl0.getD i 0))) := by
  rw [MakeChecks.laidMetH_plain _ _ _ (by kernel_rfl)] at h
  obtain ⟨ps, ⟨g0, t0, cs0, f0, p0, q0, hg0, ht0, hv0, hd0, ⟨⟨g1, t1, cs1, f1, p1, q1, hg1, ht1, hv1, hd1, ⟨⟨g2, t2, cs2, f2, p2, q2, hg2, ht2, hv2, hd2, ⟨⟨g3, t3, cs3, f3, p3, q3, hg3, ht3, hv3, hd3, ⟨⟨g4, t4, cs4, f4, p4, q4, hg4, ht4, hv4, hd4, _⟩, _⟩⟩, _⟩⟩, _⟩⟩, _⟩⟩, _⟩ := h
  obtain rfl := Option.some.inj (pkg1.symm.trans hg0)
  obtain rfl := Option.some.inj (pkt1.symm.trans ht0)
  obtain rfl := Option.some.inj (pkg4.symm.trans hg1)
  obtain rfl := Option.some.inj (pkt4.symm.trans ht1)
  obtain rfl := Option.some.inj (pkg3.symm.trans hg2)
  obtain rfl := Option.some.inj (pkt3.symm.trans ht2)
  obtain rfl := Option.some.inj (pkg2.symm.trans hg3)
  obtain rfl := Option.some.inj (pkt2.symm.trans ht3)
  obtain rfl := Option.some.inj (pkg0.symm.trans hg4)
  obtain rfl := Option.some.inj (pkt0.symm.trans ht4)
  refine ⟨?_, ?_, ?_, ?_, ?_⟩
  · obtain ⟨y0, y1, m', hyy, _, u0, u1⟩ := trod_struct2 Tryz.underlying135 hd0
    rw [pkc3] at u0 u1
    obtain ⟨z0, k0, e0, _⟩ := DataW.trod_int Tryz.underlying3 u0
    obtain ⟨z1, k1, e1, _⟩ := DataW.trod_int Tryz.underlying3 u1
    have hy1 := congrArg Prod.fst hyy
    rw [e0, e1] at hy1
    simp only [Rows.laid_decani_cold_nowhere, DataW.agg.injEq, List.cons.injEq, DataW.lit.injEq, Lit.int.injEq, true_and, and_true] at hy1
    obtain ⟨rfl, rfl⟩ := hy1
    have j0 := congrArg (fun z => z[0]?) k0
    have j1 := congrArg (fun z => z[0]?) k1
    simp [List.getElem?_take, List.getElem?_drop] at j0 j1
    have cell : ∀ i v, cs0.toList[i]? = some v → W.cell? ⟨1, i, none⟩ = some v := fun i v hv' => by
      have := World.var?_cell hg0 hv0 i
      rw [this, ← Array.getElem?_toList]
      exact hv'
    intro i hi
    match i, hi with
    | 0, _ => exact cell 0 _ (by simpa [pkl1] using j0)
    | 1, _ => exact cell 1 _ (by simpa [pkl1] using j1)
  · have hc := Lib.cells_of_tab (zs := pkl4) (k := .i64) Tryz.underlying146 Tryz.underlying3 pkc3 pkc146 hd1
    have cell : ∀ i v, cs1.toList[i]? = some v → W.cell? ⟨4, i, none⟩ = some v := fun i v hv' => by
      have := World.var?_cell hg1 hv1 i
      rw [this, ← Array.getElem?_toList]
      exact hv'
    intro i hi
    match i, hi with
    | 0, _ => exact cell 0 _ (by simp [hc, pkl4])
    | 1, _ => exact cell 1 _ (by simp [hc, pkl4])
    | 2, _ => exact cell 2 _ (by simp [hc, pkl4])
    | 3, _ => exact cell 3 _ (by simp [hc, pkl4])
    | 4, _ => exact cell 4 _ (by simp [hc, pkl4])
  · obtain ⟨y0, y1, m', hyy, _, u0, u1⟩ := trod_struct2 Tryz.underlying95 hd2
    rw [pkc3] at u0 u1
    obtain ⟨z0, k0, e0, _⟩ := DataW.trod_int Tryz.underlying3 u0
    obtain ⟨z1, k1, e1, _⟩ := DataW.trod_int Tryz.underlying3 u1
    have hy1 := congrArg Prod.fst hyy
    rw [e0, e1] at hy1
    simp only [Rows.laid_decani_strain_nobody, DataW.agg.injEq, List.cons.injEq, DataW.lit.injEq, Lit.int.injEq, true_and, and_true] at hy1
    obtain ⟨rfl, rfl⟩ := hy1
    have j0 := congrArg (fun z => z[0]?) k0
    have j1 := congrArg (fun z => z[0]?) k1
    simp [List.getElem?_take, List.getElem?_drop] at j0 j1
    have cell : ∀ i v, cs2.toList[i]? = some v → W.cell? ⟨3, i, none⟩ = some v := fun i v hv' => by
      have := World.var?_cell hg2 hv2 i
      rw [this, ← Array.getElem?_toList]
      exact hv'
    intro i hi
    match i, hi with
    | 0, _ => exact cell 0 _ (by simpa [pkl3] using j0)
    | 1, _ => exact cell 1 _ (by simpa [pkl3] using j1)
  · have hc := Lib.cells_of_tab (zs := pkl2) (k := .i64) Tryz.underlying138 Tryz.underlying3 pkc3 pkc138 hd3
    have cell : ∀ i v, cs3.toList[i]? = some v → W.cell? ⟨2, i, none⟩ = some v := fun i v hv' => by
      have := World.var?_cell hg3 hv3 i
      rw [this, ← Array.getElem?_toList]
      exact hv'
    intro i hi
    match i, hi with
    | 0, _ => exact cell 0 _ (by simp [hc, pkl2])
    | 1, _ => exact cell 1 _ (by simp [hc, pkl2])
    | 2, _ => exact cell 2 _ (by simp [hc, pkl2])
  · have hc := Lib.cells_of_tab (zs := pkl0) (k := .i64) Tryz.underlying76 Tryz.underlying3 pkc3 pkc76 hd4
    have cell : ∀ i v, cs4.toList[i]? = some v → W.cell? ⟨0, i, none⟩ = some v := fun i v hv' => by
      have := World.var?_cell hg4 hv4 i
      rw [this, ← Array.getElem?_toList]
      exact hv'
    intro i hi
    match i, hi with
    | 0, _ => exact cell 0 _ (by simp [hc, pkl0])
    | 1, _ => exact cell 1 _ (by simp [hc, pkl0])
    | 2, _ => exact cell 2 _ (by simp [hc, pkl0])

theorem pkcalls (W : World) (h1 : ∀ i, i < 2 → W.cell? ⟨1, i, none⟩ = some (.int .i64 (pkl1.getD i 0))) (h4 : ∀ i, i < 5 → W.cell? ⟨4, i, none⟩ = some (.int .i64 (pkl4.getD i 0))) (h3 : ∀ i, i < 2 → W.cell? ⟨3, i, none⟩ = some (.int .i64 (pkl3.getD i 0))) (h2 : ∀ i, i < 3 → W.cell? ⟨2, i, none⟩ = some (.int .i64 (pkl2.getD i 0))) (h0 : ∀ i, i < 3 → W.cell? ⟨0, i, none⟩ = some (.int .i64 (pkl0.getD i 0))) :
    Calls Tryz.prog 3 #[] W fun e w' => e = .returned (.bool true) ∧ ∀ may, W.keptBut w' may := by
  have I : Go.Ai.Inv 5 (fun b => ⟨b, 0, 0⟩) pkeTop.heap W := by
    refine Go.Ai.start_inv (G := 5) (by decide) (by decide) (by decide) fun b x hx => ?_
    simp only [pkeTop, List.mem_cons, List.not_mem_nil, or_false, Prod.mk.injEq] at hx
    rcases hx with ⟨rfl, rfl⟩ | ⟨rfl, rfl⟩ | ⟨rfl, rfl⟩ | ⟨rfl, rfl⟩ | ⟨rfl, rfl⟩
    · refine .inr ⟨_, rfl, by decide, fun i v hv => ?_, Go.Ai.lt_of_cell (h0 0 (by omega))⟩
      match i, hv with
      | 0, hv => cases hv; exact h0 0 (by omega)
      | 1, hv => cases hv; exact h0 1 (by omega)
      | 2, hv => cases hv; exact h0 2 (by omega)
    · refine .inr ⟨_, rfl, by decide, fun i v hv => ?_, Go.Ai.lt_of_cell (h1 0 (by omega))⟩
      match i, hv with
      | 0, hv => cases hv; exact h1 0 (by omega)
      | 1, hv => cases hv; exact h1 1 (by omega)
    · refine .inr ⟨_, rfl, by decide, fun i v hv => ?_, Go.Ai.lt_of_cell (h2 0 (by omega))⟩
      match i, hv with
      | 0, hv => cases hv; exact h2 0 (by omega)
      | 1, hv => cases hv; exact h2 1 (by omega)
      | 2, hv => cases hv; exact h2 2 (by omega)
    · refine .inr ⟨_, rfl, by decide, fun i v hv => ?_, Go.Ai.lt_of_cell (h3 0 (by omega))⟩
      match i, hv with
      | 0, hv => cases hv; exact h3 0 (by omega)
      | 1, hv => cases hv; exact h3 1 (by omega)
    · refine .inr ⟨_, rfl, by decide, fun i v hv => ?_, Go.Ai.lt_of_cell (h4 0 (by omega))⟩
      match i, hv with
      | 0, hv => cases hv; exact h4 0 (by omega)
      | 1, hv => cases hv; exact h4 1 (by omega)
      | 2, hv => cases hv; exact h4 2 (by omega)
      | 3, hv => cases hv; exact h4 3 (by omega)
      | 4, hv => cases hv; exact h4 4 (by omega)
  refine (Go.Ai.calls_of_ent pkeTop_h rfl I rfl).mono fun e w' ⟨j2, he, A⟩ => ⟨?_, A.keptBut⟩
  rw [he]; rfl

theorem pklifted (os : Os) (started : os.Started) (H : Type) (enc : TypeId × Value → H) :
    ReturnsInHanded {} Tryz.checked os 3 .any (fun w args => (Rows.practiceKnownSpec.pre enc Tryz.prog Tryz.f3 [] false w args ∧ laidMetH Tryz.prog pklaid w) ∧ sizedMet enc Tryz.prog Tryz.f3 (OpenSpec.ofChange Rows.practiceKnownSpec) false w args)
      (Rows.practiceKnownSpec.post enc Tryz.prog Tryz.f3 false true false false) := by
  refine returnsInHanded_of_change_and (C := Tryz.checked) (X := fun w _ => laidMetH Tryz.prog pklaid w) (fun _ _ _ hh h => h.of_heap hh) pkown started (by kernel_rfl) Tryz.func3
    (ChangeSpec.witness_shaped (enc := enc) (C := Tryz.checked) (os := os) (X := fun w _ => laidMetH Tryz.prog pklaid w) false (World.doorLaid Tryz.prog 400 os) #[] 8 rfl (World.shaped_of_RefB (by kernel_rfl) (by kernel_rfl)) (by kernel_rfl) (by kernel_rfl) (by kernel_rfl) (pkdoor_met os _)) ?_
  intro W base args ds gs before hval0 hW _ _ hL _
  have hW' := hW
  obtain ⟨p, q, hA0, hV, rfl, hfz, hnd⟩ := hW
  have hA : DataW.TrodAll enc Tryz.prog W 0 (fun _ => true) true Tryz.f3.params.toList args.toList ds p := hA0
  rw [Tryz.params3] at hA
  obtain ⟨hargs, rfl, rfl⟩ := trodAll_none hA
  obtain ⟨rfl, rfl⟩ := trodVars_none hV
  obtain rfl : args = #[] := by cases args; simp_all
  obtain ⟨l1, l4, l3, l2, l0⟩ := pkof_laid hL
  refine (pkcalls W l1 l4 l3 l2 l0).mono fun e W' ⟨he, hk⟩ => ?_
  subst he
  exact ⟨_, rfl, _, _, _, [], [], [], hW', trodAll_mk1 (shut_bool Tryz.underlying4 true), rfl, rfl, hk _, fun h => by cases h⟩

theorem practiceKnown_holds : Rows.PracticeKnownSaid :=
  OpenClaim.holds_of_wide 3 Tryz.f3 rfl rfl rfl rfl rfl rfl rfl ⟨rfl, rfl, rfl, rfl, rfl⟩ rfl rfl rfl rfl rfl (by kernel_rfl) Tryz.func3 (by kernel_rfl)
    (of_decide_eq_true (by kernel_rfl)) (by unfold Func.isWrapper; first | (rw [if_pos (by decide +kernel)]; kernel_rfl) | (rw [if_neg (by decide +kernel)]; exact ⟨rfl, rfl⟩))
    (fun os started H enc _ => pklifted os started H enc)

theorem practiceKnown_card_holds : Rows.PracticeKnownCardSaid :=
  Claim7.holds_tied_plain_at .later [] [.data, .data, .data, .data, .wider] true (true, "772b37a32835485237dea2b9832fe5d4d26aedd2da04ffc45f234dc08b88c531") false
    practiceKnown_holds (fun _ h => by cases h) (by kernel_rfl) (fun _ h => by cases h) practiceKnown_row_tie rfl ⟨rfl, rfl⟩ (by kernel_rfl) rfl
    (fun f fn hf hfn => by
      obtain rfl : f = 3 := Option.some.inj ((show Tryz.prog.funcNamed "decani/decanilaw10.PracticeKnown" = some 3 by kernel_rfl).symm.trans hf) |>.symm
      obtain rfl : fn = Tryz.f3 := (Option.some.inj (Tryz.func3.symm.trans hfn)).symm
      exact ⟨by kernel_rfl, fun j t ht => by
        rw [Tryz.params3] at ht
        simp at ht⟩)
    (by kernel_rfl)
#print axioms practiceKnown_card_holds
end Go.Proofs.YtejlmnfioifniaaGreatDoor
