/- What the chapter says of single books of candles holds of the program: the closed law returns true. The package-level variable candle.nothing holds what its initialiser lays (tied). -/
import Derived.Test.YtahphmhiehimiaaDoorKTop
import Derived.Test.YtahphmhiehimiaaDoorCards
import Derived.Test.YtahphmhiehimiaaDoorTie
import Derived.WalkKit
import Derived.ProofKit
import Derived.OpenShut
import Derived.LaidMore
import Derived.Lib.LaidTab
import Derived.Stop.Joined
set_option linter.all false
namespace Go.Proofs.YtahphmhiehimiaaDoor
open Go.ChangeShapes Go.WideShapes Go.ChangeAt Go.WideMaps Go.WideElems Go.RowKit
set_option maxRecDepth 100000

theorem own : ownKnob Tryd.prog.godebug = none := by kernel_rfl
theorem gNo : Tryd.prog.globalNamed "decani/candle.nothing" = some 0 := by kernel_rfl
theorem tNo : (Tryd.prog.globals[0]?).map (·.type) = some 71 := by kernel_rfl
theorem c3 : Tryd.prog.cellsOf 3 = 1 := by kernel_rfl
theorem c71 : Tryd.prog.cellsOf 71 = 2 := by kernel_rfl
def olaid : List (String × DataW Unit) := [("decani/candle.nothing", Rows.laid_decani_candle_nothing)]

theorem odoor_met (os : Os) (args : Array Value) : laidMetH Tryd.prog olaid ((World.doorLaid Tryd.prog 400 os).forCall (fun _ _ => 0) ⟨#[], args, []⟩).memory :=
  laidMetH_of_parts3 (fuel := 8) (laidMet_of_run' 8 (by kernel_rfl) (by kernel_rfl)) (by kernel_rfl) (by kernel_rfl)

theorem of_olaid {W : World} (h : laidMetH Tryd.prog olaid W) : ∀ i, i < 2 → W.cell? ⟨0, i, none⟩ = some (.int .i64 (-301)) := by
  rw [MakeChecks.laidMetH_plain _ _ _ (by kernel_rfl)] at h
  have hT := Lib.tabIs_of_head (k := .i64) (zs := [-301, -301]) gNo tNo Tryd.underlying71 Tryd.underlying3 c3 c71 h
  intro i hi
  have := hT.cell gNo i hi
  rw [this]
  match i, hi with
  | 0, _ => rfl
  | 1, _ => rfl

theorem ocalls (W : World) (hc : ∀ i, i < 2 → W.cell? ⟨0, i, none⟩ = some (.int .i64 (-301))) :
    Calls Tryd.prog 3 #[] W fun e w' => e = .returned (.bool true) ∧ ∀ may, W.keptBut w' may := by
  have I : Go.Ai.Inv 1 (fun b => ⟨b, 0, 0⟩) keTop.heap W := by
    refine Go.Ai.start_inv (G := 1) (by decide) (by decide) (by decide) fun b x hx => ?_
    simp only [keTop, List.mem_cons, List.not_mem_nil, or_false, Prod.mk.injEq] at hx
    obtain ⟨rfl, rfl⟩ := hx
    · refine .inr ⟨_, rfl, by decide, fun i v hv => ?_, Go.Ai.lt_of_cell (hc 0 (by omega))⟩
      match i, hv with
      | 0, hv => cases hv; exact hc 0 (by omega)
      | 1, hv => cases hv; exact hc 1 (by omega)
  refine (Go.Ai.calls_of_ent keTop_h rfl I rfl).mono fun e w' ⟨j2, he, A⟩ => ⟨?_, A.keptBut⟩
  rw [he]; rfl

theorem olifted (os : Os) (started : os.Started) (H : Type) (enc : TypeId × Value → H) :
    ReturnsInHanded {} Tryd.checked os 3 .any (fun w args => (Rows.candleKnownSpec.pre enc Tryd.prog Tryd.f3 [] false w args ∧ laidMetH Tryd.prog olaid w) ∧ sizedMet enc Tryd.prog Tryd.f3 (OpenSpec.ofChange Rows.candleKnownSpec) false w args)
      (Rows.candleKnownSpec.post enc Tryd.prog Tryd.f3 false true false false) := by
  refine returnsInHanded_of_change_and (C := Tryd.checked) (X := fun w _ => laidMetH Tryd.prog olaid w) (fun _ _ _ hh h => h.of_heap hh) own started (by kernel_rfl) Tryd.func3
    (ChangeSpec.witness_shaped (enc := enc) (C := Tryd.checked) (os := os) (X := fun w _ => laidMetH Tryd.prog olaid w) false (World.doorLaid Tryd.prog 400 os) #[] 8 rfl (World.shaped_of_RefB (by kernel_rfl) (by kernel_rfl)) (by kernel_rfl) (by kernel_rfl) (by kernel_rfl) (odoor_met os _)) ?_
  intro W base args ds gs before hval0 hW _ _ hL _
  have hW' := hW
  obtain ⟨p, q, hA0, hV, rfl, hfz, hnd⟩ := hW
  have hA : DataW.TrodAll enc Tryd.prog W 0 (fun _ => true) true Tryd.f3.params.toList args.toList ds p := hA0
  rw [Tryd.params3] at hA
  obtain ⟨hargs, rfl, rfl⟩ := trodAll_none hA
  obtain ⟨rfl, rfl⟩ := trodVars_none hV
  obtain rfl : args = #[] := by cases args; simp_all
  refine (ocalls W (of_olaid hL)).mono fun e W' ⟨he, hk⟩ => ?_
  subst he
  exact ⟨_, rfl, _, _, _, [], [], [], hW', trodAll_mk1 (shut_bool Tryd.underlying4 true), rfl, rfl, hk _, fun h => by cases h⟩

theorem candleKnown_holds : Rows.CandleKnownSaid :=
  OpenClaim.holds_of_wide 3 Tryd.f3 rfl rfl rfl rfl rfl rfl rfl ⟨rfl, rfl, rfl, rfl, rfl⟩ rfl rfl rfl rfl rfl (by kernel_rfl) Tryd.func3 (by kernel_rfl)
    (of_decide_eq_true (by kernel_rfl)) (by unfold Func.isWrapper; first | (rw [if_pos (by decide +kernel)]; kernel_rfl) | (rw [if_neg (by decide +kernel)]; exact ⟨rfl, rfl⟩))
    (fun os started H enc _ => olifted os started H enc)

theorem candleKnown_card_holds : Rows.CandleKnownCardSaid :=
  Claim7.holds_tied_plain_at .later [] [.data] true (true, "d5cdf74bf12bdda368122528ca442dccf9fa89fba6d9bcb9ba993cbccc440de4") false
    candleKnown_holds (fun _ h => by cases h) (by kernel_rfl) (fun _ h => by cases h) candleKnown_row_tie rfl ⟨rfl, rfl⟩ (by kernel_rfl) rfl
    (fun f fn hf hfn => by
      obtain rfl : f = 3 := Option.some.inj ((show Tryd.prog.funcNamed "decani/decanilaw06.CandleKnown" = some 3 by kernel_rfl).symm.trans hf) |>.symm
      obtain rfl : fn = Tryd.f3 := (Option.some.inj (Tryd.func3.symm.trans hfn)).symm
      exact ⟨by kernel_rfl, fun j t ht => by
        rw [Tryd.params3] at ht
        simp at ht⟩)
    (by kernel_rfl)
#print axioms candleKnown_card_holds
end Go.Proofs.YtahphmhiehimiaaDoor
