/- What the chapter says of single books of organs holds of the program: the closed law returns true. The package-level variables voice.nothing, voice.bounds, organ.nothing hold what their initialisers lay (tied). -/
import Derived.Test.YthbgjljkepfhcacGreatDoorOTop
import Derived.Test.YthbgjljkepfhcacGreatDoorAiL
import Derived.Test.YthbgjljkepfhcacGreatDoorCards
import Derived.Test.YthbgjljkepfhcacGreatDoorTie
import Derived.WalkKit
import Derived.ProofKit
import Derived.OpenShut
import Derived.LaidMore
import Derived.Lib.LaidTab
import Derived.Stop.Joined
set_option linter.all false
namespace Go.Proofs.YthbgjljkepfhcacGreatDoor
open Go.ChangeShapes Go.WideShapes Go.ChangeAt Go.WideMaps Go.WideElems Go.RowKit
set_option maxRecDepth 100000

theorem oown : ownKnob Tryz.prog.godebug = none := by kernel_rfl
theorem og1 : Tryz.prog.globalNamed "decani/voice.nothing" = some 1 := by kernel_rfl
theorem ot1 : (Tryz.prog.globals[1]?).map (·.type) = some 139 := by kernel_rfl
theorem og2 : Tryz.prog.globalNamed "decani/voice.bounds" = some 2 := by kernel_rfl
theorem ot2 : (Tryz.prog.globals[2]?).map (·.type) = some 166 := by kernel_rfl
theorem og0 : Tryz.prog.globalNamed "decani/organ.nothing" = some 0 := by kernel_rfl
theorem ot0 : (Tryz.prog.globals[0]?).map (·.type) = some 101 := by kernel_rfl
theorem oc3 : Tryz.prog.cellsOf 3 = 1 := by kernel_rfl
theorem oc101 : Tryz.prog.cellsOf 101 = 5 := by kernel_rfl
theorem oc139 : Tryz.prog.cellsOf 139 = 5 := by kernel_rfl
theorem oc165 : Tryz.prog.cellsOf 165 = 2 := by kernel_rfl
theorem oc166 : Tryz.prog.cellsOf 166 = 10 := by kernel_rfl
def olaid : List (String × DataW Unit) := [("decani/voice.nothing", Rows.laid_decani_voice_nothing), ("decani/voice.bounds", Rows.laid_decani_voice_bounds), ("decani/organ.nothing", Rows.laid_decani_organ_nothing)]

theorem odoor_met (os : Os) (args : Array Value) : laidMetH Tryz.prog olaid ((World.doorLaid Tryz.prog 400 os).forCall (fun _ _ => 0) ⟨#[], args, []⟩).memory :=
  laidMetH_of_parts3 (fuel := 8) (laidMet_of_run' 8 (by kernel_rfl) (by kernel_rfl)) (by kernel_rfl) (by kernel_rfl)

/-- An array of pairs of integers, cell for cell. -/
theorem pairs_of_trod {H : Type} {enc : TypeId × Value → H} {P : Program} {w : World} {base : Nat} {sp : Nat → Bool} {held : Bool} {fuel : Nat} {t e u : TypeId} {n : Nat} {k : IntKind} {f0 f1 : Field} {cs : List Value} {l : List (Int × Int)} {q : List MemPlace}
    (ht : P.underlying t = some (.array n e)) (he : P.underlying e = some (.struct #[f0, f1])) (hu : P.underlying u = some (.int k)) (h0 : f0.type = u) (h1 : f1.type = u) (o0 : f0.offset = 0) (o1 : f1.offset = 1) (ce : P.cellsOf e = 2) (cu : P.cellsOf u = 1)
    (h : DataW.trod enc P w base sp held fuel t cs = some (.agg (l.map fun p => .agg [.lit (.int k p.1), .lit (.int k p.2)]), q)) : ∀ (i : Nat) (p : Int × Int), l[i]? = some p → cs[2 * i]? = some (.int k p.1) ∧ cs[2 * i + 1]? = some (.int k p.2) := by
  intro i p hp
  obtain ⟨xs, m, _, hx, hl, hn, hel⟩ := DataW.trod_array ht h
  simp only [Prod.mk.injEq, DataW.agg.injEq] at hx
  have hi : i < l.length := by
    rcases Nat.lt_or_ge i l.length with h' | h'
    · exact h'
    · rw [List.getElem?_eq_none h'] at hp; cases hp
  have hxl : xs.length = l.length := by
    have := congrArg List.length hx.1
    simpa using this.symm
  obtain ⟨y, hy⟩ : ∃ y, xs[i]? = some y := ⟨xs[i], by simp [show i < xs.length by omega]⟩
  have hy1 : y.1 = .agg [.lit (.int k p.1), .lit (.int k p.2)] := by
    have := congrArg (fun z => z[i]?) hx.1
    simp only [List.getElem?_map, hp, hy, Option.map_some, Option.some.injEq] at this
    exact this.symm
  have hE := hel i (by omega)
  rw [hy, ce] at hE
  obtain ⟨y0, y1, m', hyy, _, t0, t1⟩ := trod_struct2 he hE
  rw [h0, o0, cu] at t0
  rw [h1, o1, cu] at t1
  obtain ⟨z0, c0, e0, _⟩ := DataW.trod_int hu t0
  obtain ⟨z1, c1, e1, _⟩ := DataW.trod_int hu t1
  rw [hyy, e0, e1] at hy1
  simp only [DataW.agg.injEq, List.cons.injEq, DataW.lit.injEq, Lit.int.injEq, true_and, and_true] at hy1
  obtain ⟨rfl, rfl⟩ := hy1
  refine ⟨?_, ?_⟩
  · have := congrArg (fun z => z[0]?) c0
    simp [List.getElem?_take, List.getElem?_drop] at this
    rw [Nat.mul_comm]
    exact this
  · have := congrArg (fun z => z[0]?) c1
    simp [List.getElem?_take, List.getElem?_drop] at this
    rw [Nat.mul_comm]
    exact this

def ol1 : List Int := [(-1), (-1), (-1), (-1), (-1)]
def op2 : List (Int × Int) := [(40, 2), (40, 2), (2, 1), (6, 2), (9, 3)]
def ol2 : List Int := [40, 2, 40, 2, 2, 1, 6, 2, 9, 3]
def ol0 : List Int := [(-61), (-61), (-61), (-61), (-61)]

theorem oof_laid {W : World} (h : laidMetH Tryz.prog olaid W) : (∀ i, i < 5 → W.cell? ⟨1, i, none⟩ = some (.int .i64 (ol1.getD i 0))) ∧ (∀ i, i < 10 → W.cell? ⟨2, i, none⟩ = some (.int .i64 (ol2.getD i 0))) ∧ (∀ i, i < 5 → W.cell? ⟨0, i, none⟩ = some (.int .i64 (ol0.getD i 0))) := by
  rw [MakeChecks.laidMetH_plain _ _ _ (by kernel_rfl)] at h
  obtain ⟨ps, ⟨g0, t0, cs0, f0, p0, q0, hg0, ht0, hv0, hd0, ⟨⟨g1, t1, cs1, f1, p1, q1, hg1, ht1, hv1, hd1, ⟨⟨g2, t2, cs2, f2, p2, q2, hg2, ht2, hv2, hd2, _⟩, _⟩⟩, _⟩⟩, _⟩ := h
  obtain rfl := Option.some.inj (og1.symm.trans hg0)
  obtain rfl := Option.some.inj (ot1.symm.trans ht0)
  obtain rfl := Option.some.inj (og2.symm.trans hg1)
  obtain rfl := Option.some.inj (ot2.symm.trans ht1)
  obtain rfl := Option.some.inj (og0.symm.trans hg2)
  obtain rfl := Option.some.inj (ot0.symm.trans ht2)
  refine ⟨?_, ?_, ?_⟩
  · have hc := Lib.cells_of_tab (zs := ol1) (k := .i64) Tryz.underlying139 Tryz.underlying3 oc3 oc139 hd0
    have cell : ∀ i v, cs0.toList[i]? = some v → W.cell? ⟨1, i, none⟩ = some v := fun i v hv' => by
      have := World.var?_cell hg0 hv0 i
      rw [this, ← Array.getElem?_toList]
      exact hv'
    intro i hi
    match i, hi with
    | 0, _ => exact cell 0 _ (by simp [hc, ol1])
    | 1, _ => exact cell 1 _ (by simp [hc, ol1])
    | 2, _ => exact cell 2 _ (by simp [hc, ol1])
    | 3, _ => exact cell 3 _ (by simp [hc, ol1])
    | 4, _ => exact cell 4 _ (by simp [hc, ol1])
  · have hp := pairs_of_trod (l := op2) Tryz.underlying166 Tryz.underlying165 Tryz.underlying3 rfl rfl rfl rfl oc165 oc3 hd1
    have cell : ∀ i v, cs1.toList[i]? = some v → W.cell? ⟨2, i, none⟩ = some v := fun i v hv' => by
      have := World.var?_cell hg1 hv1 i
      rw [this, ← Array.getElem?_toList]
      exact hv'
    intro i hi
    match i, hi with
    | 0, _ => exact cell 0 _ (hp 0 _ rfl).1
    | 1, _ => exact cell 1 _ (hp 0 _ rfl).2
    | 2, _ => exact cell 2 _ (hp 1 _ rfl).1
    | 3, _ => exact cell 3 _ (hp 1 _ rfl).2
    | 4, _ => exact cell 4 _ (hp 2 _ rfl).1
    | 5, _ => exact cell 5 _ (hp 2 _ rfl).2
    | 6, _ => exact cell 6 _ (hp 3 _ rfl).1
    | 7, _ => exact cell 7 _ (hp 3 _ rfl).2
    | 8, _ => exact cell 8 _ (hp 4 _ rfl).1
    | 9, _ => exact cell 9 _ (hp 4 _ rfl).2
  · have hc := Lib.cells_of_tab (zs := ol0) (k := .i64) Tryz.underlying101 Tryz.underlying3 oc3 oc101 hd2
    have cell : ∀ i v, cs2.toList[i]? = some v → W.cell? ⟨0, i, none⟩ = some v := fun i v hv' => by
      have := World.var?_cell hg2 hv2 i
      rw [this, ← Array.getElem?_toList]
      exact hv'
    intro i hi
    match i, hi with
    | 0, _ => exact cell 0 _ (by simp [hc, ol0])
    | 1, _ => exact cell 1 _ (by simp [hc, ol0])
    | 2, _ => exact cell 2 _ (by simp [hc, ol0])
    | 3, _ => exact cell 3 _ (by simp [hc, ol0])
    | 4, _ => exact cell 4 _ (by simp [hc, ol0])

theorem ocalls (W : World) (h1 : ∀ i, i < 5 → W.cell? ⟨1, i, none⟩ = some (.int .i64 (ol1.getD i 0))) (h2 : ∀ i, i < 10 → W.cell? ⟨2, i, none⟩ = some (.int .i64 (ol2.getD i 0))) (h0 : ∀ i, i < 5 → W.cell? ⟨0, i, none⟩ = some (.int .i64 (ol0.getD i 0))) :
    Calls Tryz.prog 3 #[] W fun e w' => e = .returned (.bool true) ∧ ∀ may, W.keptBut w' may := by
  have I : Go.Ai.Inv 3 (fun b => ⟨b, 0, 0⟩) oeTop.heap W := by
    refine Go.Ai.start_inv (G := 3) (by decide) (by decide) (by decide) fun b x hx => ?_
    simp only [oeTop, List.mem_cons, List.not_mem_nil, or_false, Prod.mk.injEq] at hx
    rcases hx with ⟨rfl, rfl⟩ | ⟨rfl, rfl⟩ | ⟨rfl, rfl⟩
    · refine .inr ⟨_, rfl, by decide, fun i v hv => ?_, Go.Ai.lt_of_cell (h0 0 (by omega))⟩
      match i, hv with
      | 0, hv => cases hv; exact h0 0 (by omega)
      | 1, hv => cases hv; exact h0 1 (by omega)
      | 2, hv => cases hv; exact h0 2 (by omega)
      | 3, hv => cases hv; exact h0 3 (by omega)
      | 4, hv => cases hv; exact h0 4 (by omega)
    · refine .inr ⟨_, rfl, by decide, fun i v hv => ?_, Go.Ai.lt_of_cell (h1 0 (by omega))⟩
      match i, hv with
      | 0, hv => cases hv; exact h1 0 (by omega)
      | 1, hv => cases hv; exact h1 1 (by omega)
      | 2, hv => cases hv; exact h1 2 (by omega)
      | 3, hv => cases hv; exact h1 3 (by omega)
      | 4, hv => cases hv; exact h1 4 (by omega)
    · refine .inr ⟨_, rfl, by decide, fun i v hv => ?_, Go.Ai.lt_of_cell (h2 0 (by omega))⟩
      match i, hv with
      | 0, hv => cases hv; exact h2 0 (by omega)
      | 1, hv => cases hv; exact h2 1 (by omega)
      | 2, hv => cases hv; exact h2 2 (by omega)
      | 3, hv => cases hv; exact h2 3 (by omega)
      | 4, hv => cases hv; exact h2 4 (by omega)
      | 5, hv => cases hv; exact h2 5 (by omega)
      | 6, hv => cases hv; exact h2 6 (by omega)
      | 7, hv => cases hv; exact h2 7 (by omega)
      | 8, hv => cases hv; exact h2 8 (by omega)
      | 9, hv => cases hv; exact h2 9 (by omega)
  refine (Go.Ai.calls_of_ent oeTop_h rfl I rfl).mono fun e w' ⟨j2, he, A⟩ => ⟨?_, A.keptBut⟩
  rw [he]; rfl

theorem olifted (os : Os) (started : os.Started) (H : Type) (enc : TypeId × Value → H) :
    ReturnsInHanded {} Tryz.checked os 3 .any (fun w args => (Rows.organKnownSpec.pre enc Tryz.prog Tryz.f3 [] false w args ∧ laidMetH Tryz.prog olaid w) ∧ sizedMet enc Tryz.prog Tryz.f3 (OpenSpec.ofChange Rows.organKnownSpec) false w args)
      (Rows.organKnownSpec.post enc Tryz.prog Tryz.f3 false true false false) := by
  refine returnsInHanded_of_change_and (C := Tryz.checked) (X := fun w _ => laidMetH Tryz.prog olaid w) (fun _ _ _ hh h => h.of_heap hh) oown started (by kernel_rfl) Tryz.func3
    (ChangeSpec.witness_shaped (enc := enc) (C := Tryz.checked) (os := os) (X := fun w _ => laidMetH Tryz.prog olaid w) false (World.doorLaid Tryz.prog 400 os) #[] 8 rfl (World.shaped_of_RefB (by kernel_rfl) (by kernel_rfl)) (by kernel_rfl) (by kernel_rfl) (by kernel_rfl) (odoor_met os _)) ?_
  intro W base args ds gs before hval0 hW _ _ hL _
  have hW' := hW
  obtain ⟨p, q, hA0, hV, rfl, hfz, hnd⟩ := hW
  have hA : DataW.TrodAll enc Tryz.prog W 0 (fun _ => true) true Tryz.f3.params.toList args.toList ds p := hA0
  rw [Tryz.params3] at hA
  obtain ⟨hargs, rfl, rfl⟩ := trodAll_none hA
  obtain ⟨rfl, rfl⟩ := trodVars_none hV
  obtain rfl : args = #[] := by cases args; simp_all
  obtain ⟨l1, l2, l0⟩ := oof_laid hL
  refine (ocalls W l1 l2 l0).mono fun e W' ⟨he, hk⟩ => ?_
  subst he
  exact ⟨_, rfl, _, _, _, [], [], [], hW', trodAll_mk1 (shut_bool Tryz.underlying4 true), rfl, rfl, hk _, fun h => by cases h⟩

theorem organKnown_holds : Rows.OrganKnownSaid :=
  OpenClaim.holds_of_wide 3 Tryz.f3 rfl rfl rfl rfl rfl rfl rfl ⟨rfl, rfl, rfl, rfl, rfl⟩ rfl rfl rfl rfl rfl (by kernel_rfl) Tryz.func3 (by kernel_rfl)
    (of_decide_eq_true (by kernel_rfl)) (by unfold Func.isWrapper; first | (rw [if_pos (by decide +kernel)]; kernel_rfl) | (rw [if_neg (by decide +kernel)]; exact ⟨rfl, rfl⟩))
    (fun os started H enc _ => olifted os started H enc)

theorem organKnown_card_holds : Rows.OrganKnownCardSaid :=
  Claim7.holds_tied_plain_at .later [] [.data, .data, .data] true (true, "3aac21f4d8f3a9d41097cb3dbb87145135fbcdb5cf0b4ebf772cd3e84e337d76") false
    organKnown_holds (fun _ h => by cases h) (by kernel_rfl) (fun _ h => by cases h) organKnown_row_tie rfl ⟨rfl, rfl⟩ (by kernel_rfl) rfl
    (fun f fn hf hfn => by
      obtain rfl : f = 3 := Option.some.inj ((show Tryz.prog.funcNamed "decani/decanilaw08.OrganKnown" = some 3 by kernel_rfl).symm.trans hf) |>.symm
      obtain rfl : fn = Tryz.f3 := (Option.some.inj (Tryz.func3.symm.trans hfn)).symm
      exact ⟨by kernel_rfl, fun j t ht => by
        rw [Tryz.params3] at ht
        simp at ht⟩)
    (by kernel_rfl)
#print axioms organKnown_card_holds
end Go.Proofs.YthbgjljkepfhcacGreatDoor
