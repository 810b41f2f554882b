/- What the chapter says of single books of benches holds of the program: the closed law returns true. The package-level variables voice.nothing, voice.bounds, bench.rest hold what their initialisers lay (tied). -/
import Derived.Test.YthbgjljkepfhcabGreatDoorBTop
import Derived.Test.YthbgjljkepfhcabGreatDoorAiL
import Derived.Test.YthbgjljkepfhcabGreatDoorCards
import Derived.Test.YthbgjljkepfhcabGreatDoorTie
import Derived.WalkKit
import Derived.ProofKit
import Derived.OpenShut
import Derived.LaidMore
import Derived.Lib.LaidTab
import Derived.Stop.Joined
set_option linter.all false
namespace Go.Proofs.YthbgjljkepfhcabGreatDoor
open Go.ChangeShapes Go.WideShapes Go.ChangeAt Go.WideMaps Go.WideElems Go.RowKit
set_option maxRecDepth 100000

theorem bown : ownKnob Tryz.prog.godebug = none := by kernel_rfl
theorem bg0 : Tryz.prog.globalNamed "decani/voice.nothing" = some 0 := by kernel_rfl
theorem bt0 : (Tryz.prog.globals[0]?).map (·.type) = some 131 := by kernel_rfl
theorem bg2 : Tryz.prog.globalNamed "decani/voice.bounds" = some 2 := by kernel_rfl
theorem bt2 : (Tryz.prog.globals[2]?).map (·.type) = some 175 := by kernel_rfl
theorem bg1 : Tryz.prog.globalNamed "decani/bench.rest" = some 1 := by kernel_rfl
theorem bt1 : (Tryz.prog.globals[1]?).map (·.type) = some 142 := by kernel_rfl
theorem bc3 : Tryz.prog.cellsOf 3 = 1 := by kernel_rfl
theorem bc131 : Tryz.prog.cellsOf 131 = 5 := by kernel_rfl
theorem bc142 : Tryz.prog.cellsOf 142 = 4 := by kernel_rfl
theorem bc174 : Tryz.prog.cellsOf 174 = 2 := by kernel_rfl
theorem bc175 : Tryz.prog.cellsOf 175 = 10 := by kernel_rfl
def blaid : List (String × DataW Unit) := [("decani/voice.nothing", Rows.laid_decani_voice_nothing), ("decani/voice.bounds", Rows.laid_decani_voice_bounds), ("decani/bench.rest", Rows.laid_decani_bench_rest)]

theorem bdoor_met (os : Os) (args : Array Value) : laidMetH Tryz.prog blaid ((World.doorLaid Tryz.prog 400 os).forCall (fun _ _ => 0) ⟨#[], args, []⟩).memory :=
  laidMetH_of_parts3 (fuel := 8) (laidMet_of_run' 8 (by kernel_rfl) (by kernel_rfl)) (by kernel_rfl) (by kernel_rfl)

/-- An array of pairs of integers, cell for cell. -/
theorem pairs_of_trod {H : Type} {enc : TypeId × Value → H} {P : Program} {w : World} {base : Nat} {sp : Nat → Bool} {held : Bool} {fuel : Nat} {t e u : TypeId} {n : Nat} {k : IntKind} {f0 f1 : Field} {cs : List Value} {l : List (Int × Int)} {q : List MemPlace}
    (ht : P.underlying t = some (.array n e)) (he : P.underlying e = some (.struct #[f0, f1])) (hu : P.underlying u = some (.int k)) (h0 : f0.type = u) (h1 : f1.type = u) (o0 : f0.offset = 0) (o1 : f1.offset = 1) (ce : P.cellsOf e = 2) (cu : P.cellsOf u = 1)
    (h : DataW.trod enc P w base sp held fuel t cs = some (.agg (l.map fun p => .agg [.lit (.int k p.1), .lit (.int k p.2)]), q)) : ∀ (i : Nat) (p : Int × Int), l[i]? = some p → cs[2 * i]? = some (.int k p.1) ∧ cs[2 * i + 1]? = some (.int k p.2) := by
  intro i p hp
  obtain ⟨xs, m, _, hx, hl, hn, hel⟩ := DataW.trod_array ht h
  simp only [Prod.mk.injEq, DataW.agg.injEq] at hx
  have hi : i < l.length := by
    rcases Nat.lt_or_ge i l.length with h' | h'
    · exact h'
    · rw [List.getElem?_eq_none h'] at hp; cases hp
  have hxl : xs.length = l.length := by
    have := congrArg List.length hx.1
    simpa using this.symm
  obtain ⟨y, hy⟩ : ∃ y, xs[i]? = some y := ⟨xs[i], by simp [show i < xs.length by omega]⟩
  have hy1 : y.1 = .agg [.lit (.int k p.1), .lit (.int k p.2)] := by
    have := congrArg (fun z => z[i]?) hx.1
    simp only [List.getElem?_map, hp, hy, Option.map_some, Option.some.injEq] at this
    exact this.symm
  have hE := hel i (by omega)
  rw [hy, ce] at hE
  obtain ⟨y0, y1, m', hyy, _, t0, t1⟩ := trod_struct2 he hE
  rw [h0, o0, cu] at t0
  rw [h1, o1, cu] at t1
  obtain ⟨z0, c0, e0, _⟩ := DataW.trod_int hu t0
  obtain ⟨z1, c1, e1, _⟩ := DataW.trod_int hu t1
  rw [hyy, e0, e1] at hy1
  simp only [DataW.agg.injEq, List.cons.injEq, DataW.lit.injEq, Lit.int.injEq, true_and, and_true] at hy1
  obtain ⟨rfl, rfl⟩ := hy1
  refine ⟨?_, ?_⟩
  · have := congrArg (fun z => z[0]?) c0
    simp [List.getElem?_take, List.getElem?_drop] at this
    rw [Nat.mul_comm]
    exact this
  · have := congrArg (fun z => z[0]?) c1
    simp [List.getElem?_take, List.getElem?_drop] at this
    rw [Nat.mul_comm]
    exact this

def bl0 : List Int := [(-1), (-1), (-1), (-1), (-1)]
def bp2 : List (Int × Int) := [(40, 2), (40, 2), (2, 1), (6, 2), (9, 3)]
def bl2 : List Int := [40, 2, 40, 2, 2, 1, 6, 2, 9, 3]
def bl1 : List Int := [0, 0, 0, 0]

theorem bof_laid {W : World} (h : laidMetH Tryz.prog blaid W) : (∀ i, i < 5 → W.cell? ⟨0, i, none⟩ = some (.int .i64 (bl0.getD i 0))) ∧ (∀ i, i < 10 → W.cell? ⟨2, i, none⟩ = some (.int .i64 (bl2.getD i 0))) ∧ (∀ i, i < 4 → W.cell? ⟨1, i, none⟩ = some (.int .i64 (bl1.getD i 0))) := by
  rw [MakeChecks.laidMetH_plain _ _ _ (by kernel_rfl)] at h
  obtain ⟨ps, ⟨g0, t0, cs0, f0, p0, q0, hg0, ht0, hv0, hd0, ⟨⟨g1, t1, cs1, f1, p1, q1, hg1, ht1, hv1, hd1, ⟨⟨g2, t2, cs2, f2, p2, q2, hg2, ht2, hv2, hd2, _⟩, _⟩⟩, _⟩⟩, _⟩ := h
  obtain rfl := Option.some.inj (bg0.symm.trans hg0)
  obtain rfl := Option.some.inj (bt0.symm.trans ht0)
  obtain rfl := Option.some.inj (bg2.symm.trans hg1)
  obtain rfl := Option.some.inj (bt2.symm.trans ht1)
  obtain rfl := Option.some.inj (bg1.symm.trans hg2)
  obtain rfl := Option.some.inj (bt1.symm.trans ht2)
  refine ⟨?_, ?_, ?_⟩
  · have hc := Lib.cells_of_tab (zs := bl0) (k := .i64) Tryz.underlying131 Tryz.underlying3 bc3 bc131 hd0
    have cell : ∀ i v, cs0.toList[i]? = some v → W.cell? ⟨0, i, none⟩ = some v := fun i v hv' => by
      have := World.var?_cell hg0 hv0 i
      rw [this, ← Array.getElem?_toList]
      exact hv'
    intro i hi
    match i, hi with
    | 0, _ => exact cell 0 _ (by simp [hc, bl0])
    | 1, _ => exact cell 1 _ (by simp [hc, bl0])
    | 2, _ => exact cell 2 _ (by simp [hc, bl0])
    | 3, _ => exact cell 3 _ (by simp [hc, bl0])
    | 4, _ => exact cell 4 _ (by simp [hc, bl0])
  · have hp := pairs_of_trod (l := bp2) Tryz.underlying175 Tryz.underlying174 Tryz.underlying3 rfl rfl rfl rfl bc174 bc3 hd1
    have cell : ∀ i v, cs1.toList[i]? = some v → W.cell? ⟨2, i, none⟩ = some v := fun i v hv' => by
      have := World.var?_cell hg1 hv1 i
      rw [this, ← Array.getElem?_toList]
      exact hv'
    intro i hi
    match i, hi with
    | 0, _ => exact cell 0 _ (hp 0 _ rfl).1
    | 1, _ => exact cell 1 _ (hp 0 _ rfl).2
    | 2, _ => exact cell 2 _ (hp 1 _ rfl).1
    | 3, _ => exact cell 3 _ (hp 1 _ rfl).2
    | 4, _ => exact cell 4 _ (hp 2 _ rfl).1
    | 5, _ => exact cell 5 _ (hp 2 _ rfl).2
    | 6, _ => exact cell 6 _ (hp 3 _ rfl).1
    | 7, _ => exact cell 7 _ (hp 3 _ rfl).2
    | 8, _ => exact cell 8 _ (hp 4 _ rfl).1
    | 9, _ => exact cell 9 _ (hp 4 _ rfl).2
  · have hc := Lib.cells_of_tab (zs := bl1) (k := .i64) Tryz.underlying142 Tryz.underlying3 bc3 bc142 hd2
    have cell : ∀ i v, cs2.toList[i]? = some v → W.cell? ⟨1, i, none⟩ = some v := fun i v hv' => by
      have := World.var?_cell hg2 hv2 i
      rw [this, ← Array.getElem?_toList]
      exact hv'
    intro i hi
    match i, hi with
    | 0, _ => exact cell 0 _ (by simp [hc, bl1])
    | 1, _ => exact cell 1 _ (by simp [hc, bl1])
    | 2, _ => exact cell 2 _ (by simp [hc, bl1])
    | 3, _ => exact cell 3 _ (by simp [hc, bl1])

theorem bcalls (W : World) (h0 : ∀ i, i < 5 → W.cell? ⟨0, i, none⟩ = some (.int .i64 (bl0.getD i 0))) (h2 : ∀ i, i < 10 → W.cell? ⟨2, i, none⟩ = some (.int .i64 (bl2.getD i 0))) (h1 : ∀ i, i < 4 → W.cell? ⟨1, i, none⟩ = some (.int .i64 (bl1.getD i 0))) :
    Calls Tryz.prog 3 #[] W fun e w' => e = .returned (.bool true) ∧ ∀ may, W.keptBut w' may := by
  have I : Go.Ai.Inv 3 (fun b => ⟨b, 0, 0⟩) beTop.heap W := by
    refine Go.Ai.start_inv (G := 3) (by decide) (by decide) (by decide) fun b x hx => ?_
    simp only [beTop, List.mem_cons, List.not_mem_nil, or_false, Prod.mk.injEq] at hx
    rcases hx with ⟨rfl, rfl⟩ | ⟨rfl, rfl⟩ | ⟨rfl, rfl⟩
    · refine .inr ⟨_, rfl, by decide, fun i v hv => ?_, Go.Ai.lt_of_cell (h0 0 (by omega))⟩
      match i, hv with
      | 0, hv => cases hv; exact h0 0 (by omega)
      | 1, hv => cases hv; exact h0 1 (by omega)
      | 2, hv => cases hv; exact h0 2 (by omega)
      | 3, hv => cases hv; exact h0 3 (by omega)
      | 4, hv => cases hv; exact h0 4 (by omega)
    · refine .inr ⟨_, rfl, by decide, fun i v hv => ?_, Go.Ai.lt_of_cell (h1 0 (by omega))⟩
      match i, hv with
      | 0, hv => cases hv; exact h1 0 (by omega)
      | 1, hv => cases hv; exact h1 1 (by omega)
      | 2, hv => cases hv; exact h1 2 (by omega)
      | 3, hv => cases hv; exact h1 3 (by omega)
    · refine .inr ⟨_, rfl, by decide, fun i v hv => ?_, Go.Ai.lt_of_cell (h2 0 (by omega))⟩
      match i, hv with
      | 0, hv => cases hv; exact h2 0 (by omega)
      | 1, hv => cases hv; exact h2 1 (by omega)
      | 2, hv => cases hv; exact h2 2 (by omega)
      | 3, hv => cases hv; exact h2 3 (by omega)
      | 4, hv => cases hv; exact h2 4 (by omega)
      | 5, hv => cases hv; exact h2 5 (by omega)
      | 6, hv => cases hv; exact h2 6 (by omega)
      | 7, hv => cases hv; exact h2 7 (by omega)
      | 8, hv => cases hv; exact h2 8 (by omega)
      | 9, hv => cases hv; exact h2 9 (by omega)
  refine (Go.Ai.calls_of_ent beTop_h rfl I rfl).mono fun e w' ⟨j2, he, A⟩ => ⟨?_, A.keptBut⟩
  rw [he]; rfl

theorem blifted (os : Os) (started : os.Started) (H : Type) (enc : TypeId × Value → H) :
    ReturnsInHanded {} Tryz.checked os 3 .any (fun w args => (Rows.benchKnownSpec.pre enc Tryz.prog Tryz.f3 [] false w args ∧ laidMetH Tryz.prog blaid w) ∧ sizedMet enc Tryz.prog Tryz.f3 (OpenSpec.ofChange Rows.benchKnownSpec) false w args)
      (Rows.benchKnownSpec.post enc Tryz.prog Tryz.f3 false true false false) := by
  refine returnsInHanded_of_change_and (C := Tryz.checked) (X := fun w _ => laidMetH Tryz.prog blaid w) (fun _ _ _ hh h => h.of_heap hh) bown started (by kernel_rfl) Tryz.func3
    (ChangeSpec.witness_shaped (enc := enc) (C := Tryz.checked) (os := os) (X := fun w _ => laidMetH Tryz.prog blaid w) false (World.doorLaid Tryz.prog 400 os) #[] 8 rfl (World.shaped_of_RefB (by kernel_rfl) (by kernel_rfl)) (by kernel_rfl) (by kernel_rfl) (by kernel_rfl) (bdoor_met os _)) ?_
  intro W base args ds gs before hval0 hW _ _ hL _
  have hW' := hW
  obtain ⟨p, q, hA0, hV, rfl, hfz, hnd⟩ := hW
  have hA : DataW.TrodAll enc Tryz.prog W 0 (fun _ => true) true Tryz.f3.params.toList args.toList ds p := hA0
  rw [Tryz.params3] at hA
  obtain ⟨hargs, rfl, rfl⟩ := trodAll_none hA
  obtain ⟨rfl, rfl⟩ := trodVars_none hV
  obtain rfl : args = #[] := by cases args; simp_all
  obtain ⟨l0, l2, l1⟩ := bof_laid hL
  refine (bcalls W l0 l2 l1).mono fun e W' ⟨he, hk⟩ => ?_
  subst he
  exact ⟨_, rfl, _, _, _, [], [], [], hW', trodAll_mk1 (shut_bool Tryz.underlying4 true), rfl, rfl, hk _, fun h => by cases h⟩

theorem benchKnown_holds : Rows.BenchKnownSaid :=
  OpenClaim.holds_of_wide 3 Tryz.f3 rfl rfl rfl rfl rfl rfl rfl ⟨rfl, rfl, rfl, rfl, rfl⟩ rfl rfl rfl rfl rfl (by kernel_rfl) Tryz.func3 (by kernel_rfl)
    (of_decide_eq_true (by kernel_rfl)) (by unfold Func.isWrapper; first | (rw [if_pos (by decide +kernel)]; kernel_rfl) | (rw [if_neg (by decide +kernel)]; exact ⟨rfl, rfl⟩))
    (fun os started H enc _ => blifted os started H enc)

theorem benchKnown_card_holds : Rows.BenchKnownCardSaid :=
  Claim7.holds_tied_plain_at .later [] [.data, .data, .data] true (true, "f6a3454176811bc290ef5df76fd77566e5873a80b8a4f41e6c860045e4a4d1f7") false
    benchKnown_holds (fun _ h => by cases h) (by kernel_rfl) (fun _ h => by cases h) benchKnown_row_tie rfl ⟨rfl, rfl⟩ (by kernel_rfl) rfl
    (fun f fn hf hfn => by
      obtain rfl : f = 3 := Option.some.inj ((show Tryz.prog.funcNamed "decani/decanilaw07.BenchKnown" = some 3 by kernel_rfl).symm.trans hf) |>.symm
      obtain rfl : fn = Tryz.f3 := (Option.some.inj (Tryz.func3.symm.trans hfn)).symm
      exact ⟨by kernel_rfl, fun j t ht => by
        rw [Tryz.params3] at ht
        simp at ht⟩)
    (by kernel_rfl)
#print axioms benchKnown_card_holds
end Go.Proofs.YthbgjljkepfhcabGreatDoor
