/- Feasts that yield go from day to day as a cold goes from bed to bed, whatever numbers choose them: the law returns true for every array of four integers. The package-level variables cold.nowhere, cold.nobody, office.noSeason, part.silence hold what their initialisers lay (tied). -/
import Derived.Test.YtmjpnohpmfmdlaaGreatDoorPiL
import Derived.Test.YtmjpnohpmfmdlaaGreatDoorCards
import Derived.Test.YtmjpnohpmfmdlaaGreatDoorTie
import Derived.WalkKit
import Derived.ProofKit
import Derived.OpenShut
import Derived.LaidMore
import Derived.Lib.LaidTab
import Derived.Stop.Joined
import Derived.Carry
import Derived.SizedLaws
import Derived.Deep.Slices
import Derived.Deep.Strs
set_option linter.all false
namespace Go.Proofs.YtmjpnohpmfmdlaaGreatDoor
open Go.ChangeShapes Go.WideShapes Go.ChangeAt Go.WideMaps Go.WideElems Go.RowKit Go.Deep
set_option maxRecDepth 100000
theorem piown : ownKnob Tryz.prog.godebug = none := by kernel_rfl
theorem pilaidOut : laidOutB Tryz.prog = true := by kernel_rfl
theorem pig1 : Tryz.prog.globalNamed "decani/cold.nowhere" = some 1 := by kernel_rfl
theorem pit1 : (Tryz.prog.globals[1]?).map (·.type) = some 110 := by kernel_rfl
theorem pig3 : Tryz.prog.globalNamed "decani/cold.nobody" = some 3 := by kernel_rfl
theorem pit3 : (Tryz.prog.globals[3]?).map (·.type) = some 113 := by kernel_rfl
theorem pig0 : Tryz.prog.globalNamed "decani/office.noSeason" = some 0 := by kernel_rfl
theorem pit0 : (Tryz.prog.globals[0]?).map (·.type) = some 132 := by kernel_rfl
theorem pig4 : Tryz.prog.globalNamed "decani/part.silence" = some 4 := by kernel_rfl
theorem pit4 : (Tryz.prog.globals[4]?).map (·.type) = some 215 := by kernel_rfl
theorem pic3' : Tryz.prog.cellsOf 3 = 1 := by kernel_rfl
theorem pic22' : Tryz.prog.cellsOf 22 = 4 := by kernel_rfl
theorem pic110' : Tryz.prog.cellsOf 110 = 2 := by kernel_rfl
theorem pic113' : Tryz.prog.cellsOf 113 = 5 := by kernel_rfl
theorem pic132' : Tryz.prog.cellsOf 132 = 4 := by kernel_rfl
theorem pic215' : Tryz.prog.cellsOf 215 = 3 := by kernel_rfl
def pilaid : List (String × DataW Unit) := [("decani/cold.nowhere", Rows.laid_decani_cold_nowhere), ("decani/cold.nobody", Rows.laid_decani_cold_nobody), ("decani/office.noSeason", Rows.laid_decani_office_noSeason), ("decani/part.silence", Rows.laid_decani_part_silence)]
theorem pidoor_met (os : Os) (args : Array Value) : laidMetH Tryz.prog pilaid ((World.doorLaid Tryz.prog 400 os).forCall (fun _ _ => 0) ⟨#[], args, []⟩).memory :=
  laidMetH_of_parts3 (fuel := 8) (laidMet_of_run' 8 (by kernel_rfl) (by kernel_rfl)) (by kernel_rfl) (by kernel_rfl)
theorem pilen {α : Type} {l : List α} (h : l.length = 4) : ∃ a0 a1 a2 a3, l = [a0, a1, a2, a3] := by
  match l, h with
  | [a0, a1, a2, a3], _ => exact ⟨a0, a1, a2, a3, rfl⟩
section
variable {H : Type} {enc : TypeId × Value → H} {w : World} {base : Nat} {sp : Nat → Bool} {held : Bool} {fuel : Nat} {x : DataW H × List MemPlace}
theorem pione {c : Value} (h : DataW.trod enc Tryz.prog w base sp held fuel 3 [c] = some x) : ∃ n, c = .int .i64 n := by
  obtain ⟨z, e, _⟩ := DataW.trod_int Tryz.underlying3 h
  simp at e
  exact ⟨z, e⟩
end
theorem piarr {P : Program} {w : World} {r : Reach} {base n : Nat} {t e : TypeId} {v : Value} (ht : P.underlying t = some (.array n e)) (h : Value.okWide P w r base t v) : ∃ cs, v = .agg cs ∧ cs.size = P.cellsOf t := by
  simp only [Value.okWide, ht] at h
  obtain ⟨cs, h1, h2, _⟩ := h
  exact ⟨cs, h1, h2⟩
theorem pibut {W W' : World} (hb : Below W.heap.size W W') (may : MemPlace → Prop) : W.keptBut W' may := by
  refine ⟨hb.os, hb.output, fun i hi => ?_⟩
  rw [hb.block i hi]
  cases W.heap[i]? with
  | none => rfl
  | some o => cases o <;> first | exact ⟨rfl, rfl, rfl, fun _ _ => rfl⟩ | exact .inr ⟨rfl, rfl⟩ | rfl
theorem piof_laid {W : World} (h : laidMetH Tryz.prog pilaid W) : (∀ i, i < 2 → W.cell? ⟨1, i, none⟩ = some (.int .i64 (pil1.getD i 0))) ∧ (∀ i, i < 5 → W.cell? ⟨3, i, none⟩ = some (.int .i64 (pil3.getD i 0))) ∧ (∀ i, i < 4 → W.cell? ⟨0, i, none⟩ = some (.int .i64 (pil0.getD i 0))) ∧ (∀ i, i < 3 → W.cell? ⟨4, i, none⟩ = some (.int .i64 (pil4.getD i 0))) := by
  rw [MakeChecks.laidMetH_plain _ _ _ (by kernel_rfl)] at h
  obtain ⟨ps, ⟨g0, t0, cs0, f0, p0, q0, hg0, ht0, hv0, hd0, ⟨⟨g1, t1, cs1, f1, p1, q1, hg1, ht1, hv1, hd1, ⟨⟨g2, t2, cs2, f2, p2, q2, hg2, ht2, hv2, hd2, ⟨⟨g3, t3, cs3, f3, p3, q3, hg3, ht3, hv3, hd3, _⟩, _⟩⟩, _⟩⟩, _⟩⟩, _⟩ := h
  obtain rfl := Option.some.inj (pig1.symm.trans hg0)
  obtain rfl := Option.some.inj (pit1.symm.trans ht0)
  obtain rfl := Option.some.inj (pig3.symm.trans hg1)
  obtain rfl := Option.some.inj (pit3.symm.trans ht1)
  obtain rfl := Option.some.inj (pig0.symm.trans hg2)
  obtain rfl := Option.some.inj (pit0.symm.trans ht2)
  obtain rfl := Option.some.inj (pig4.symm.trans hg3)
  obtain rfl := Option.some.inj (pit4.symm.trans ht3)
  refine ⟨?_, ?_, ?_, ?_⟩
  · obtain ⟨y0, y1, m', hyy, _, u0, u1⟩ := trod_struct2 Tryz.underlying110 hd0
    rw [pic3'] at u0 u1
    obtain ⟨z0, k0, e0, _⟩ := DataW.trod_int Tryz.underlying3 u0
    obtain ⟨z1, k1, e1, _⟩ := DataW.trod_int Tryz.underlying3 u1
    have hy1 := congrArg Prod.fst hyy
    rw [e0, e1] at hy1
    simp only [Rows.laid_decani_cold_nowhere, DataW.agg.injEq, List.cons.injEq, DataW.lit.injEq, Lit.int.injEq, true_and, and_true] at hy1
    obtain ⟨rfl, rfl⟩ := hy1
    have j0 := congrArg (fun z => z[0]?) k0
    have j1 := congrArg (fun z => z[0]?) k1
    simp [List.getElem?_take, List.getElem?_drop] at j0 j1
    have cell : ∀ i v, cs0.toList[i]? = some v → W.cell? ⟨1, i, none⟩ = some v := fun i v hv' => by
      have := World.var?_cell hg0 hv0 i
      rw [this, ← Array.getElem?_toList]
      exact hv'
    intro i hi
    match i, hi with
    | 0, _ => exact cell 0 _ (by simpa [pil1] using j0)
    | 1, _ => exact cell 1 _ (by simpa [pil1] using j1)
  · have hc := Lib.cells_of_tab (zs := pil3) (k := .i64) Tryz.underlying113 Tryz.underlying3 pic3' pic113' hd1
    have cell : ∀ i v, cs1.toList[i]? = some v → W.cell? ⟨3, i, none⟩ = some v := fun i v hv' => by
      have := World.var?_cell hg1 hv1 i
      rw [this, ← Array.getElem?_toList]
      exact hv'
    intro i hi
    match i, hi with
    | 0, _ => exact cell 0 _ (by simp [hc, pil3])
    | 1, _ => exact cell 1 _ (by simp [hc, pil3])
    | 2, _ => exact cell 2 _ (by simp [hc, pil3])
    | 3, _ => exact cell 3 _ (by simp [hc, pil3])
    | 4, _ => exact cell 4 _ (by simp [hc, pil3])
  · have hc := Lib.cells_of_tab (zs := pil0) (k := .i64) Tryz.underlying132 Tryz.underlying3 pic3' pic132' hd2
    have cell : ∀ i v, cs2.toList[i]? = some v → W.cell? ⟨0, i, none⟩ = some v := fun i v hv' => by
      have := World.var?_cell hg2 hv2 i
      rw [this, ← Array.getElem?_toList]
      exact hv'
    intro i hi
    match i, hi with
    | 0, _ => exact cell 0 _ (by simp [hc, pil0])
    | 1, _ => exact cell 1 _ (by simp [hc, pil0])
    | 2, _ => exact cell 2 _ (by simp [hc, pil0])
    | 3, _ => exact cell 3 _ (by simp [hc, pil0])
  · have hc := Lib.cells_of_tab (zs := pil4) (k := .i64) Tryz.underlying215 Tryz.underlying3 pic3' pic215' hd3
    have cell : ∀ i v, cs3.toList[i]? = some v → W.cell? ⟨4, i, none⟩ = some v := fun i v hv' => by
      have := World.var?_cell hg3 hv3 i
      rw [this, ← Array.getElem?_toList]
      exact hv'
    intro i hi
    match i, hi with
    | 0, _ => exact cell 0 _ (by simp [hc, pil4])
    | 1, _ => exact cell 1 _ (by simp [hc, pil4])
    | 2, _ => exact cell 2 _ (by simp [hc, pil4])
set_option maxHeartbeats 1000000 in
theorem pilifted (os : Os) (started : os.Started) (H : Type) (enc : TypeId × Value → H) :
    ReturnsInHanded {} Tryz.checked os 3 .any (fun w args => (Rows.topPileSpec.pre enc Tryz.prog Tryz.f3 [] false w args ∧ laidMetH Tryz.prog pilaid w) ∧ sizedMet enc Tryz.prog Tryz.f3 (OpenSpec.ofChange Rows.topPileSpec) false w args)
      (Rows.topPileSpec.post enc Tryz.prog Tryz.f3 false true false false) := by
  refine returnsInHanded_of_change_and (C := Tryz.checked) (X := fun w _ => laidMetH Tryz.prog pilaid w) (fun _ _ _ hh h => h.of_heap hh) piown started (by kernel_rfl) Tryz.func3
    (ChangeSpec.witness_shaped (enc := enc) (C := Tryz.checked) (os := os) (X := fun w _ => laidMetH Tryz.prog pilaid w) false (World.doorLaid Tryz.prog 400 os) #[.agg #[.int .i64 0, .int .i64 0, .int .i64 0, .int .i64 0]] 8 rfl (World.shaped_of_RefB (by kernel_rfl) (by kernel_rfl)) (by kernel_rfl) (by kernel_rfl) (by kernel_rfl) (pidoor_met os _)) ?_
  intro W base args ds gs before hval0 hW _ hwt0 hL _
  have hW' := hW
  obtain ⟨p, q, hA0, hV, rfl, hfz, hnd⟩ := hW
  have hA : DataW.TrodAll enc Tryz.prog W 0 (fun _ => true) true Tryz.f3.params.toList args.toList ds p := hA0
  have hval := hval0
  rw [Tryz.params3] at hA hval
  obtain ⟨v0, d0, rfl, rfl, h0⟩ := trodAll_one hA
  obtain ⟨rfl, rfl⟩ := trodVars_none hV
  have hlt : ∀ x ∈ p, x.block < W.heap.size := fun x hx => hW'.lt x (by simpa using hx)
  have a0 : ∀ (W' : World), Below W.heap.size W W' → DataW.Trod enc Tryz.prog W' 0 (fun b => decide (b < W.heap.size)) true 22 v0 d0 p :=
    fun W' hn => Below.trod pilaidOut (by kernel_rfl) (of_decide_eq_true (by kernel_rfl)) h0 hn (fun x hx => hlt x hx)
  obtain ⟨l1, l3, l0, l4⟩ := piof_laid hL
  obtain ⟨c1, rfl, hc1⟩ := piarr Tryz.underlying22 (hval 0 22 v0 rfl rfl)
  obtain ⟨fu1, hf1⟩ := h0
  obtain ⟨xs, m1, _, _, hl1, hxl, hel⟩ := DataW.trod_array Tryz.underlying22 hf1
  rw [pic22'] at hc1
  obtain ⟨l3⟩ := c1
  obtain ⟨m10, m11, m12, m13, rfl⟩ := pilen (by simpa using hc1)
  obtain ⟨z0, z1, z2, z3, rfl⟩ := pilen hxl
  have w0 : DataW.trod enc Tryz.prog W 0 (fun _ => true) true m1 3 (([m10, m11, m12, m13].drop (0 * Tryz.prog.cellsOf 3)).take (Tryz.prog.cellsOf 3)) = some z0 := hel 0 (by omega)
  have w1 : DataW.trod enc Tryz.prog W 0 (fun _ => true) true m1 3 (([m10, m11, m12, m13].drop (1 * Tryz.prog.cellsOf 3)).take (Tryz.prog.cellsOf 3)) = some z1 := hel 1 (by omega)
  have w2 : DataW.trod enc Tryz.prog W 0 (fun _ => true) true m1 3 (([m10, m11, m12, m13].drop (2 * Tryz.prog.cellsOf 3)).take (Tryz.prog.cellsOf 3)) = some z2 := hel 2 (by omega)
  have w3 : DataW.trod enc Tryz.prog W 0 (fun _ => true) true m1 3 (([m10, m11, m12, m13].drop (3 * Tryz.prog.cellsOf 3)).take (Tryz.prog.cellsOf 3)) = some z3 := hel 3 (by omega)
  rw [pic3'] at w0 w1 w2 w3
  obtain ⟨n0, rfl⟩ := pione w0
  obtain ⟨n1, rfl⟩ := pione w1
  obtain ⟨n2, rfl⟩ := pione w2
  obtain ⟨n3, rfl⟩ := pione w3
  clear w0 w1 w2 w3 hel hf1
  have hlaw : Calls Tryz.prog 3 #[.agg #[.int .i64 n0, .int .i64 n1, .int .i64 n2, .int .i64 n3]] W fun e C => e = .returned (.bool true) ∧ Below W.heap.size W C := picalls n0 n1 n2 n3 W l1 l3 l0 l4
  refine hlaw.mono fun e W' ⟨he, hk⟩ => ?_
  subst he
  exact ⟨_, rfl, _, _, _, [], _, [], hW', trodAll_mk1 (shut_bool Tryz.underlying4 true), ⟨_, _, a0 W' hk, rfl, rfl⟩, rfl, pibut hk _, fun h => by cases h⟩

theorem topPile_holds : Rows.TopPileSaid :=
  OpenClaim.holds_of_wide 3 Tryz.f3 rfl rfl rfl rfl rfl rfl rfl ⟨rfl, rfl, rfl, rfl, rfl⟩ rfl rfl rfl rfl rfl (by kernel_rfl) Tryz.func3 (by kernel_rfl)
    (of_decide_eq_true (by kernel_rfl)) (by unfold Func.isWrapper; first | (rw [if_pos (by decide +kernel)]; kernel_rfl) | (rw [if_neg (by decide +kernel)]; exact ⟨rfl, rfl⟩))
    (fun os started H enc _ => pilifted os started H enc)

theorem pisi : Tryz.prog.wantsStandIn 22 = false := by kernel_rfl
theorem topPile_card_holds : Rows.TopPileCardSaid :=
  Claim7.holds_tied_plain_at .later [] [.data, .data, .data, .data] true (true, "a16f2c483d1bfb6af0a51ec271fb8921342d76ccdf631d7daf98991c369e5ea0") false
    topPile_holds (fun _ h => by cases h) (by kernel_rfl) (fun _ h => by cases h) topPile_row_tie rfl ⟨rfl, rfl⟩ (by kernel_rfl) rfl
    (fun f fn hf hfn => by
      obtain rfl : f = 3 := Option.some.inj ((show Tryz.prog.funcNamed "decani/decanitop.TopPile" = some 3 by kernel_rfl).symm.trans hf) |>.symm
      obtain rfl : fn = Tryz.f3 := (Option.some.inj (Tryz.func3.symm.trans hfn)).symm
      exact ⟨by kernel_rfl, fun j t ht => by
        rw [Tryz.params3] at ht
        match j, ht with
        | 0, ht => simp at ht; subst ht; exact pisi
        | n + 1, ht => simp at ht⟩)
    (by kernel_rfl)
#print axioms topPile_card_holds
end Go.Proofs.YtmjpnohpmfmdlaaGreatDoor
