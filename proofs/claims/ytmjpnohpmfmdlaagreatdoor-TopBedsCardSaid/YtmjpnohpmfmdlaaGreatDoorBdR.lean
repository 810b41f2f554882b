/- A cold goes from bed to bed as candles are burnt from day to day, whatever numbers choose them: the law returns true for every array of five integers. The package-level variables candle.nothing, cold.nowhere, cold.nobody, strain.nothing hold what their initialisers lay (tied). -/
import Derived.Test.YtmjpnohpmfmdlaaGreatDoorBdL
import Derived.Test.YtmjpnohpmfmdlaaGreatDoorCards
import Derived.Test.YtmjpnohpmfmdlaaGreatDoorTie
import Derived.WalkKit
import Derived.ProofKit
import Derived.OpenShut
import Derived.LaidMore
import Derived.Lib.LaidTab
import Derived.Stop.Joined
import Derived.Carry
import Derived.SizedLaws
import Derived.Deep.Slices
import Derived.Deep.Strs
set_option linter.all false
namespace Go.Proofs.YtmjpnohpmfmdlaaGreatDoor
open Go.ChangeShapes Go.WideShapes Go.ChangeAt Go.WideMaps Go.WideElems Go.RowKit Go.Deep
set_option maxRecDepth 100000
theorem bdown : ownKnob Tryz.prog.godebug = none := by kernel_rfl
theorem bdlaidOut : laidOutB Tryz.prog = true := by kernel_rfl
theorem bdg2 : Tryz.prog.globalNamed "decani/candle.nothing" = some 2 := by kernel_rfl
theorem bdt2 : (Tryz.prog.globals[2]?).map (·.type) = some 187 := by kernel_rfl
theorem bdg1 : Tryz.prog.globalNamed "decani/cold.nowhere" = some 1 := by kernel_rfl
theorem bdt1 : (Tryz.prog.globals[1]?).map (·.type) = some 110 := by kernel_rfl
theorem bdg3 : Tryz.prog.globalNamed "decani/cold.nobody" = some 3 := by kernel_rfl
theorem bdt3 : (Tryz.prog.globals[3]?).map (·.type) = some 113 := by kernel_rfl
theorem bdg5 : Tryz.prog.globalNamed "decani/strain.nothing" = some 5 := by kernel_rfl
theorem bdt5 : (Tryz.prog.globals[5]?).map (·.type) = some 236 := by kernel_rfl
theorem bdc3' : Tryz.prog.cellsOf 3 = 1 := by kernel_rfl
theorem bdc58' : Tryz.prog.cellsOf 58 = 5 := by kernel_rfl
theorem bdc110' : Tryz.prog.cellsOf 110 = 2 := by kernel_rfl
theorem bdc113' : Tryz.prog.cellsOf 113 = 5 := by kernel_rfl
theorem bdc187' : Tryz.prog.cellsOf 187 = 2 := by kernel_rfl
theorem bdc236' : Tryz.prog.cellsOf 236 = 3 := by kernel_rfl
def bdlaid : List (String × DataW Unit) := [("decani/candle.nothing", Rows.laid_decani_candle_nothing), ("decani/cold.nowhere", Rows.laid_decani_cold_nowhere), ("decani/cold.nobody", Rows.laid_decani_cold_nobody), ("decani/strain.nothing", Rows.laid_decani_strain_nothing)]
theorem bddoor_met (os : Os) (args : Array Value) : laidMetH Tryz.prog bdlaid ((World.doorLaid Tryz.prog 400 os).forCall (fun _ _ => 0) ⟨#[], args, []⟩).memory :=
  laidMetH_of_parts3 (fuel := 8) (laidMet_of_run' 8 (by kernel_rfl) (by kernel_rfl)) (by kernel_rfl) (by kernel_rfl)
theorem bdlen {α : Type} {l : List α} (h : l.length = 5) : ∃ a0 a1 a2 a3 a4, l = [a0, a1, a2, a3, a4] := by
  match l, h with
  | [a0, a1, a2, a3, a4], _ => exact ⟨a0, a1, a2, a3, a4, rfl⟩
section
variable {H : Type} {enc : TypeId × Value → H} {w : World} {base : Nat} {sp : Nat → Bool} {held : Bool} {fuel : Nat} {x : DataW H × List MemPlace}
theorem bdone {c : Value} (h : DataW.trod enc Tryz.prog w base sp held fuel 3 [c] = some x) : ∃ n, c = .int .i64 n := by
  obtain ⟨z, e, _⟩ := DataW.trod_int Tryz.underlying3 h
  simp at e
  exact ⟨z, e⟩
end
theorem bdarr {P : Program} {w : World} {r : Reach} {base n : Nat} {t e : TypeId} {v : Value} (ht : P.underlying t = some (.array n e)) (h : Value.okWide P w r base t v) : ∃ cs, v = .agg cs ∧ cs.size = P.cellsOf t := by
  simp only [Value.okWide, ht] at h
  obtain ⟨cs, h1, h2, _⟩ := h
  exact ⟨cs, h1, h2⟩
theorem bdbut {W W' : World} (hb : Below W.heap.size W W') (may : MemPlace → Prop) : W.keptBut W' may := by
  refine ⟨hb.os, hb.output, fun i hi => ?_⟩
  rw [hb.block i hi]
  cases W.heap[i]? with
  | none => rfl
  | some o => cases o <;> first | exact ⟨rfl, rfl, rfl, fun _ _ => rfl⟩ | exact .inr ⟨rfl, rfl⟩ | rfl
theorem bdof_laid {W : World} (h : laidMetH Tryz.prog bdlaid W) : (∀ i, i < 2 → W.cell? ⟨2, i, none⟩ = some (.int .i64 (bdl2.getD i 0))) ∧ (∀ i, i < 2 → W.cell? ⟨1, i, none⟩ = some (.int .i64 (bdl1.getD i 0))) ∧ (∀ i, i < 5 → W.cell? ⟨3, i, none⟩ = some (.int .i64 (bdl3.getD i 0))) ∧ (∀ i, i < 3 → W.cell? ⟨5, i, none⟩ = some (.int .i64 (bdl5.getD i 0))) := by
  rw [MakeChecks.laidMetH_plain _ _ _ (by kernel_rfl)] at h
  obtain ⟨ps, ⟨g0, t0, cs0, f0, p0, q0, hg0, ht0, hv0, hd0, ⟨⟨g1, t1, cs1, f1, p1, q1, hg1, ht1, hv1, hd1, ⟨⟨g2, t2, cs2, f2, p2, q2, hg2, ht2, hv2, hd2, ⟨⟨g3, t3, cs3, f3, p3, q3, hg3, ht3, hv3, hd3, _⟩, _⟩⟩, _⟩⟩, _⟩⟩, _⟩ := h
  obtain rfl := Option.some.inj (bdg2.symm.trans hg0)
  obtain rfl := Option.some.inj (bdt2.symm.trans ht0)
  obtain rfl := Option.some.inj (bdg1.symm.trans hg1)
  obtain rfl := Option.some.inj (bdt1.symm.trans ht1)
  obtain rfl := Option.some.inj (bdg3.symm.trans hg2)
  obtain rfl := Option.some.inj (bdt3.symm.trans ht2)
  obtain rfl := Option.some.inj (bdg5.symm.trans hg3)
  obtain rfl := Option.some.inj (bdt5.symm.trans ht3)
  refine ⟨?_, ?_, ?_, ?_⟩
  · have hc := Lib.cells_of_tab (zs := bdl2) (k := .i64) Tryz.underlying187 Tryz.underlying3 bdc3' bdc187' hd0
    have cell : ∀ i v, cs0.toList[i]? = some v → W.cell? ⟨2, i, none⟩ = some v := fun i v hv' => by
      have := World.var?_cell hg0 hv0 i
      rw [this, ← Array.getElem?_toList]
      exact hv'
    intro i hi
    match i, hi with
    | 0, _ => exact cell 0 _ (by simp [hc, bdl2])
    | 1, _ => exact cell 1 _ (by simp [hc, bdl2])
  · obtain ⟨y0, y1, m', hyy, _, u0, u1⟩ := trod_struct2 Tryz.underlying110 hd1
    rw [bdc3'] at u0 u1
    obtain ⟨z0, k0, e0, _⟩ := DataW.trod_int Tryz.underlying3 u0
    obtain ⟨z1, k1, e1, _⟩ := DataW.trod_int Tryz.underlying3 u1
    have hy1 := congrArg Prod.fst hyy
    rw [e0, e1] at hy1
    simp only [Rows.laid_decani_cold_nowhere, DataW.agg.injEq, List.cons.injEq, DataW.lit.injEq, Lit.int.injEq, true_and, and_true] at hy1
    obtain ⟨rfl, rfl⟩ := hy1
    have j0 := congrArg (fun z => z[0]?) k0
    have j1 := congrArg (fun z => z[0]?) k1
    simp [List.getElem?_take, List.getElem?_drop] at j0 j1
    have cell : ∀ i v, cs1.toList[i]? = some v → W.cell? ⟨1, i, none⟩ = some v := fun i v hv' => by
      have := World.var?_cell hg1 hv1 i
      rw [this, ← Array.getElem?_toList]
      exact hv'
    intro i hi
    match i, hi with
    | 0, _ => exact cell 0 _ (by simpa [bdl1] using j0)
    | 1, _ => exact cell 1 _ (by simpa [bdl1] using j1)
  · have hc := Lib.cells_of_tab (zs := bdl3) (k := .i64) Tryz.underlying113 Tryz.underlying3 bdc3' bdc113' hd2
    have cell : ∀ i v, cs2.toList[i]? = some v → W.cell? ⟨3, i, none⟩ = some v := fun i v hv' => by
      have := World.var?_cell hg2 hv2 i
      rw [this, ← Array.getElem?_toList]
      exact hv'
    intro i hi
    match i, hi with
    | 0, _ => exact cell 0 _ (by simp [hc, bdl3])
    | 1, _ => exact cell 1 _ (by simp [hc, bdl3])
    | 2, _ => exact cell 2 _ (by simp [hc, bdl3])
    | 3, _ => exact cell 3 _ (by simp [hc, bdl3])
    | 4, _ => exact cell 4 _ (by simp [hc, bdl3])
  · have hc := Lib.cells_of_tab (zs := bdl5) (k := .i64) Tryz.underlying236 Tryz.underlying3 bdc3' bdc236' hd3
    have cell : ∀ i v, cs3.toList[i]? = some v → W.cell? ⟨5, i, none⟩ = some v := fun i v hv' => by
      have := World.var?_cell hg3 hv3 i
      rw [this, ← Array.getElem?_toList]
      exact hv'
    intro i hi
    match i, hi with
    | 0, _ => exact cell 0 _ (by simp [hc, bdl5])
    | 1, _ => exact cell 1 _ (by simp [hc, bdl5])
    | 2, _ => exact cell 2 _ (by simp [hc, bdl5])
set_option maxHeartbeats 1000000 in
theorem bdlifted (os : Os) (started : os.Started) (H : Type) (enc : TypeId × Value → H) :
    ReturnsInHanded {} Tryz.checked os 5 .any (fun w args => (Rows.topBedsSpec.pre enc Tryz.prog Tryz.f5 [] false w args ∧ laidMetH Tryz.prog bdlaid w) ∧ sizedMet enc Tryz.prog Tryz.f5 (OpenSpec.ofChange Rows.topBedsSpec) false w args)
      (Rows.topBedsSpec.post enc Tryz.prog Tryz.f5 false true false false) := by
  refine returnsInHanded_of_change_and (C := Tryz.checked) (X := fun w _ => laidMetH Tryz.prog bdlaid w) (fun _ _ _ hh h => h.of_heap hh) bdown started (by kernel_rfl) Tryz.func5
    (ChangeSpec.witness_shaped (enc := enc) (C := Tryz.checked) (os := os) (X := fun w _ => laidMetH Tryz.prog bdlaid w) false (World.doorLaid Tryz.prog 400 os) #[.agg #[.int .i64 0, .int .i64 0, .int .i64 0, .int .i64 0, .int .i64 0]] 8 rfl (World.shaped_of_RefB (by kernel_rfl) (by kernel_rfl)) (by kernel_rfl) (by kernel_rfl) (by kernel_rfl) (bddoor_met os _)) ?_
  intro W base args ds gs before hval0 hW _ hwt0 hL _
  have hW' := hW
  obtain ⟨p, q, hA0, hV, rfl, hfz, hnd⟩ := hW
  have hA : DataW.TrodAll enc Tryz.prog W 0 (fun _ => true) true Tryz.f5.params.toList args.toList ds p := hA0
  have hval := hval0
  rw [Tryz.params5] at hA hval
  obtain ⟨v0, d0, rfl, rfl, h0⟩ := trodAll_one hA
  obtain ⟨rfl, rfl⟩ := trodVars_none hV
  have hlt : ∀ x ∈ p, x.block < W.heap.size := fun x hx => hW'.lt x (by simpa using hx)
  have a0 : ∀ (W' : World), Below W.heap.size W W' → DataW.Trod enc Tryz.prog W' 0 (fun b => decide (b < W.heap.size)) true 58 v0 d0 p :=
    fun W' hn => Below.trod bdlaidOut (by kernel_rfl) (of_decide_eq_true (by kernel_rfl)) h0 hn (fun x hx => hlt x hx)
  obtain ⟨l2, l1, l3, l5⟩ := bdof_laid hL
  obtain ⟨c1, rfl, hc1⟩ := bdarr Tryz.underlying58 (hval 0 58 v0 rfl rfl)
  obtain ⟨fu1, hf1⟩ := h0
  obtain ⟨xs, m1, _, _, hl1, hxl, hel⟩ := DataW.trod_array Tryz.underlying58 hf1
  rw [bdc58'] at hc1
  obtain ⟨l3⟩ := c1
  obtain ⟨m10, m11, m12, m13, m14, rfl⟩ := bdlen (by simpa using hc1)
  obtain ⟨z0, z1, z2, z3, z4, rfl⟩ := bdlen hxl
  have w0 : DataW.trod enc Tryz.prog W 0 (fun _ => true) true m1 3 (([m10, m11, m12, m13, m14].drop (0 * Tryz.prog.cellsOf 3)).take (Tryz.prog.cellsOf 3)) = some z0 := hel 0 (by omega)
  have w1 : DataW.trod enc Tryz.prog W 0 (fun _ => true) true m1 3 (([m10, m11, m12, m13, m14].drop (1 * Tryz.prog.cellsOf 3)).take (Tryz.prog.cellsOf 3)) = some z1 := hel 1 (by omega)
  have w2 : DataW.trod enc Tryz.prog W 0 (fun _ => true) true m1 3 (([m10, m11, m12, m13, m14].drop (2 * Tryz.prog.cellsOf 3)).take (Tryz.prog.cellsOf 3)) = some z2 := hel 2 (by omega)
  have w3 : DataW.trod enc Tryz.prog W 0 (fun _ => true) true m1 3 (([m10, m11, m12, m13, m14].drop (3 * Tryz.prog.cellsOf 3)).take (Tryz.prog.cellsOf 3)) = some z3 := hel 3 (by omega)
  have w4 : DataW.trod enc Tryz.prog W 0 (fun _ => true) true m1 3 (([m10, m11, m12, m13, m14].drop (4 * Tryz.prog.cellsOf 3)).take (Tryz.prog.cellsOf 3)) = some z4 := hel 4 (by omega)
  rw [bdc3'] at w0 w1 w2 w3 w4
  obtain ⟨n0, rfl⟩ := bdone w0
  obtain ⟨n1, rfl⟩ := bdone w1
  obtain ⟨n2, rfl⟩ := bdone w2
  obtain ⟨n3, rfl⟩ := bdone w3
  obtain ⟨n4, rfl⟩ := bdone w4
  clear w0 w1 w2 w3 w4 hel hf1
  have hlaw : Calls Tryz.prog 5 #[.agg #[.int .i64 n0, .int .i64 n1, .int .i64 n2, .int .i64 n3, .int .i64 n4]] W fun e C => e = .returned (.bool true) ∧ Below W.heap.size W C := bdcalls n0 n1 n2 n3 n4 W l2 l1 l3 l5
  refine hlaw.mono fun e W' ⟨he, hk⟩ => ?_
  subst he
  exact ⟨_, rfl, _, _, _, [], _, [], hW', trodAll_mk1 (shut_bool Tryz.underlying4 true), ⟨_, _, a0 W' hk, rfl, rfl⟩, rfl, bdbut hk _, fun h => by cases h⟩

theorem topBeds_holds : Rows.TopBedsSaid :=
  OpenClaim.holds_of_wide 5 Tryz.f5 rfl rfl rfl rfl rfl rfl rfl ⟨rfl, rfl, rfl, rfl, rfl⟩ rfl rfl rfl rfl rfl (by kernel_rfl) Tryz.func5 (by kernel_rfl)
    (of_decide_eq_true (by kernel_rfl)) (by unfold Func.isWrapper; first | (rw [if_pos (by decide +kernel)]; kernel_rfl) | (rw [if_neg (by decide +kernel)]; exact ⟨rfl, rfl⟩))
    (fun os started H enc _ => bdlifted os started H enc)

theorem bdsi : Tryz.prog.wantsStandIn 58 = false := by kernel_rfl
theorem topBeds_card_holds : Rows.TopBedsCardSaid :=
  Claim7.holds_tied_plain_at .later [] [.data, .data, .data, .data] true (true, "a16f2c483d1bfb6af0a51ec271fb8921342d76ccdf631d7daf98991c369e5ea0") false
    topBeds_holds (fun _ h => by cases h) (by kernel_rfl) (fun _ h => by cases h) topBeds_row_tie rfl ⟨rfl, rfl⟩ (by kernel_rfl) rfl
    (fun f fn hf hfn => by
      obtain rfl : f = 5 := Option.some.inj ((show Tryz.prog.funcNamed "decani/decanitop.TopBeds" = some 5 by kernel_rfl).symm.trans hf) |>.symm
      obtain rfl : fn = Tryz.f5 := (Option.some.inj (Tryz.func5.symm.trans hfn)).symm
      exact ⟨by kernel_rfl, fun j t ht => by
        rw [Tryz.params5] at ht
        match j, ht with
        | 0, ht => simp at ht; subst ht; exact bdsi
        | n + 1, ht => simp at ht⟩)
    (by kernel_rfl)
#print axioms topBeds_card_holds
end Go.Proofs.YtmjpnohpmfmdlaaGreatDoor
