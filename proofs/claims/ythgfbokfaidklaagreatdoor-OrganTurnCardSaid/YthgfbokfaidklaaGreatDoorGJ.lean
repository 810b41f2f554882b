/- What is between two pipes, turned around, is the same with the other sign, and two pipes are no farther apart than by way of a third one, nor than both are from the town's, whatever lies in the arguments: the law returns true. The package-level variables voice.nothing, voice.bounds and organ.nothing hold what their initialisers lay (tied). -/
import Derived.Test.YthgfbokfaidklaaGreatDoorGI
import Derived.Lib.SmallJoins
import Derived.Test.YthgfbokfaidklaaGreatDoorCards
import Derived.Test.YthgfbokfaidklaaGreatDoorTie
import Derived.WalkKit
import Derived.ProofKit
import Derived.OpenShut
import Derived.LaidMore
import Derived.Lib.LaidTab
import Derived.Stop.Joined
import Derived.Carry
import Derived.SizedLaws
import Derived.Deep.Slices
import Derived.Deep.Strs
set_option linter.all false
set_option linter.all false
namespace Go.Proofs.YthgfbokfaidklaaGreatDoor
open Go.ChangeShapes Go.WideShapes Go.ChangeAt Go.WideMaps Go.WideElems Go.RowKit Go.Deep Go.Rg
set_option maxRecDepth 100000

theorem vlaidOut : laidOutB Tryz.prog = true := by kernel_rfl
theorem okown : ownKnob Tryz.prog.godebug = none := by kernel_rfl
theorem okcI : Tryz.prog.cellsOf 3 = 1 := by kernel_rfl
theorem okg_voice_nothing : Tryz.prog.globalNamed "decani/voice.nothing" = some 1 := by kernel_rfl
theorem okt_voice_nothing : (Tryz.prog.globals[1]?).map (·.type) = some 98 := by kernel_rfl
theorem okc_voice_nothing : Tryz.prog.cellsOf 98 = 5 := by kernel_rfl
theorem okg_voice_bounds : Tryz.prog.globalNamed "decani/voice.bounds" = some 2 := by kernel_rfl
theorem okt_voice_bounds : (Tryz.prog.globals[2]?).map (·.type) = some 166 := by kernel_rfl
theorem oks_voice_bounds : Tryz.prog.cellsOf 165 = 2 := by kernel_rfl
theorem okg_organ_nothing : Tryz.prog.globalNamed "decani/organ.nothing" = some 0 := by kernel_rfl
theorem okt_organ_nothing : (Tryz.prog.globals[0]?).map (·.type) = some 117 := by kernel_rfl
theorem okc_organ_nothing : Tryz.prog.cellsOf 117 = 5 := by kernel_rfl
def oklaid : List (String × DataW Unit) := [("decani/voice.nothing", Rows.laid_decani_voice_nothing), ("decani/voice.bounds", Rows.laid_decani_voice_bounds), ("decani/organ.nothing", Rows.laid_decani_organ_nothing)]
theorem okdoor_met (os : Os) (args : Array Value) : laidMetH Tryz.prog oklaid ((World.doorLaid Tryz.prog 400 os).forCall (fun _ _ => 0) ⟨#[], args, []⟩).memory :=
  laidMetH_of_parts3 (fuel := 8) (laidMet_of_run' 8 (by kernel_rfl) (by kernel_rfl)) (by kernel_rfl) (by kernel_rfl)

/-- An array of pairs of integers, cell for cell. -/
theorem pairs_of_trod {H : Type} {enc : TypeId × Value → H} {P : Program} {w : World} {base : Nat} {sp : Nat → Bool} {held : Bool} {fuel : Nat} {t e u : TypeId} {n : Nat} {k : IntKind} {f0 f1 : Field} {cs : List Value} {l : List (Int × Int)} {q : List MemPlace}
    (ht : P.underlying t = some (.array n e)) (he : P.underlying e = some (.struct #[f0, f1])) (hu : P.underlying u = some (.int k)) (h0 : f0.type = u) (h1 : f1.type = u) (o0 : f0.offset = 0) (o1 : f1.offset = 1) (ce : P.cellsOf e = 2) (cu : P.cellsOf u = 1)
    (h : DataW.trod enc P w base sp held fuel t cs = some (.agg (l.map fun p => .agg [.lit (.int k p.1), .lit (.int k p.2)]), q)) : ∀ (i : Nat) (p : Int × Int), l[i]? = some p → cs[2 * i]? = some (.int k p.1) ∧ cs[2 * i + 1]? = some (.int k p.2) := by
  intro i p hp
  obtain ⟨xs, m, _, hx, hl, hn, hel⟩ := DataW.trod_array ht h
  simp only [Prod.mk.injEq, DataW.agg.injEq] at hx
  have hi : i < l.length := by
    rcases Nat.lt_or_ge i l.length with h' | h'
    · exact h'
    · rw [List.getElem?_eq_none h'] at hp; cases hp
  have hxl : xs.length = l.length := by
    have := congrArg List.length hx.1
    simpa using this.symm
  obtain ⟨y, hy⟩ : ∃ y, xs[i]? = some y := ⟨xs[i], by simp [show i < xs.length by omega]⟩
  have hy1 : y.1 = .agg [.lit (.int k p.1), .lit (.int k p.2)] := by
    have := congrArg (fun z => z[i]?) hx.1
    simp only [List.getElem?_map, hp, hy, Option.map_some, Option.some.injEq] at this
    exact this.symm
  have hE := hel i (by omega)
  rw [hy, ce] at hE
  obtain ⟨y0, y1, m', hyy, _, t0, t1⟩ := trod_struct2 he hE
  rw [h0, o0, cu] at t0
  rw [h1, o1, cu] at t1
  obtain ⟨z0, c0, e0, _⟩ := DataW.trod_int hu t0
  obtain ⟨z1, c1, e1, _⟩ := DataW.trod_int hu t1
  rw [hyy, e0, e1] at hy1
  simp only [DataW.agg.injEq, List.cons.injEq, DataW.lit.injEq, Lit.int.injEq, true_and, and_true] at hy1
  obtain ⟨rfl, rfl⟩ := hy1
  refine ⟨?_, ?_⟩
  · have := congrArg (fun z => z[0]?) c0
    simp [List.getElem?_take, List.getElem?_drop] at this
    rw [Nat.mul_comm]
    exact this
  · have := congrArg (fun z => z[0]?) c1
    simp [List.getElem?_take, List.getElem?_drop] at this
    rw [Nat.mul_comm]
    exact this

def okl_voice_nothing : List Int := [(-1), (-1), (-1), (-1), (-1)]
def okp_voice_bounds : List (Int × Int) := [(40, 2), (40, 2), (2, 1), (6, 2), (9, 3)]
def okl_voice_bounds : List Int := [40, 2, 40, 2, 2, 1, 6, 2, 9, 3]
def okl_organ_nothing : List Int := [(-61), (-61), (-61), (-61), (-61)]

theorem okof_laid {W : World} (h : laidMetH Tryz.prog oklaid W) : (∀ i, i < 5 → W.cell? ⟨1, i, none⟩ = some (.int .i64 (okl_voice_nothing.getD i 0))) ∧ (∀ i, i < 10 → W.cell? ⟨2, i, none⟩ = some (.int .i64 (okl_voice_bounds.getD i 0))) ∧ (∀ i, i < 5 → W.cell? ⟨0, i, none⟩ = some (.int .i64 (okl_organ_nothing.getD i 0))) := by
  rw [MakeChecks.laidMetH_plain _ _ _ (by kernel_rfl)] at h
  obtain ⟨ps, ⟨g0, t0, cs0, f0, p0, q0, hg0, ht0, hv0, hd0, ⟨⟨g1, t1, cs1, f1, p1, q1, hg1, ht1, hv1, hd1, ⟨⟨g2, t2, cs2, f2, p2, q2, hg2, ht2, hv2, hd2, _⟩, _⟩⟩, _⟩⟩, _⟩ := h
  obtain rfl := Option.some.inj (okg_voice_nothing.symm.trans hg0)
  obtain rfl := Option.some.inj (okt_voice_nothing.symm.trans ht0)
  obtain rfl := Option.some.inj (okg_voice_bounds.symm.trans hg1)
  obtain rfl := Option.some.inj (okt_voice_bounds.symm.trans ht1)
  obtain rfl := Option.some.inj (okg_organ_nothing.symm.trans hg2)
  obtain rfl := Option.some.inj (okt_organ_nothing.symm.trans ht2)
  refine ⟨?_, ?_, ?_⟩
  · have hc := Lib.cells_of_tab (zs := okl_voice_nothing) (k := .i64) Tryz.underlying98 Tryz.underlying3 okcI okc_voice_nothing hd0
    have cell : ∀ i v, cs0.toList[i]? = some v → W.cell? ⟨1, i, none⟩ = some v := fun i v hv' => by
      have := World.var?_cell hg0 hv0 i
      rw [this, ← Array.getElem?_toList]
      exact hv'
    intro i hi
    match i, hi with
    | 0, _ => exact cell 0 _ (by simp [hc, okl_voice_nothing])
    | 1, _ => exact cell 1 _ (by simp [hc, okl_voice_nothing])
    | 2, _ => exact cell 2 _ (by simp [hc, okl_voice_nothing])
    | 3, _ => exact cell 3 _ (by simp [hc, okl_voice_nothing])
    | 4, _ => exact cell 4 _ (by simp [hc, okl_voice_nothing])
  · have hp := pairs_of_trod (l := okp_voice_bounds) Tryz.underlying166 Tryz.underlying165 Tryz.underlying3 rfl rfl rfl rfl oks_voice_bounds okcI hd1
    have cell : ∀ i v, cs1.toList[i]? = some v → W.cell? ⟨2, i, none⟩ = some v := fun i v hv' => by
      have := World.var?_cell hg1 hv1 i
      rw [this, ← Array.getElem?_toList]
      exact hv'
    intro i hi
    match i, hi with
    | 0, _ => exact cell 0 _ (hp 0 _ rfl).1
    | 1, _ => exact cell 1 _ (hp 0 _ rfl).2
    | 2, _ => exact cell 2 _ (hp 1 _ rfl).1
    | 3, _ => exact cell 3 _ (hp 1 _ rfl).2
    | 4, _ => exact cell 4 _ (hp 2 _ rfl).1
    | 5, _ => exact cell 5 _ (hp 2 _ rfl).2
    | 6, _ => exact cell 6 _ (hp 3 _ rfl).1
    | 7, _ => exact cell 7 _ (hp 3 _ rfl).2
    | 8, _ => exact cell 8 _ (hp 4 _ rfl).1
    | 9, _ => exact cell 9 _ (hp 4 _ rfl).2
  · have hc := Lib.cells_of_tab (zs := okl_organ_nothing) (k := .i64) Tryz.underlying117 Tryz.underlying3 okcI okc_organ_nothing hd2
    have cell : ∀ i v, cs2.toList[i]? = some v → W.cell? ⟨0, i, none⟩ = some v := fun i v hv' => by
      have := World.var?_cell hg2 hv2 i
      rw [this, ← Array.getElem?_toList]
      exact hv'
    intro i hi
    match i, hi with
    | 0, _ => exact cell 0 _ (by simp [hc, okl_organ_nothing])
    | 1, _ => exact cell 1 _ (by simp [hc, okl_organ_nothing])
    | 2, _ => exact cell 2 _ (by simp [hc, okl_organ_nothing])
    | 3, _ => exact cell 3 _ (by simp [hc, okl_organ_nothing])
    | 4, _ => exact cell 4 _ (by simp [hc, okl_organ_nothing])
theorem vcI : Tryz.prog.cellsOf 3 = 1 := by kernel_rfl
theorem vcS : Tryz.prog.cellsOf 35 = 2 := by kernel_rfl
theorem vcB : Tryz.prog.cellsOf 140 = 11 := by kernel_rfl
theorem vcT : Tryz.prog.cellsOf 143 = 4 := by kernel_rfl
theorem vcL : Tryz.prog.cellsOf 24 = 1 := by kernel_rfl
theorem vcM : Tryz.prog.cellsOf 25 = 1 := by kernel_rfl
theorem vcK : Tryz.prog.cellsOf 27 = 3 := by kernel_rfl
theorem ocT : Tryz.prog.cellsOf 67 = 4 := by kernel_rfl
theorem ocF : Tryz.prog.cellsOf 63 = 3 := by kernel_rfl
theorem ocL : Tryz.prog.cellsOf 22 = 1 := by kernel_rfl
theorem ocM : Tryz.prog.cellsOf 23 = 1 := by kernel_rfl
theorem ocK : Tryz.prog.cellsOf 29 = 6 := by kernel_rfl
section
variable {H : Type} {enc : TypeId × Value → H} {w : World} {base : Nat} {sp : Nat → Bool} {held : Bool} {fuel : Nat} {cs : List Value} {x : DataW H × List MemPlace}
theorem one_int {c : Value} (h : DataW.trod enc Tryz.prog w base sp held fuel 3 [c] = some x) : ∃ n, c = .int .i64 n := by
  obtain ⟨z, e, _⟩ := DataW.trod_int Tryz.underlying3 h
  simp at e
  exact ⟨z, e⟩
theorem span_ints {c d : Value} (h : DataW.trod enc Tryz.prog w base sp held fuel 35 [c, d] = some x) : ∃ a b, c = .int .i64 a ∧ d = .int .i64 b := by
  obtain ⟨xs, n, _, hx, hl, hn, hf⟩ := DataW.trod_struct Tryz.underlying35 h
  match xs, hn with
  | [y0, y1], _ =>
    have t0 : DataW.trod enc Tryz.prog w base sp held n 3 (([c, d].drop 0).take (Tryz.prog.cellsOf 3)) = some y0 := hf 0 _ rfl
    have t1 : DataW.trod enc Tryz.prog w base sp held n 3 (([c, d].drop 1).take (Tryz.prog.cellsOf 3)) = some y1 := hf 1 _ rfl
    rw [vcI] at t0 t1
    obtain ⟨a, rfl⟩ := one_int t0
    obtain ⟨b, rfl⟩ := one_int t1
    exact ⟨a, b, rfl, rfl⟩
def boyCells (x : Boy) : List Value := [.int .i64 x.l0, .int .i64 x.l1, .int .i64 x.h0, .int .i64 x.h1, .int .i64 x.g0, .int .i64 x.g1, .int .i64 x.t0, .int .i64 x.t1, .int .i64 x.ls, .int .i64 x.b0, .int .i64 x.b1]
theorem boy_ints (h : DataW.trod enc Tryz.prog w base sp held fuel 140 cs = some x) : ∃ b : Boy, cs = boyCells b := by
  obtain ⟨xs, n, _, hx, hl, hn, hf⟩ := DataW.trod_struct Tryz.underlying140 h
  rw [vcB] at hl
  match cs, hl, xs, hn with
  | [c0, c1, c2, c3, c4, c5, c6, c7, c8, c9, c10], _, [y0, y1, y2, y3, y4, y5], _ =>
    have t0 : DataW.trod enc Tryz.prog w base sp held n 35 (([c0, c1, c2, c3, c4, c5, c6, c7, c8, c9, c10].drop 0).take (Tryz.prog.cellsOf 35)) = some y0 := hf 0 _ rfl
    have t1 : DataW.trod enc Tryz.prog w base sp held n 35 (([c0, c1, c2, c3, c4, c5, c6, c7, c8, c9, c10].drop 2).take (Tryz.prog.cellsOf 35)) = some y1 := hf 1 _ rfl
    have t2 : DataW.trod enc Tryz.prog w base sp held n 35 (([c0, c1, c2, c3, c4, c5, c6, c7, c8, c9, c10].drop 4).take (Tryz.prog.cellsOf 35)) = some y2 := hf 2 _ rfl
    have t3 : DataW.trod enc Tryz.prog w base sp held n 35 (([c0, c1, c2, c3, c4, c5, c6, c7, c8, c9, c10].drop 6).take (Tryz.prog.cellsOf 35)) = some y3 := hf 3 _ rfl
    have t4 : DataW.trod enc Tryz.prog w base sp held n 3 (([c0, c1, c2, c3, c4, c5, c6, c7, c8, c9, c10].drop 8).take (Tryz.prog.cellsOf 3)) = some y4 := hf 4 _ rfl
    have t5 : DataW.trod enc Tryz.prog w base sp held n 35 (([c0, c1, c2, c3, c4, c5, c6, c7, c8, c9, c10].drop 9).take (Tryz.prog.cellsOf 35)) = some y5 := hf 5 _ rfl
    rw [vcS] at t0 t1 t2 t3 t5
    rw [vcI] at t4
    obtain ⟨a0, a1, rfl, rfl⟩ := span_ints t0
    obtain ⟨a2, a3, rfl, rfl⟩ := span_ints t1
    obtain ⟨a4, a5, rfl, rfl⟩ := span_ints t2
    obtain ⟨a6, a7, rfl, rfl⟩ := span_ints t3
    obtain ⟨a8, rfl⟩ := one_int t4
    obtain ⟨a9, a10, rfl, rfl⟩ := span_ints t5
    exact ⟨⟨a0, a1, a2, a3, a4, a5, a6, a7, a8, a9, a10⟩, rfl⟩
def trialCells (t : Trial) : List Value := [.int .i64 t.boy, .int .i64 t.week, .int .i64 t.note, .int .i64 t.sang]
theorem trial_ints (h : DataW.trod enc Tryz.prog w base sp held fuel 143 cs = some x) : ∃ t : Trial, cs = trialCells t := by
  obtain ⟨xs, n, _, hx, hl, hn, hf⟩ := DataW.trod_struct Tryz.underlying143 h
  rw [vcT] at hl
  match cs, hl, xs, hn with
  | [c0, c1, c2, c3], _, [y0, y1, y2, y3], _ =>
    have t0 : DataW.trod enc Tryz.prog w base sp held n 3 (([c0, c1, c2, c3].drop 0).take (Tryz.prog.cellsOf 3)) = some y0 := hf 0 _ rfl
    have t1 : DataW.trod enc Tryz.prog w base sp held n 3 (([c0, c1, c2, c3].drop 1).take (Tryz.prog.cellsOf 3)) = some y1 := hf 1 _ rfl
    have t2 : DataW.trod enc Tryz.prog w base sp held n 3 (([c0, c1, c2, c3].drop 2).take (Tryz.prog.cellsOf 3)) = some y2 := hf 2 _ rfl
    have t3 : DataW.trod enc Tryz.prog w base sp held n 3 (([c0, c1, c2, c3].drop 3).take (Tryz.prog.cellsOf 3)) = some y3 := hf 3 _ rfl
    rw [vcI] at t0 t1 t2 t3
    obtain ⟨a0, rfl⟩ := one_int t0
    obtain ⟨a1, rfl⟩ := one_int t1
    obtain ⟨a2, rfl⟩ := one_int t2
    obtain ⟨a3, rfl⟩ := one_int t3
    exact ⟨⟨a0, a1, a2, a3⟩, rfl⟩
/-- a slice of structs, opened: each has the cells f of something of which Q is so -/
theorem rows_of2 {α : Type} [Inhabited α] {t e : TypeId} {k : Nat} (f : α → List Value) (Q : α → Prop) (hk : 0 < k) (hfl : ∀ y, (f y).length = k) (ht : Tryz.prog.underlying t = some (.slice e)) (hc : Tryz.prog.cellsOf e = k)
    (hel : ∀ (n : Nat) (cs : List Value) (x : DataW H × List MemPlace), DataW.trod enc Tryz.prog w base (fun _ => true) held n e cs = some x → ∃ y, cs = f y ∧ Q y)
    {c : Value} (h : DataW.trod enc Tryz.prog w base (fun _ => true) held fuel t [c] = some x) :
    ∃ (p : Option Addr) (cap : Nat) (l : List α), c = .slice p l.length cap ∧ (l = [] ∨ ∃ es ss, x.1 = .slice es ss ∧ es.length = l.length) ∧ (l = [] ∨ ∃ b o, p = some ⟨b, o, none⟩ ∧ b < w.heap.size ∧ ∀ i y, l[i]? = some y → Q y ∧ ∀ j, j < k → w.cell? ⟨b, o + i * k + j, none⟩ = (f y)[j]?) ∧ l.length ≤ cap := by
  rcases open_slice ht h with ⟨h0, _⟩ | ⟨a, len, cap, m, n, D, Pl, hcs, hb, hl, hm, hmm, hx, hi⟩
  · simp at h0
    exact ⟨none, 0, [], h0, .inl rfl, .inl rfl, Nat.le_refl _⟩
  · simp at hcs hmm
    rw [hc] at hi
    obtain ⟨g, hg⟩ := choose_lt (n := len) (p := fun i y => w.cells? base (a.add (i * k)) k = some (f y) ∧ Q y) (fun i hil => by
      obtain ⟨cs', h1, h2⟩ := hi i (by omega)
      obtain ⟨y, rfl, hq⟩ := hel _ _ _ h2
      exact ⟨y, h1, hq⟩)
    refine ⟨some a, cap, (List.range len).map g, by simpa using hcs, .inr ⟨_, _, congrArg Prod.fst hx, by simp⟩, ?_, by simpa using hl⟩
    by_cases h0 : len = 0
    · exact .inl (by simp [h0])
    right
    have hcell : ∀ i, i < len → ∀ j, j < k → w.cell? ((a.add (i * k)).add j) = (f (g i))[j]? := fun i hil j hj => (World.cells?_some (hg i hil).1).2.2 j hj
    have hz := hcell 0 (by omega) 0 hk
    rw [Nat.zero_mul] at hz
    have he : ((a.add 0).add 0) = a := by simp [Addr.add]
    rw [he, List.getElem?_eq_getElem (by rw [hfl]; exact hk)] at hz
    have hsp := World.cell?_spot hz
    obtain ⟨b, o, s⟩ := a
    simp only at hsp
    subst hsp
    refine ⟨b, o, rfl, Go.Ai.lt_of_cell hz, fun i y hy => ?_⟩
    simp only [List.getElem?_map, Option.map_eq_some_iff] at hy
    obtain ⟨i', hi', rfl⟩ := hy
    obtain ⟨hil, rfl⟩ : i < len ∧ i' = i := by
      have := List.getElem?_eq_some_iff.1 hi'
      obtain ⟨h1, h2⟩ := this
      simp at h1 h2
      exact ⟨h1, h2.symm⟩
    refine ⟨(hg _ hil).2, fun j hj => ?_⟩
    have := hcell _ hil j hj
    rw [add_plain, add_plain] at this
    exact this
def tuneCells (x : Tune) : List Value := [.int .i64 x.src, .int .i64 x.dst, .int .i64 x.off, .int .i64 x.err]
theorem tune_ints (h : DataW.trod enc Tryz.prog w base sp held fuel 67 cs = some x) : ∃ b : Tune, cs = tuneCells b ∧ True := by
  obtain ⟨xs, n, _, hx, hl, hn, hf⟩ := DataW.trod_struct Tryz.underlying67 h
  rw [ocT] at hl
  match cs, hl, xs, hn with
  | [c0, c1, c2, c3], _, [y0, y1, y2, y3], _ =>
    have t0 : DataW.trod enc Tryz.prog w base sp held n 3 (([c0, c1, c2, c3].drop 0).take (Tryz.prog.cellsOf 3)) = some y0 := hf 0 _ rfl
    have t1 : DataW.trod enc Tryz.prog w base sp held n 3 (([c0, c1, c2, c3].drop 1).take (Tryz.prog.cellsOf 3)) = some y1 := hf 1 _ rfl
    have t2 : DataW.trod enc Tryz.prog w base sp held n 3 (([c0, c1, c2, c3].drop 2).take (Tryz.prog.cellsOf 3)) = some y2 := hf 2 _ rfl
    have t3 : DataW.trod enc Tryz.prog w base sp held n 3 (([c0, c1, c2, c3].drop 3).take (Tryz.prog.cellsOf 3)) = some y3 := hf 3 _ rfl
    rw [vcI] at t0 t1 t2 t3
    obtain ⟨a0, rfl⟩ := one_int t0
    obtain ⟨a1, rfl⟩ := one_int t1
    obtain ⟨a2, rfl⟩ := one_int t2
    obtain ⟨a3, rfl⟩ := one_int t3
    exact ⟨⟨a0, a1, a2, a3⟩, rfl, trivial⟩
def forkCells (x : Fork) : List Value := [.int .i64 x.pipe, .int .i64 x.read, .int .i64 x.err]
theorem fork_ints (h : DataW.trod enc Tryz.prog w base sp held fuel 63 cs = some x) : ∃ b : Fork, cs = forkCells b ∧ True := by
  obtain ⟨xs, n, _, hx, hl, hn, hf⟩ := DataW.trod_struct Tryz.underlying63 h
  rw [ocF] at hl
  match cs, hl, xs, hn with
  | [c0, c1, c2], _, [y0, y1, y2], _ =>
    have t0 : DataW.trod enc Tryz.prog w base sp held n 3 (([c0, c1, c2].drop 0).take (Tryz.prog.cellsOf 3)) = some y0 := hf 0 _ rfl
    have t1 : DataW.trod enc Tryz.prog w base sp held n 3 (([c0, c1, c2].drop 1).take (Tryz.prog.cellsOf 3)) = some y1 := hf 1 _ rfl
    have t2 : DataW.trod enc Tryz.prog w base sp held n 3 (([c0, c1, c2].drop 2).take (Tryz.prog.cellsOf 3)) = some y2 := hf 2 _ rfl
    rw [vcI] at t0 t1 t2
    obtain ⟨a0, rfl⟩ := one_int t0
    obtain ⟨a1, rfl⟩ := one_int t1
    obtain ⟨a2, rfl⟩ := one_int t2
    exact ⟨⟨a0, a1, a2⟩, rfl, trivial⟩
end
theorem kept_but {W W' : World} (hb : Below W.heap.size W W') (may : MemPlace → Prop) : W.keptBut W' may := by
  refine ⟨hb.os, hb.output, fun i hi => ?_⟩
  rw [hb.block i hi]
  cases W.heap[i]? with
  | none => rfl
  | some o => cases o <;> first | exact ⟨rfl, rfl, rfl, fun _ _ => rfl⟩ | exact .inr ⟨rfl, rfl⟩ | rfl

theorem okWide_arr {P : Program} {w : World} {r : Reach} {base n : Nat} {t e : TypeId} {v : Value} (ht : P.underlying t = some (.array n e)) (h : Value.okWide P w r base t v) : ∃ cs, v = .agg cs ∧ cs.size = P.cellsOf t := by
  simp only [Value.okWide, ht] at h
  obtain ⟨cs, h1, h2, _⟩ := h
  exact ⟨cs, h1, h2⟩
theorem vbB : Tryz.prog.bytesOf 140 = 88 := by kernel_rfl
theorem vbT : Tryz.prog.bytesOf 143 = 32 := by kernel_rfl
theorem few_boys {H : Type} {y : DataW H} {k : Nat} (hw : ∀ n ∈ y.weights Tryz.prog 24, n ≤ reachBytes) (h : ∃ es ss, y = .slice es ss ∧ es.length = k) : k ≤ 140737488355328 := by
  obtain ⟨es, ss, rfl, rfl⟩ := h
  have := hw ((es.length + ss.length) * Tryz.prog.bytesOf 140) (by simp [DataW.weights, Tryz.underlying24])
  rw [vbB] at this
  have := reachBytes_lt
  omega
theorem few_trials {H : Type} {y : DataW H} {k : Nat} (hw : ∀ n ∈ y.weights Tryz.prog 25, n ≤ reachBytes) (h : ∃ es ss, y = .slice es ss ∧ es.length = k) : k ≤ 140737488355328 := by
  obtain ⟨es, ss, rfl, rfl⟩ := h
  have := hw ((es.length + ss.length) * Tryz.prog.bytesOf 143) (by simp [DataW.weights, Tryz.underlying25])
  rw [vbT] at this
  have := reachBytes_lt
  omega
theorem obT : Tryz.prog.bytesOf 67 = 32 := by kernel_rfl
theorem obF : Tryz.prog.bytesOf 63 = 24 := by kernel_rfl
theorem few_tunes {H : Type} {y : DataW H} {k : Nat} (hw : ∀ n ∈ y.weights Tryz.prog 22, n ≤ reachBytes) (h : ∃ es ss, y = .slice es ss ∧ es.length = k) : k ≤ 140737488355328 := by
  obtain ⟨es, ss, rfl, rfl⟩ := h
  have := hw ((es.length + ss.length) * Tryz.prog.bytesOf 67) (by simp [DataW.weights, Tryz.underlying22])
  rw [obT] at this
  have := reachBytes_lt
  omega
theorem few_forks {H : Type} {y : DataW H} {k : Nat} (hw : ∀ n ∈ y.weights Tryz.prog 23, n ≤ reachBytes) (h : ∃ es ss, y = .slice es ss ∧ es.length = k) : k ≤ 140737488355328 := by
  obtain ⟨es, ss, rfl, rfl⟩ := h
  have := hw ((es.length + ss.length) * Tryz.prog.bytesOf 63) (by simp [DataW.weights, Tryz.underlying23])
  rw [obF] at this
  have := reachBytes_lt
  omega
theorem obook_weights {H : Type} {y0 y1 y2 z0 z1 z2 : DataW H} {ts : List TypeId} {ds : List (DataW H)} (h : (DataW.weightsEach Tryz.prog (29 :: ts) (.agg [z0, z1, z2, .agg [y0, y1, y2]] :: ds)).all (· ≤ reachBytes) = true) :
    (∀ n ∈ z1.weights Tryz.prog 22, n ≤ reachBytes) ∧ (∀ n ∈ z2.weights Tryz.prog 23, n ≤ reachBytes) ∧ (∀ n ∈ y0.weights Tryz.prog 24, n ≤ reachBytes) ∧ (∀ n ∈ y2.weights Tryz.prog 25, n ≤ reachBytes) := by
  have hall := fun n hn => of_decide_eq_true (List.all_eq_true.1 h n hn)
  have hin : ∀ n, n ∈ (DataW.agg [z0, z1, z2, .agg [y0, y1, y2]]).weights Tryz.prog 29 → n ≤ reachBytes := fun n hn => hall n (DataW.weights_mem_each (j := 0) rfl rfl n hn)
  have hv : ∀ n, n ∈ (DataW.agg [y0, y1, y2]).weights Tryz.prog 27 → n ≤ reachBytes := fun n hn => hin n (by
    simp only [DataW.weights, Tryz.underlying29]
    exact DataW.weights_mem_each (j := 3) rfl rfl n hn)
  refine ⟨fun n hn => hin n ?_, fun n hn => hin n ?_, fun n hn => hv n ?_, fun n hn => hv n ?_⟩
  · simp only [DataW.weights, Tryz.underlying29]
    exact DataW.weights_mem_each (j := 1) rfl rfl n hn
  · simp only [DataW.weights, Tryz.underlying29]
    exact DataW.weights_mem_each (j := 2) rfl rfl n hn
  · simp only [DataW.weights, Tryz.underlying27]
    exact DataW.weights_mem_each (j := 0) rfl rfl n hn
  · simp only [DataW.weights, Tryz.underlying27]
    exact DataW.weights_mem_each (j := 2) rfl rfl n hn
theorem len6 {α : Type} {l : List α} (h : l.length = 6) : ∃ a b c d e f, l = [a, b, c, d, e, f] := by
  match l, h with
  | [a, b, c, d, e, f], _ => exact ⟨a, b, c, d, e, f, rfl⟩

/-- a book of an organ, as the row reads it -/
theorem obook_reads {H : Type} {enc : TypeId × Value → H} {W : World} {v : Value} {d : DataW H} {q : List MemPlace} {ts : List TypeId} {ds : List (DataW H)} {r : Reach} {base' : Nat} (hL : laidMetH Tryz.prog oklaid W)
    (hval : Value.okWide Tryz.prog W r base' 29 v) (hw : (DataW.weightsEach Tryz.prog (29 :: ts) (d :: ds)).all (· ≤ reachBytes) = true)
    (h : DataW.Trod enc Tryz.prog W 0 (fun _ => true) true 29 v d q) : ∃ X : OBook, v = X.val ∧ OBookAt W X ∧ Nothing W ∧ ONothing W := by
  obtain ⟨l1, l2, l3⟩ := okof_laid hL
  have hN : Nothing W := fun i hi => (l1 i hi).trans (by match i, hi with | 0, _ => rfl | 1, _ => rfl | 2, _ => rfl | 3, _ => rfl | 4, _ => rfl)
  have hR : ONothing W := fun i hi => (l3 i hi).trans (by match i, hi with | 0, _ => rfl | 1, _ => rfl | 2, _ => rfl | 3, _ => rfl | 4, _ => rfl)
  have hLd : Laid W := ⟨Go.Ai.lt_of_cell (l2 0 (by omega)), l2 0 (by omega), l2 1 (by omega), l2 2 (by omega), l2 3 (by omega), l2 4 (by omega), l2 5 (by omega), l2 6 (by omega), l2 7 (by omega), l2 8 (by omega), l2 9 (by omega)⟩
  obtain ⟨c0, rfl, hc0⟩ := okWide_struct Tryz.underlying29 hval
  obtain ⟨fu0, hf0⟩ := h
  obtain ⟨x0, x1, x2, x3, n, hy, hl0, t0, t1, t2, t3⟩ := Go.Joins.trod_struct4 Tryz.underlying29 hf0
  rw [ocK] at hc0
  obtain ⟨lc⟩ := c0
  obtain ⟨s0, s1, s2, s3, s4, s5, rfl⟩ := len6 (by simpa using hc0)
  clear hc0 hl0 hf0
  have u0 : DataW.trod enc Tryz.prog W 0 (fun _ => true) true n 3 (([s0, s1, s2, s3, s4, s5].drop 0).take (Tryz.prog.cellsOf 3)) = some x0 := t0
  have u1 : DataW.trod enc Tryz.prog W 0 (fun _ => true) true n 22 (([s0, s1, s2, s3, s4, s5].drop 1).take (Tryz.prog.cellsOf 22)) = some x1 := t1
  have u2 : DataW.trod enc Tryz.prog W 0 (fun _ => true) true n 23 (([s0, s1, s2, s3, s4, s5].drop 2).take (Tryz.prog.cellsOf 23)) = some x2 := t2
  have u3 : DataW.trod enc Tryz.prog W 0 (fun _ => true) true n 27 (([s0, s1, s2, s3, s4, s5].drop 3).take (Tryz.prog.cellsOf 27)) = some x3 := t3
  rw [vcI] at u0
  rw [ocL] at u1
  rw [ocM] at u2
  rw [vcK] at u3
  have u3' : DataW.trod enc Tryz.prog W 0 (fun _ => true) true n 27 [s3, s4, s5] = some x3 := u3
  obtain ⟨z0, z1, z2, n', hz, _, k0, k1, k2⟩ := trod_struct3 Tryz.underlying27 u3'
  have w0 : DataW.trod enc Tryz.prog W 0 (fun _ => true) true n' 24 (([s3, s4, s5].drop 0).take (Tryz.prog.cellsOf 24)) = some z0 := k0
  have w1 : DataW.trod enc Tryz.prog W 0 (fun _ => true) true n' 3 (([s3, s4, s5].drop 1).take (Tryz.prog.cellsOf 3)) = some z1 := k1
  have w2 : DataW.trod enc Tryz.prog W 0 (fun _ => true) true n' 25 (([s3, s4, s5].drop 2).take (Tryz.prog.cellsOf 25)) = some z2 := k2
  rw [vcL] at w0
  rw [vcI] at w1
  rw [vcM] at w2
  have hy1 := congrArg Prod.fst hy
  have hz1 := congrArg Prod.fst hz
  simp only at hy1 hz1
  rw [hz1] at hy1
  subst hy1
  obtain ⟨hw1, hw2, hw3, hw4⟩ := obook_weights hw
  obtain ⟨np, rfl⟩ := one_int u0
  obtain ⟨wk, rfl⟩ := one_int w1
  obtain ⟨pb, capb, lb, rfl, nb, hb, _⟩ := rows_of2 (k := 11) boyCells (fun _ => True) (by omega) (fun _ => rfl) Tryz.underlying24 vcB (fun n cs x h => (boy_ints h).imp fun _ h => ⟨h, trivial⟩) w0
  obtain ⟨pt, capt, lt, rfl, nt, ht, hroom⟩ := rows_of2 (k := 4) trialCells (fun _ => True) (by omega) (fun _ => rfl) Tryz.underlying25 vcT (fun n cs x h => (trial_ints h).imp fun _ h => ⟨h, trivial⟩) w2
  obtain ⟨pp, capp, lp, rfl, np', hp, _⟩ := rows_of2 (k := 4) tuneCells (fun _ => True) (by omega) (fun _ => rfl) Tryz.underlying22 ocT (fun n cs x h => tune_ints h) u1
  obtain ⟨pf, capf, lf, rfl, nf', hf, _⟩ := rows_of2 (k := 3) forkCells (fun _ => True) (by omega) (fun _ => rfl) Tryz.underlying23 ocF (fun n cs x h => fork_ints h) u2
  refine ⟨⟨np, lp, pp, capp, lf, pf, capf, ⟨lb, wk, lt⟩, pb, pt, capb, capt⟩, rfl, ⟨⟨hLd, nb.elim (fun e => by rw [e]; simp) (few_boys hw3), ⟨nt.elim (fun e => by rw [e]; simp) (few_trials hw4), hroom⟩, ?_, ?_⟩, np'.elim (fun e => by rw [e]; simp) (few_tunes hw1), nf'.elim (fun e => by rw [e]; simp) (few_forks hw2), ?_, ?_⟩, hN, hR⟩
  · rcases hb with e | ⟨b, o, rfl, hz, hc⟩
    · exact .inl e
    · exact .inr ⟨b, o, rfl, hz, fun i y hy => ⟨(hc i y hy).2 0 (by omega), (hc i y hy).2 1 (by omega), (hc i y hy).2 2 (by omega), (hc i y hy).2 3 (by omega), (hc i y hy).2 4 (by omega), (hc i y hy).2 5 (by omega), (hc i y hy).2 6 (by omega), (hc i y hy).2 7 (by omega), (hc i y hy).2 8 (by omega), (hc i y hy).2 9 (by omega), (hc i y hy).2 10 (by omega)⟩⟩
  · rcases ht with e | ⟨b, o, rfl, hz, hc⟩
    · exact .inl e
    · exact .inr ⟨b, o, rfl, hz, fun i y hy => ⟨(hc i y hy).2 0 (by omega), (hc i y hy).2 1 (by omega), (hc i y hy).2 2 (by omega), (hc i y hy).2 3 (by omega)⟩⟩
  · rcases hp with e | ⟨b, o, rfl, hz, hc⟩
    · exact .inl e
    · exact .inr ⟨b, o, rfl, hz, fun i y hy => ⟨(hc i y hy).2 0 (by omega), (hc i y hy).2 1 (by omega), (hc i y hy).2 2 (by omega), (hc i y hy).2 3 (by omega)⟩⟩
  · rcases hf with e | ⟨b, o, rfl, hz, hc⟩
    · exact .inl e
    · exact .inr ⟨b, o, rfl, hz, fun i y hy => ⟨(hc i y hy).2 0 (by omega), (hc i y hy).2 1 (by omega), (hc i y hy).2 2 (by omega)⟩⟩
end Go.Proofs.YthgfbokfaidklaaGreatDoor
set_option linter.all false
namespace Go.Proofs.YthgfbokfaidklaaGreatDoor
open Go.ChangeShapes Go.WideShapes Go.ChangeAt Go.WideMaps Go.WideElems Go.RowKit Go.Deep Go.Rg
set_option maxRecDepth 100000
theorem organTurncA : Tryz.prog.cellsOf 52 = 3 := by kernel_rfl
theorem organTurnlen {α : Type} {l : List α} (h : l.length = 3) : ∃ a0 a1 a2, l = [a0, a1, a2] := by
  match l, h with
  | [a0, a1, a2], _ => exact ⟨a0, a1, a2, rfl⟩
set_option maxHeartbeats 1000000 in
theorem organTurnlifted (os : Os) (started : os.Started) (H : Type) (enc : TypeId × Value → H) :
    ReturnsInHanded {} Tryz.checked os 4 .any (fun w args => (Rows.organTurnSpec.pre enc Tryz.prog Tryz.f4 [] false w args ∧ laidMetH Tryz.prog oklaid w) ∧ sizedMet enc Tryz.prog Tryz.f4 (OpenSpec.ofChange Rows.organTurnSpec) false w args)
      (Rows.organTurnSpec.post enc Tryz.prog Tryz.f4 false true false false) := by
  refine returnsInHanded_of_change_and (C := Tryz.checked) (X := fun w _ => laidMetH Tryz.prog oklaid w) (fun _ _ _ hh h => h.of_heap hh) okown started (by kernel_rfl) Tryz.func4
    (ChangeSpec.witness_shaped (enc := enc) (C := Tryz.checked) (os := os) (X := fun w _ => laidMetH Tryz.prog oklaid w) false (World.doorLaid Tryz.prog 400 os) #[.agg #[.int .i64 0, .slice none 0 0, .slice none 0 0, .slice none 0 0, .int .i64 0, .slice none 0 0], .agg #[.int .i64 0, .int .i64 0, .int .i64 0]] 8 rfl (World.shaped_of_RefB (by kernel_rfl) (by kernel_rfl)) (by kernel_rfl) (by kernel_rfl) (by kernel_rfl) (okdoor_met os _)) ?_
  intro W base args ds gs before hval0 hW _ hwt0 hL _
  have hW' := hW
  obtain ⟨p, q, hA0, hV, rfl, hfz, hnd⟩ := hW
  have hA : DataW.TrodAll enc Tryz.prog W 0 (fun _ => true) true Tryz.f4.params.toList args.toList ds p := hA0
  have hval := hval0
  have hwt := hwt0
  rw [Tryz.params4] at hA hval hwt
  obtain ⟨v0, v1, d0, d1, p0, p1, rfl, rfl, rfl, h0, h1⟩ := trodAll_two hA
  obtain ⟨rfl, rfl⟩ := trodVars_none hV
  have hlt : ∀ x ∈ p0 ++ p1, x.block < W.heap.size := fun x hx => hW'.lt x (by simpa using hx)
  have a0 : ∀ (W' : World), Below W.heap.size W W' → DataW.Trod enc Tryz.prog W' 0 (fun b => decide (b < W.heap.size)) true 29 v0 d0 p0 :=
    fun W' hn => Below.trod vlaidOut (by kernel_rfl) (of_decide_eq_true (by kernel_rfl)) h0 hn (fun x hx => hlt x (List.mem_append_left _ hx))
  have a1 : ∀ (W' : World), Below W.heap.size W W' → DataW.Trod enc Tryz.prog W' 0 (fun b => decide (b < W.heap.size)) true 52 v1 d1 p1 :=
    fun W' hn => Below.trod vlaidOut (by kernel_rfl) (of_decide_eq_true (by kernel_rfl)) h1 hn (fun x hx => hlt x (List.mem_append_right _ hx))
  obtain ⟨X, rfl, hBook, hN, hR⟩ := obook_reads hL (hval 0 29 v0 rfl rfl) hwt h0
  obtain ⟨c1, rfl, hc1⟩ := okWide_arr Tryz.underlying52 (hval 1 52 v1 rfl rfl)
  obtain ⟨fu1, hf1⟩ := h1
  obtain ⟨xs, m1, _, _, hl1, hxl, hel⟩ := DataW.trod_array Tryz.underlying52 hf1
  rw [organTurncA] at hc1
  obtain ⟨l3⟩ := c1
  obtain ⟨m0v, m1v, m2v, rfl⟩ := organTurnlen (by simpa using hc1)
  obtain ⟨z0, z1, z2, rfl⟩ := organTurnlen hxl
  have w0 : DataW.trod enc Tryz.prog W 0 (fun _ => true) true m1 3 (([m0v, m1v, m2v].drop (0 * Tryz.prog.cellsOf 3)).take (Tryz.prog.cellsOf 3)) = some z0 := hel 0 (by omega)
  have w1 : DataW.trod enc Tryz.prog W 0 (fun _ => true) true m1 3 (([m0v, m1v, m2v].drop (1 * Tryz.prog.cellsOf 3)).take (Tryz.prog.cellsOf 3)) = some z1 := hel 1 (by omega)
  have w2 : DataW.trod enc Tryz.prog W 0 (fun _ => true) true m1 3 (([m0v, m1v, m2v].drop (2 * Tryz.prog.cellsOf 3)).take (Tryz.prog.cellsOf 3)) = some z2 := hel 2 (by omega)
  rw [vcI] at w0 w1 w2
  obtain ⟨n0, rfl⟩ := one_int w0
  obtain ⟨n1, rfl⟩ := one_int w1
  obtain ⟨n2, rfl⟩ := one_int w2
  clear w0 w1 w2 hel hf1 hl1 hc1
  have hlaw : Calls Tryz.prog 4 #[X.val, .agg #[.int .i64 n0, .int .i64 n1, .int .i64 n2]] W fun e C => e = .returned (.bool true) ∧ Kept W C := by
    cases hok : X.okB with
    | false => exact oturn_false X n0 n1 n2 W hBook hN hR hok
    | true => exact oturn_true X n0 n1 n2 W hBook hN hR hok
  refine hlaw.mono fun e W' ⟨he, hk⟩ => ?_
  subst he
  exact ⟨_, rfl, _, _, _, [], _, [], hW', trodAll_mk1 (shut_bool Tryz.underlying4 true), ⟨_, _, a0 W' hk, ⟨_, _, a1 W' hk, rfl, rfl⟩, rfl⟩, rfl, kept_but hk _, fun h => by cases h⟩

theorem organTurn_holds : Rows.OrganTurnSaid :=
  OpenClaim.holds_of_wide 4 Tryz.f4 rfl rfl rfl rfl rfl rfl rfl ⟨rfl, rfl, rfl, rfl, rfl⟩ rfl rfl rfl rfl rfl (by kernel_rfl) Tryz.func4 (by kernel_rfl)
    (of_decide_eq_true (by kernel_rfl)) (by unfold Func.isWrapper; first | (rw [if_pos (by decide +kernel)]; kernel_rfl) | (rw [if_neg (by decide +kernel)]; exact ⟨rfl, rfl⟩))
    (fun os started H enc _ => organTurnlifted os started H enc)

theorem organTurnsi0 : Tryz.prog.wantsStandIn 29 = false := by kernel_rfl
theorem organTurnsi1 : Tryz.prog.wantsStandIn 52 = false := by kernel_rfl
theorem organTurn_card_holds : Rows.OrganTurnCardSaid :=
  Claim7.holds_tied_plain_at .later [] [.data, .data, .data] true (true, "adc118102b576362af84347bc0f77ad6379f6116131371dcce160aa089cb0024") false
    organTurn_holds (fun _ h => by cases h) (by kernel_rfl) (fun _ h => by cases h) organTurn_row_tie rfl ⟨rfl, rfl⟩ (by kernel_rfl) rfl
    (fun f fn hf hfn => by
      obtain rfl : f = 4 := Option.some.inj ((show Tryz.prog.funcNamed "decani/decanilaw08.OrganTurn" = some 4 by kernel_rfl).symm.trans hf) |>.symm
      obtain rfl : fn = Tryz.f4 := (Option.some.inj (Tryz.func4.symm.trans hfn)).symm
      exact ⟨by kernel_rfl, fun j t ht => by
        rw [Tryz.params4] at ht
        match j, ht with
        | 0, ht => simp at ht; subst ht; exact organTurnsi0
        | 1, ht => simp at ht; subst ht; exact organTurnsi1
        | n + 2, ht => simp at ht⟩)
    (by kernel_rfl)
#print axioms organTurn_card_holds
end Go.Proofs.YthgfbokfaidklaaGreatDoor
