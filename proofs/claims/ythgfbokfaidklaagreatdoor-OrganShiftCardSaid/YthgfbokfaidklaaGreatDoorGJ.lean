/- If all forks read so much more, all pipes are so much higher, and two as far apart, as long as no pipe can come to the end of what can be, whatever lies in the arguments: the law returns true. The package-level variables voice.nothing, voice.bounds and organ.nothing hold what their initialisers lay (tied)., whatever lies in the arguments: the law returns true. The package-level variables voice.nothing, voice.bounds and organ.nothing hold what their initialisers lay (tied). -/
import Derived.Test.YthgfbokfaidklaaGreatDoorGI
import Derived.Lib.SmallJoins
import Derived.Test.YthgfbokfaidklaaGreatDoorCards
import Derived.Test.YthgfbokfaidklaaGreatDoorTie
import Derived.WalkKit
import Derived.ProofKit
import Derived.OpenShut
import Derived.LaidMore
import Derived.Lib.LaidTab
import Derived.Stop.Joined
import Derived.Carry
import Derived.SizedLaws
import Derived.Deep.Slices
import Derived.Deep.Strs
set_option linter.all false
set_option linter.all false
namespace Go.Proofs.YthgfbokfaidklaaGreatDoor
open Go.ChangeShapes Go.WideShapes Go.ChangeAt Go.WideMaps Go.WideElems Go.RowKit Go.Deep Go.Rg
set_option maxRecDepth 100000

theorem vlaidOut : laidOutB Tryz.prog = true := by kernel_rfl
theorem okown : ownKnob Tryz.prog.godebug = none := by kernel_rfl
theorem okcI : Tryz.prog.cellsOf 3 = 1 := by kernel_rfl
theorem okg_voice_nothing : Tryz.prog.globalNamed "decani/voice.nothing" = some 1 := by kernel_rfl
theorem okt_voice_nothing : (Tryz.prog.globals[1]?).map (·.type) = some 98 := by kernel_rfl
theorem okc_voice_nothing : Tryz.prog.cellsOf 98 = 5 := by kernel_rfl
theorem okg_voice_bounds : Tryz.prog.globalNamed "decani/voice.bounds" = some 2 := by kernel_rfl
theorem okt_voice_bounds : (Tryz.prog.globals[2]?).map (·.type) = some 166 := by kernel_rfl
theorem oks_voice_bounds : Tryz.prog.cellsOf 165 = 2 := by kernel_rfl
theorem okg_organ_nothing : Tryz.prog.globalNamed "decani/organ.nothing" = some 0 := by kernel_rfl
theorem okt_organ_nothing : (Tryz.prog.globals[0]?).map (·.type) = some 117 := by kernel_rfl
theorem okc_organ_nothing : Tryz.prog.cellsOf 117 = 5 := by kernel_rfl
def oklaid : List (String × DataW Unit) := [("decani/voice.nothing", Rows.laid_decani_voice_nothing), ("decani/voice.bounds", Rows.laid_decani_voice_bounds), ("decani/organ.nothing", Rows.laid_decani_organ_nothing)]
theorem okdoor_met (os : Os) (args : Array Value) : laidMetH Tryz.prog oklaid ((World.doorLaid Tryz.prog 400 os).forCall (fun _ _ => 0) ⟨#[], args, []⟩).memory :=
  laidMetH_of_parts3 (fuel := 8) (laidMet_of_run' 8 (by kernel_rfl) (by kernel_rfl)) (by kernel_rfl) (by kernel_rfl)

/-- An array of pairs of integers, cell for cell. -/
theorem pairs_of_trod {H : Type} {enc : TypeId × Value → H} {P : Program} {w : World} {base : Nat} {sp : Nat → Bool} {held : Bool} {fuel : Nat} {t e u : TypeId} {n : Nat} {k : IntKind} {f0 f1 : Field} {cs : List Value} {l : List (Int × Int)} {q : List MemPlace}
    (ht : P.underlying t = some (.array n e)) (he : P.underlying e = some (.struct #[f0, f1])) (hu : P.underlying u = some (.int k)) (h0 : f0.type = u) (h1 : f1.type = u) (o0 : f0.offset = 0) (o1 : f1.offset = 1) (ce : P.cellsOf e = 2) (cu : P.cellsOf u = 1)
    (h : DataW.trod enc P w base sp held fuel t cs = some (.agg (l.map fun p => .agg [.lit (.int k p.1), .lit (.int k p.2)]), q)) : ∀ (i : Nat) (p : Int × Int), l[i]? = some p → cs[2 * i]? = some (.int k p.1) ∧ cs[2 * i + 1]? = some (.int k p.2) := by
  intro i p hp
  obtain ⟨xs, m, _, hx, hl, hn, hel⟩ := DataW.trod_array ht h
  simp only [Prod.mk.injEq, DataW.agg.injEq] at hx
  have hi : i < l.length := by
    rcases Nat.lt_or_ge i l.length with h' | h'
    · exact h'
    · rw [List.getElem?_eq_none h'] at hp; cases hp
  have hxl : xs.length = l.length := by
    have := congrArg List.length hx.1
    simpa using this.symm
  obtain ⟨y, hy⟩ : ∃ y, xs[i]? = some y := ⟨xs[i], by simp [show i < xs.length by omega]⟩
  have hy1 : y.1 = .agg [.lit (.int k p.1), .lit (.int k p.2)] := by
    have := congrArg (fun z => z[i]?) hx.1
    simp only [List.getElem?_map, hp, hy, Option.map_some, Option.some.injEq] at this
    exact this.symm
  have hE := hel i (by omega)
  rw [hy, ce] at hE
  obtain ⟨y0, y1, m', hyy, _, t0, t1⟩ := trod_struct2 he hE
  rw [h0, o0, cu] at t0
  rw [h1, o1, cu] at t1
  obtain ⟨z0, c0, e0, _⟩ := DataW.trod_int hu t0
  obtain ⟨z1, c1, e1, _⟩ := DataW.trod_int hu t1
  rw [hyy, e0, e1] at hy1
  simp only [DataW.agg.injEq, List.cons.injEq, DataW.lit.injEq, Lit.int.injEq, true_and, and_true] at hy1
  obtain ⟨rfl, rfl⟩ := hy1
  refine ⟨?_, ?_⟩
  · have := congrArg (fun z => z[0]?) c0
    simp [List.getElem?_take, List.getElem?_drop] at this
    rw [Nat.mul_comm]
    exact this
  · have := congrArg (fun z => z[0]?) c1
    simp [List.getElem?_take, List.getElem?_drop] at this
    rw [Nat.mul_comm]
    exact this

def okl_voice_nothing : List Int := [(-1), (-1), (-1), (-1), (-1)]
def okp_voice_bounds : List (Int × Int) := [(40, 2), (40, 2), (2, 1), (6, 2), (9, 3)]
def okl_voice_bounds : List Int := [40, 2, 40, 2, 2, 1, 6, 2, 9, 3]
def okl_organ_nothing : List Int := [(-61), (-61), (-61), (-61), (-61)]

theorem okof_laid {W : World} (h : laidMetH Tryz.prog oklaid W) : (∀ i, i < 5 → W.cell? ⟨1, i, none⟩ = some (.int .i64 (okl_voice_nothing.getD i 0))) ∧ (∀ i, i < 10 → W.cell? ⟨2, i, none⟩ = some (.int .i64 (okl_voice_bounds.getD i 0))) ∧ (∀ i, i < 5 → W.cell? ⟨0, i, none⟩ = some (.int .i64 (okl_organ_nothing.getD i 0))) := by
  rw [MakeChecks.laidMetH_plain _ _ _ (by kernel_rfl)] at h
  obtain ⟨ps, ⟨g0, t0, cs0, f0, p0, q0, hg0, ht0, hv0, hd0, ⟨⟨g1, t1, cs1, f1, p1, q1, hg1, ht1, hv1, hd1, ⟨⟨g2, t2, cs2, f2, p2, q2, hg2, ht2, hv2, hd2, _⟩, _⟩⟩, _⟩⟩, _⟩ := h
  obtain rfl := Option.some.inj (okg_voice_nothing.symm.trans hg0)
  obtain rfl := Option.some.inj (okt_voice_nothing.symm.trans ht0)
  obtain rfl := Option.some.inj (okg_voice_bounds.symm.trans hg1)
  obtain rfl := Option.some.inj (okt_voice_bounds.symm.trans ht1)
  obtain rfl := Option.some.inj (okg_organ_nothing.symm.trans hg2)
  obtain rfl := Option.some.inj (okt_organ_nothing.symm.trans ht2)
  refine ⟨?_, ?_, ?_⟩
  · have hc := Lib.cells_of_tab (zs := okl_voice_nothing) (k := .i64) Tryz.underlying98 Tryz.underlying3 okcI okc_voice_nothing hd0
    have cell : ∀ i v, cs0.toList[i]? = some v → W.cell? ⟨1, i, none⟩ = some v := fun i v hv' => by
      have := World.var?_cell hg0 hv0 i
      rw [this, ← Array.getElem?_toList]
      exact hv'
    intro i hi
    match i, hi with
    | 0, _ => exact cell 0 _ (by simp [hc, okl_voice_nothing])
    | 1, _ => exact cell 1 _ (by simp [hc, okl_voice_nothing])
    | 2, _ => exact cell 2 _ (by simp [hc, okl_voice_nothing])
    | 3, _ => exact cell 3 _ (by simp [hc, okl_voice_nothing])
    | 4, _ => exact cell 4 _ (by simp [hc, okl_voice_nothing])
  · have hp := pairs_of_trod (l := okp_voice_bounds) Tryz.underlying166 Tryz.underlying165 Tryz.underlying3 rfl rfl rfl rfl oks_voice_bounds okcI hd1
    have cell : ∀ i v, cs1.toList[i]? = some v → W.cell? ⟨2, i, none⟩ = some v := fun i v hv' => by
      have := World.var?_cell hg1 hv1 i
      rw [this, ← Array.getElem?_toList]
      exact hv'
    intro i hi
    match i, hi with
    | 0, _ => exact cell 0 _ (hp 0 _ rfl).1
    | 1, _ => exact cell 1 _ (hp 0 _ rfl).2
    | 2, _ => exact cell 2 _ (hp 1 _ rfl).1
    | 3, _ => exact cell 3 _ (hp 1 _ rfl).2
    | 4, _ => exact cell 4 _ (hp 2 _ rfl).1
    | 5, _ => exact cell 5 _ (hp 2 _ rfl).2
    | 6, _ => exact cell 6 _ (hp 3 _ rfl).1
    | 7, _ => exact cell 7 _ (hp 3 _ rfl).2
    | 8, _ => exact cell 8 _ (hp 4 _ rfl).1
    | 9, _ => exact cell 9 _ (hp 4 _ rfl).2
  · have hc := Lib.cells_of_tab (zs := okl_organ_nothing) (k := .i64) Tryz.underlying117 Tryz.underlying3 okcI okc_organ_nothing hd2
    have cell : ∀ i v, cs2.toList[i]? = some v → W.cell? ⟨0, i, none⟩ = some v := fun i v hv' => by
      have := World.var?_cell hg2 hv2 i
      rw [this, ← Array.getElem?_toList]
      exact hv'
    intro i hi
    match i, hi with
    | 0, _ => exact cell 0 _ (by simp [hc, okl_organ_nothing])
    | 1, _ => exact cell 1 _ (by simp [hc, okl_organ_nothing])
    | 2, _ => exact cell 2 _ (by simp [hc, okl_organ_nothing])
    | 3, _ => exact cell 3 _ (by simp [hc, okl_organ_nothing])
    | 4, _ => exact cell 4 _ (by simp [hc, okl_organ_nothing])
theorem vcI : Tryz.prog.cellsOf 3 = 1 := by kernel_rfl
theorem vcS : Tryz.prog.cellsOf 35 = 2 := by kernel_rfl
theorem vcB : Tryz.prog.cellsOf 140 = 11 := by kernel_rfl
theorem vcT : Tryz.prog.cellsOf 143 = 4 := by kernel_rfl
theorem vcL : Tryz.prog.cellsOf 24 = 1 := by kernel_rfl
theorem vcM : Tryz.prog.cellsOf 25 = 1 := by kernel_rfl
theorem vcK : Tryz.prog.cellsOf 27 = 3 := by kernel_rfl
theorem ocT : Tryz.prog.cellsOf 67 = 4 := by kernel_rfl
theorem ocF : Tryz.prog.cellsOf 63 = 3 := by kernel_rfl
theorem ocL : Tryz.prog.cellsOf 22 = 1 := by kernel_rfl
theorem ocM : Tryz.prog.cellsOf 23 = 1 := by kernel_rfl
theorem ocK : Tryz.prog.cellsOf 29 = 6 := by kernel_rfl
section
variable {H : Type} {enc : TypeId × Value → H} {w : World} {base : Nat} {sp : Nat → Bool} {held : Bool} {fuel : Nat} {cs : List Value} {x : DataW H × List MemPlace}
theorem one_int {c : Value} (h : DataW.trod enc Tryz.prog w base sp held fuel 3 [c] = some x) : ∃ n, c = .int .i64 n := by
  obtain ⟨z, e, _⟩ := DataW.trod_int Tryz.underlying3 h
  simp at e
  exact ⟨z, e⟩
theorem span_ints {c d : Value} (h : DataW.trod enc Tryz.prog w base sp held fuel 35 [c, d] = some x) : ∃ a b, c = .int .i64 a ∧ d = .int .i64 b := by
  obtain ⟨xs, n, _, hx, hl, hn, hf⟩ := DataW.trod_struct Tryz.underlying35 h
  match xs, hn with
  | [y0, y1], _ =>
    have t0 : DataW.trod enc Tryz.prog w base sp held n 3 (([c, d].drop 0).take (Tryz.prog.cellsOf 3)) = some y0 := hf 0 _ rfl
    have t1 : DataW.trod enc Tryz.prog w base sp held n 3 (([c, d].drop 1).take (Tryz.prog.cellsOf 3)) = some y1 := hf 1 _ rfl
    rw [vcI] at t0 t1
    obtain ⟨a, rfl⟩ := one_int t0
    obtain ⟨b, rfl⟩ := one_int t1
    exact ⟨a, b, rfl, rfl⟩
def boyCells (x : Boy) : List Value := [.int .i64 x.l0, .int .i64 x.l1, .int .i64 x.h0, .int .i64 x.h1, .int .i64 x.g0, .int .i64 x.g1, .int .i64 x.t0, .int .i64 x.t1, .int .i64 x.ls, .int .i64 x.b0, .int .i64 x.b1]
theorem boy_ints (h : DataW.trod enc Tryz.prog w base sp held fuel 140 cs = some x) : ∃ b : Boy, cs = boyCells b := by
  obtain ⟨xs, n, _, hx, hl, hn, hf⟩ := DataW.trod_struct Tryz.underlying140 h
  rw [vcB] at hl
  match cs, hl, xs, hn with
  | [c0, c1, c2, c3, c4, c5, c6, c7, c8, c9, c10], _, [y0, y1, y2, y3, y4, y5], _ =>
    have t0 : DataW.trod enc Tryz.prog w base sp held n 35 (([c0, c1, c2, c3, c4, c5, c6, c7, c8, c9, c10].drop 0).take (Tryz.prog.cellsOf 35)) = some y0 := hf 0 _ rfl
    have t1 : DataW.trod enc Tryz.prog w base sp held n 35 (([c0, c1, c2, c3, c4, c5, c6, c7, c8, c9, c10].drop 2).take (Tryz.prog.cellsOf 35)) = some y1 := hf 1 _ rfl
    have t2 : DataW.trod enc Tryz.prog w base sp held n 35 (([c0, c1, c2, c3, c4, c5, c6, c7, c8, c9, c10].drop 4).take (Tryz.prog.cellsOf 35)) = some y2 := hf 2 _ rfl
    have t3 : DataW.trod enc Tryz.prog w base sp held n 35 (([c0, c1, c2, c3, c4, c5, c6, c7, c8, c9, c10].drop 6).take (Tryz.prog.cellsOf 35)) = some y3 := hf 3 _ rfl
    have t4 : DataW.trod enc Tryz.prog w base sp held n 3 (([c0, c1, c2, c3, c4, c5, c6, c7, c8, c9, c10].drop 8).take (Tryz.prog.cellsOf 3)) = some y4 := hf 4 _ rfl
    have t5 : DataW.trod enc Tryz.prog w base sp held n 35 (([c0, c1, c2, c3, c4, c5, c6, c7, c8, c9, c10].drop 9).take (Tryz.prog.cellsOf 35)) = some y5 := hf 5 _ rfl
    rw [vcS] at t0 t1 t2 t3 t5
    rw [vcI] at t4
    obtain ⟨a0, a1, rfl, rfl⟩ := span_ints t0
    obtain ⟨a2, a3, rfl, rfl⟩ := span_ints t1
    obtain ⟨a4, a5, rfl, rfl⟩ := span_ints t2
    obtain ⟨a6, a7, rfl, rfl⟩ := span_ints t3
    obtain ⟨a8, rfl⟩ := one_int t4
    obtain ⟨a9, a10, rfl, rfl⟩ := span_ints t5
    exact ⟨⟨a0, a1, a2, a3, a4, a5, a6, a7, a8, a9, a10⟩, rfl⟩
def trialCells (t : Trial) : List Value := [.int .i64 t.boy, .int .i64 t.week, .int .i64 t.note, .int .i64 t.sang]
theorem trial_ints (h : DataW.trod enc Tryz.prog w base sp held fuel 143 cs = some x) : ∃ t : Trial, cs = trialCells t := by
  obtain ⟨xs, n, _, hx, hl, hn, hf⟩ := DataW.trod_struct Tryz.underlying143 h
  rw [vcT] at hl
  match cs, hl, xs, hn with
  | [c0, c1, c2, c3], _, [y0, y1, y2, y3], _ =>
    have t0 : DataW.trod enc Tryz.prog w base sp held n 3 (([c0, c1, c2, c3].drop 0).take (Tryz.prog.cellsOf 3)) = some y0 := hf 0 _ rfl
    have t1 : DataW.trod enc Tryz.prog w base sp held n 3 (([c0, c1, c2, c3].drop 1).take (Tryz.prog.cellsOf 3)) = some y1 := hf 1 _ rfl
    have t2 : DataW.trod enc Tryz.prog w base sp held n 3 (([c0, c1, c2, c3].drop 2).take (Tryz.prog.cellsOf 3)) = some y2 := hf 2 _ rfl
    have t3 : DataW.trod enc Tryz.prog w base sp held n 3 (([c0, c1, c2, c3].drop 3).take (Tryz.prog.cellsOf 3)) = some y3 := hf 3 _ rfl
    rw [vcI] at t0 t1 t2 t3
    obtain ⟨a0, rfl⟩ := one_int t0
    obtain ⟨a1, rfl⟩ := one_int t1
    obtain ⟨a2, rfl⟩ := one_int t2
    obtain ⟨a3, rfl⟩ := one_int t3
    exact ⟨⟨a0, a1, a2, a3⟩, rfl⟩
/-- a slice of structs, opened: each has the cells f of something of which Q is so -/
theorem rows_of2 {α : Type} [Inhabited α] {t e : TypeId} {k : Nat} (f : α → List Value) (Q : α → Prop) (hk : 0 < k) (hfl : ∀ y, (f y).length = k) (ht : Tryz.prog.underlying t = some (.slice e)) (hc : Tryz.prog.cellsOf e = k)
    (hel : ∀ (n : Nat) (cs : List Value) (x : DataW H × List MemPlace), DataW.trod enc Tryz.prog w base (fun _ => true) held n e cs = some x → ∃ y, cs = f y ∧ Q y)
    {c : Value} (h : DataW.trod enc Tryz.prog w base (fun _ => true) held fuel t [c] = some x) :
    ∃ (p : Option Addr) (cap : Nat) (l : List α), c = .slice p l.length cap ∧ (l = [] ∨ ∃ es ss, x.1 = .slice es ss ∧ es.length = l.length) ∧ (l = [] ∨ ∃ b o, p = some ⟨b, o, none⟩ ∧ b < w.heap.size ∧ ∀ i y, l[i]? = some y → Q y ∧ ∀ j, j < k → w.cell? ⟨b, o + i * k + j, none⟩ = (f y)[j]?) ∧ l.length ≤ cap := by
  rcases open_slice ht h with ⟨h0, _⟩ | ⟨a, len, cap, m, n, D, Pl, hcs, hb, hl, hm, hmm, hx, hi⟩
  · simp at h0
    exact ⟨none, 0, [], h0, .inl rfl, .inl rfl, Nat.le_refl _⟩
  · simp at hcs hmm
    rw [hc] at hi
    obtain ⟨g, hg⟩ := choose_lt (n := len) (p := fun i y => w.cells? base (a.add (i * k)) k = some (f y) ∧ Q y) (fun i hil => by
      obtain ⟨cs', h1, h2⟩ := hi i (by omega)
      obtain ⟨y, rfl, hq⟩ := hel _ _ _ h2
      exact ⟨y, h1, hq⟩)
    refine ⟨some a, cap, (List.range len).map g, by simpa using hcs, .inr ⟨_, _, congrArg Prod.fst hx, by simp⟩, ?_, by simpa using hl⟩
    by_cases h0 : len = 0
    · exact .inl (by simp [h0])
    right
    have hcell : ∀ i, i < len → ∀ j, j < k → w.cell? ((a.add (i * k)).add j) = (f (g i))[j]? := fun i hil j hj => (World.cells?_some (hg i hil).1).2.2 j hj
    have hz := hcell 0 (by omega) 0 hk
    rw [Nat.zero_mul] at hz
    have he : ((a.add 0).add 0) = a := by simp [Addr.add]
    rw [he, List.getElem?_eq_getElem (by rw [hfl]; exact hk)] at hz
    have hsp := World.cell?_spot hz
    obtain ⟨b, o, s⟩ := a
    simp only at hsp
    subst hsp
    refine ⟨b, o, rfl, Go.Ai.lt_of_cell hz, fun i y hy => ?_⟩
    simp only [List.getElem?_map, Option.map_eq_some_iff] at hy
    obtain ⟨i', hi', rfl⟩ := hy
    obtain ⟨hil, rfl⟩ : i < len ∧ i' = i := by
      have := List.getElem?_eq_some_iff.1 hi'
      obtain ⟨h1, h2⟩ := this
      simp at h1 h2
      exact ⟨h1, h2.symm⟩
    refine ⟨(hg _ hil).2, fun j hj => ?_⟩
    have := hcell _ hil j hj
    rw [add_plain, add_plain] at this
    exact this
def tuneCells (x : Tune) : List Value := [.int .i64 x.src, .int .i64 x.dst, .int .i64 x.off, .int .i64 x.err]
theorem tune_ints (h : DataW.trod enc Tryz.prog w base sp held fuel 67 cs = some x) : ∃ b : Tune, cs = tuneCells b ∧ True := by
  obtain ⟨xs, n, _, hx, hl, hn, hf⟩ := DataW.trod_struct Tryz.underlying67 h
  rw [ocT] at hl
  match cs, hl, xs, hn with
  | [c0, c1, c2, c3], _, [y0, y1, y2, y3], _ =>
    have t0 : DataW.trod enc Tryz.prog w base sp held n 3 (([c0, c1, c2, c3].drop 0).take (Tryz.prog.cellsOf 3)) = some y0 := hf 0 _ rfl
    have t1 : DataW.trod enc Tryz.prog w base sp held n 3 (([c0, c1, c2, c3].drop 1).take (Tryz.prog.cellsOf 3)) = some y1 := hf 1 _ rfl
    have t2 : DataW.trod enc Tryz.prog w base sp held n 3 (([c0, c1, c2, c3].drop 2).take (Tryz.prog.cellsOf 3)) = some y2 := hf 2 _ rfl
    have t3 : DataW.trod enc Tryz.prog w base sp held n 3 (([c0, c1, c2, c3].drop 3).take (Tryz.prog.cellsOf 3)) = some y3 := hf 3 _ rfl
    rw [vcI] at t0 t1 t2 t3
    obtain ⟨a0, rfl⟩ := one_int t0
    obtain ⟨a1, rfl⟩ := one_int t1
    obtain ⟨a2, rfl⟩ := one_int t2
    obtain ⟨a3, rfl⟩ := one_int t3
    exact ⟨⟨a0, a1, a2, a3⟩, rfl, trivial⟩
def forkCells (x : Fork) : List Value := [.int .i64 x.pipe, .int .i64 x.read, .int .i64 x.err]
theorem fork_ints (h : DataW.trod enc Tryz.prog w base sp held fuel 63 cs = some x) : ∃ b : Fork, cs = forkCells b ∧ True := by
  obtain ⟨xs, n, _, hx, hl, hn, hf⟩ := DataW.trod_struct Tryz.underlying63 h
  rw [ocF] at hl
  match cs, hl, xs, hn with
  | [c0, c1, c2], _, [y0, y1, y2], _ =>
    have t0 : DataW.trod enc Tryz.prog w base sp held n 3 (([c0, c1, c2].drop 0).take (Tryz.prog.cellsOf 3)) = some y0 := hf 0 _ rfl
    have t1 : DataW.trod enc Tryz.prog w base sp held n 3 (([c0, c1, c2].drop 1).take (Tryz.prog.cellsOf 3)) = some y1 := hf 1 _ rfl
    have t2 : DataW.trod enc Tryz.prog w base sp held n 3 (([c0, c1, c2].drop 2).take (Tryz.prog.cellsOf 3)) = some y2 := hf 2 _ rfl
    rw [vcI] at t0 t1 t2
    obtain ⟨a0, rfl⟩ := one_int t0
    obtain ⟨a1, rfl⟩ := one_int t1
    obtain ⟨a2, rfl⟩ := one_int t2
    exact ⟨⟨a0, a1, a2⟩, rfl, trivial⟩
end
theorem kept_but {W W' : World} (hb : Below W.heap.size W W') (may : MemPlace → Prop) : W.keptBut W' may := by
  refine ⟨hb.os, hb.output, fun i hi => ?_⟩
  rw [hb.block i hi]
  cases W.heap[i]? with
  | none => rfl
  | some o => cases o <;> first | exact ⟨rfl, rfl, rfl, fun _ _ => rfl⟩ | exact .inr ⟨rfl, rfl⟩ | rfl

theorem okWide_arr {P : Program} {w : World} {r : Reach} {base n : Nat} {t e : TypeId} {v : Value} (ht : P.underlying t = some (.array n e)) (h : Value.okWide P w r base t v) : ∃ cs, v = .agg cs ∧ cs.size = P.cellsOf t := by
  simp only [Value.okWide, ht] at h
  obtain ⟨cs, h1, h2, _⟩ := h
  exact ⟨cs, h1, h2⟩
theorem vbB : Tryz.prog.bytesOf 140 = 88 := by kernel_rfl
theorem vbT : Tryz.prog.bytesOf 143 = 32 := by kernel_rfl
theorem few_boys {H : Type} {y : DataW H} {k : Nat} (hw : ∀ n ∈ y.weights Tryz.prog 24, n ≤ reachBytes) (h : ∃ es ss, y = .slice es ss ∧ es.length = k) : k ≤ 140737488355328 := by
  obtain ⟨es, ss, rfl, rfl⟩ := h
  have := hw ((es.length + ss.length) * Tryz.prog.bytesOf 140) (by simp [DataW.weights, Tryz.underlying24])
  rw [vbB] at this
  have := reachBytes_lt
  omega
theorem few_trials {H : Type} {y : DataW H} {k : Nat} (hw : ∀ n ∈ y.weights Tryz.prog 25, n ≤ reachBytes) (h : ∃ es ss, y = .slice es ss ∧ es.length = k) : k ≤ 140737488355328 := by
  obtain ⟨es, ss, rfl, rfl⟩ := h
  have := hw ((es.length + ss.length) * Tryz.prog.bytesOf 143) (by simp [DataW.weights, Tryz.underlying25])
  rw [vbT] at this
  have := reachBytes_lt
  omega
theorem obT : Tryz.prog.bytesOf 67 = 32 := by kernel_rfl
theorem obF : Tryz.prog.bytesOf 63 = 24 := by kernel_rfl
theorem few_tunes {H : Type} {y : DataW H} {k : Nat} (hw : ∀ n ∈ y.weights Tryz.prog 22, n ≤ reachBytes) (h : ∃ es ss, y = .slice es ss ∧ es.length = k) : k ≤ 140737488355328 := by
  obtain ⟨es, ss, rfl, rfl⟩ := h
  have := hw ((es.length + ss.length) * Tryz.prog.bytesOf 67) (by simp [DataW.weights, Tryz.underlying22])
  rw [obT] at this
  have := reachBytes_lt
  omega
theorem few_forks {H : Type} {y : DataW H} {k : Nat} (hw : ∀ n ∈ y.weights Tryz.prog 23, n ≤ reachBytes) (h : ∃ es ss, y = .slice es ss ∧ es.length = k) : k ≤ 140737488355328 := by
  obtain ⟨es, ss, rfl, rfl⟩ := h
  have := hw ((es.length + ss.length) * Tryz.prog.bytesOf 63) (by simp [DataW.weights, Tryz.underlying23])
  rw [obF] at this
  have := reachBytes_lt
  omega
theorem obook_weights {H : Type} {y0 y1 y2 z0 z1 z2 : DataW H} {ts : List TypeId} {ds : List (DataW H)} (h : (DataW.weightsEach Tryz.prog (29 :: ts) (.agg [z0, z1, z2, .agg [y0, y1, y2]] :: ds)).all (· ≤ reachBytes) = true) :
    (∀ n ∈ z1.weights Tryz.prog 22, n ≤ reachBytes) ∧ (∀ n ∈ z2.weights Tryz.prog 23, n ≤ reachBytes) ∧ (∀ n ∈ y0.weights Tryz.prog 24, n ≤ reachBytes) ∧ (∀ n ∈ y2.weights Tryz.prog 25, n ≤ reachBytes) := by
  have hall := fun n hn => of_decide_eq_true (List.all_eq_true.1 h n hn)
  have hin : ∀ n, n ∈ (DataW.agg [z0, z1, z2, .agg [y0, y1, y2]]).weights Tryz.prog 29 → n ≤ reachBytes := fun n hn => hall n (DataW.weights_mem_each (j := 0) rfl rfl n hn)
  have hv : ∀ n, n ∈ (DataW.agg [y0, y1, y2]).weights Tryz.prog 27 → n ≤ reachBytes := fun n hn => hin n (by
    simp only [DataW.weights, Tryz.underlying29]
    exact DataW.weights_mem_each (j := 3) rfl rfl n hn)
  refine ⟨fun n hn => hin n ?_, fun n hn => hin n ?_, fun n hn => hv n ?_, fun n hn => hv n ?_⟩
  · simp only [DataW.weights, Tryz.underlying29]
    exact DataW.weights_mem_each (j := 1) rfl rfl n hn
  · simp only [DataW.weights, Tryz.underlying29]
    exact DataW.weights_mem_each (j := 2) rfl rfl n hn
  · simp only [DataW.weights, Tryz.underlying27]
    exact DataW.weights_mem_each (j := 0) rfl rfl n hn
  · simp only [DataW.weights, Tryz.underlying27]
    exact DataW.weights_mem_each (j := 2) rfl rfl n hn
theorem len6 {α : Type} {l : List α} (h : l.length = 6) : ∃ a b c d e f, l = [a, b, c, d, e, f] := by
  match l, h with
  | [a, b, c, d, e, f], _ => exact ⟨a, b, c, d, e, f, rfl⟩

/-- a book of an organ, as the row reads it -/
theorem obook_reads {H : Type} {enc : TypeId × Value → H} {W : World} {v : Value} {d : DataW H} {q : List MemPlace} {ts : List TypeId} {ds : List (DataW H)} {r : Reach} {base' : Nat} (hL : laidMetH Tryz.prog oklaid W)
    (hval : Value.okWide Tryz.prog W r base' 29 v) (hw : (DataW.weightsEach Tryz.prog (29 :: ts) (d :: ds)).all (· ≤ reachBytes) = true)
    (h : DataW.Trod enc Tryz.prog W 0 (fun _ => true) true 29 v d q) : ∃ X : OBook, v = X.val ∧ OBookAt W X ∧ Nothing W ∧ ONothing W := by
  obtain ⟨l1, l2, l3⟩ := okof_laid hL
  have hN : Nothing W := fun i hi => (l1 i hi).trans (by match i, hi with | 0, _ => rfl | 1, _ => rfl | 2, _ => rfl | 3, _ => rfl | 4, _ => rfl)
  have hR : ONothing W := fun i hi => (l3 i hi).trans (by match i, hi with | 0, _ => rfl | 1, _ => rfl | 2, _ => rfl | 3, _ => rfl | 4, _ => rfl)
  have hLd : Laid W := ⟨Go.Ai.lt_of_cell (l2 0 (by omega)), l2 0 (by omega), l2 1 (by omega), l2 2 (by omega), l2 3 (by omega), l2 4 (by omega), l2 5 (by omega), l2 6 (by omega), l2 7 (by omega), l2 8 (by omega), l2 9 (by omega)⟩
  obtain ⟨c0, rfl, hc0⟩ := okWide_struct Tryz.underlying29 hval
  obtain ⟨fu0, hf0⟩ := h
  obtain ⟨x0, x1, x2, x3, n, hy, hl0, t0, t1, t2, t3⟩ := Go.Joins.trod_struct4 Tryz.underlying29 hf0
  rw [ocK] at hc0
  obtain ⟨lc⟩ := c0
  obtain ⟨s0, s1, s2, s3, s4, s5, rfl⟩ := len6 (by simpa using hc0)
  clear hc0 hl0 hf0
  have u0 : DataW.trod enc Tryz.prog W 0 (fun _ => true) true n 3 (([s0, s1, s2, s3, s4, s5].drop 0).take (Tryz.prog.cellsOf 3)) = some x0 := t0
  have u1 : DataW.trod enc Tryz.prog W 0 (fun _ => true) true n 22 (([s0, s1, s2, s3, s4, s5].drop 1).take (Tryz.prog.cellsOf 22)) = some x1 := t1
  have u2 : DataW.trod enc Tryz.prog W 0 (fun _ => true) true n 23 (([s0, s1, s2, s3, s4, s5].drop 2).take (Tryz.prog.cellsOf 23)) = some x2 := t2
  have u3 : DataW.trod enc Tryz.prog W 0 (fun _ => true) true n 27 (([s0, s1, s2, s3, s4, s5].drop 3).take (Tryz.prog.cellsOf 27)) = some x3 := t3
  rw [vcI] at u0
  rw [ocL] at u1
  rw [ocM] at u2
  rw [vcK] at u3
  have u3' : DataW.trod enc Tryz.prog W 0 (fun _ => true) true n 27 [s3, s4, s5] = some x3 := u3
  obtain ⟨z0, z1, z2, n', hz, _, k0, k1, k2⟩ := trod_struct3 Tryz.underlying27 u3'
  have w0 : DataW.trod enc Tryz.prog W 0 (fun _ => true) true n' 24 (([s3, s4, s5].drop 0).take (Tryz.prog.cellsOf 24)) = some z0 := k0
  have w1 : DataW.trod enc Tryz.prog W 0 (fun _ => true) true n' 3 (([s3, s4, s5].drop 1).take (Tryz.prog.cellsOf 3)) = some z1 := k1
  have w2 : DataW.trod enc Tryz.prog W 0 (fun _ => true) true n' 25 (([s3, s4, s5].drop 2).take (Tryz.prog.cellsOf 25)) = some z2 := k2
  rw [vcL] at w0
  rw [vcI] at w1
  rw [vcM] at w2
  have hy1 := congrArg Prod.fst hy
  have hz1 := congrArg Prod.fst hz
  simp only at hy1 hz1
  rw [hz1] at hy1
  subst hy1
  obtain ⟨hw1, hw2, hw3, hw4⟩ := obook_weights hw
  obtain ⟨np, rfl⟩ := one_int u0
  obtain ⟨wk, rfl⟩ := one_int w1
  obtain ⟨pb, capb, lb, rfl, nb, hb, _⟩ := rows_of2 (k := 11) boyCells (fun _ => True) (by omega) (fun _ => rfl) Tryz.underlying24 vcB (fun n cs x h => (boy_ints h).imp fun _ h => ⟨h, trivial⟩) w0
  obtain ⟨pt, capt, lt, rfl, nt, ht, hroom⟩ := rows_of2 (k := 4) trialCells (fun _ => True) (by omega) (fun _ => rfl) Tryz.underlying25 vcT (fun n cs x h => (trial_ints h).imp fun _ h => ⟨h, trivial⟩) w2
  obtain ⟨pp, capp, lp, rfl, np', hp, _⟩ := rows_of2 (k := 4) tuneCells (fun _ => True) (by omega) (fun _ => rfl) Tryz.underlying22 ocT (fun n cs x h => tune_ints h) u1
  obtain ⟨pf, capf, lf, rfl, nf', hf, _⟩ := rows_of2 (k := 3) forkCells (fun _ => True) (by omega) (fun _ => rfl) Tryz.underlying23 ocF (fun n cs x h => fork_ints h) u2
  refine ⟨⟨np, lp, pp, capp, lf, pf, capf, ⟨lb, wk, lt⟩, pb, pt, capb, capt⟩, rfl, ⟨⟨hLd, nb.elim (fun e => by rw [e]; simp) (few_boys hw3), ⟨nt.elim (fun e => by rw [e]; simp) (few_trials hw4), hroom⟩, ?_, ?_⟩, np'.elim (fun e => by rw [e]; simp) (few_tunes hw1), nf'.elim (fun e => by rw [e]; simp) (few_forks hw2), ?_, ?_⟩, hN, hR⟩
  · rcases hb with e | ⟨b, o, rfl, hz, hc⟩
    · exact .inl e
    · exact .inr ⟨b, o, rfl, hz, fun i y hy => ⟨(hc i y hy).2 0 (by omega), (hc i y hy).2 1 (by omega), (hc i y hy).2 2 (by omega), (hc i y hy).2 3 (by omega), (hc i y hy).2 4 (by omega), (hc i y hy).2 5 (by omega), (hc i y hy).2 6 (by omega), (hc i y hy).2 7 (by omega), (hc i y hy).2 8 (by omega), (hc i y hy).2 9 (by omega), (hc i y hy).2 10 (by omega)⟩⟩
  · rcases ht with e | ⟨b, o, rfl, hz, hc⟩
    · exact .inl e
    · exact .inr ⟨b, o, rfl, hz, fun i y hy => ⟨(hc i y hy).2 0 (by omega), (hc i y hy).2 1 (by omega), (hc i y hy).2 2 (by omega), (hc i y hy).2 3 (by omega)⟩⟩
  · rcases hp with e | ⟨b, o, rfl, hz, hc⟩
    · exact .inl e
    · exact .inr ⟨b, o, rfl, hz, fun i y hy => ⟨(hc i y hy).2 0 (by omega), (hc i y hy).2 1 (by omega), (hc i y hy).2 2 (by omega), (hc i y hy).2 3 (by omega)⟩⟩
  · rcases hf with e | ⟨b, o, rfl, hz, hc⟩
    · exact .inl e
    · exact .inr ⟨b, o, rfl, hz, fun i y hy => ⟨(hc i y hy).2 0 (by omega), (hc i y hy).2 1 (by omega), (hc i y hy).2 2 (by omega)⟩⟩
end Go.Proofs.YthgfbokfaidklaaGreatDoor
set_option linter.all false
namespace Go.Proofs.YthgfbokfaidklaaGreatDoor

def TriZ (P : Nat) (z : Fm) : Prop := ∀ i j k, i ≤ P → j ≤ P → k ≤ P → z i j ≤ z i k + z k j
def LeP (P : Nat) (z f : Fm) : Prop := ∀ a b, a ≤ P → b ≤ P → z a b ≤ f a b
theorem le_updF {P : Nat} {z f : Fm} {i j : Nat} {m : Int} (h : LeP P z f) (hm : i ≤ P → j ≤ P → z i j ≤ m) : LeP P z (updF f i j m) := fun a b ha hb => by
  unfold updF
  split
  · rename_i e
    obtain ⟨rfl, rfl⟩ := e
    exact Int.le_min.2 ⟨hm ha hb, h a b ha hb⟩
  · exact h a b ha hb
theorem le_rowTo {P k i : Nat} {z f : Fm} (ht : TriZ P z) (h : LeP P z f) (hk : k ≤ P) (hi : i ≤ P) : ∀ j, j ≤ P + 1 → LeP P z (rowTo k i f j)
  | 0, _ => h
  | j + 1, hj => by
    have ih := le_rowTo ht h hk hi j (by omega)
    rw [rowTo_succ]
    refine le_updF ih fun _ hjP => ?_
    have h1 := ih i k hi hk
    have h2 := ih k j hk hjP
    have h3 := ht i j k hi hjP hk
    omega
theorem le_phaseTo {P k : Nat} {z f : Fm} (ht : TriZ P z) (h : LeP P z f) (hk : k ≤ P) : ∀ i, i ≤ P + 1 → LeP P z (phaseTo P k f i)
  | 0, _ => h
  | i + 1, hi => by rw [phaseTo_succ]; exact le_rowTo ht (le_phaseTo ht h hk i (by omega)) hk (by omega) (P + 1) (Nat.le_refl _)
/-- what is closed itself and below all bounds is below the closed bounds -/
theorem le_fwTo {P : Nat} {z f : Fm} (ht : TriZ P z) (h : LeP P z f) : ∀ k, k ≤ P + 1 → LeP P z (fwTo P f k)
  | 0, _ => h
  | k + 1, hk => by rw [fwTo_succ]; exact le_phaseTo ht (le_fwTo ht h k (by omega)) (by omega) (P + 1) (Nat.le_refl _)

theorem le_tuns {P : Nat} {z : Fm} : ∀ (l : List Tune) (f : Fm), LeP P z f → (∀ t ∈ l, z t.src.toNat t.dst.toNat ≤ t.err + t.off ∧ z t.dst.toNat t.src.toNat ≤ t.err - t.off) → LeP P z (l.foldl tun1 f)
  | [], _, h, _ => h
  | t :: l, f, h, ha => le_tuns l (tun1 f t) (le_updF (le_updF h fun _ _ => (ha t (List.mem_cons_self ..)).1) fun _ _ => (ha t (List.mem_cons_self ..)).2) fun x hx => ha x (List.mem_cons_of_mem _ hx)
theorem tuns_fall : ∀ (l : List Tune) (f : Fm), LeF (l.foldl tun1 f) f
  | [], f => LeF.refl f
  | t :: l, f => (tuns_fall l (tun1 f t)).trans ((updF_le _ _ _ _).trans (updF_le _ _ _ _))
theorem updF_at (f : Fm) (i j : Nat) (m : Int) : updF f i j m i j ≤ m := by
  unfold updF
  rw [if_pos ⟨rfl, rfl⟩]
  exact Int.min_le_left _ _
theorem tuns_at : ∀ (l : List Tune) (f : Fm) (t : Tune), t ∈ l → (l.foldl tun1 f) t.src.toNat t.dst.toNat ≤ t.err + t.off ∧ (l.foldl tun1 f) t.dst.toNat t.src.toNat ≤ t.err - t.off
  | [], _, _, h => nomatch h
  | x :: l, f, t, h => by
    rcases List.mem_cons.1 h with rfl | h
    · have h1 := tuns_fall l (tun1 f t) t.src.toNat t.dst.toNat
      have h2 := tuns_fall l (tun1 f t) t.dst.toNat t.src.toNat
      have h3 := updF_le (updF f t.src.toNat t.dst.toNat (t.err + t.off)) t.dst.toNat t.src.toNat (t.err - t.off) t.src.toNat t.dst.toNat
      have h4 := updF_at f t.src.toNat t.dst.toNat (t.err + t.off)
      have h5 := updF_at (updF f t.src.toNat t.dst.toNat (t.err + t.off)) t.dst.toNat t.src.toNat (t.err - t.off)
      exact ⟨Int.le_trans h1 (Int.le_trans h3 h4), Int.le_trans h2 h5⟩
    · exact tuns_at l (tun1 f x) t h
theorem tunsF_all (P : Nat) (X : OBook) : tunsF P X (tuningsL P X).length = (tuningsL P X).foldl tun1 dfltF := by
  unfold tunsF
  rw [List.take_length]

/-- below the closed bounds of a book -/
theorem le_loft {P : Nat} {X : OBook} {z : Fm} (ht : TriZ P z) (hd : LeP P z dfltF) (ha : ∀ t ∈ tuningsL P X, z t.src.toNat t.dst.toNat ≤ t.err + t.off ∧ z t.dst.toNat t.src.toNat ≤ t.err - t.off) : LeP P z (loftF P X) := by
  unfold loftF
  rw [tunsF_all]
  exact le_fwTo ht (le_tuns _ _ hd ha) (P + 1) (Nat.le_refl _)
/-- no tuning is broken by the closed bounds -/
theorem loft_at {P : Nat} {X : OBook} {t : Tune} (h : t ∈ tuningsL P X) : loftF P X t.src.toNat t.dst.toNat ≤ t.err + t.off ∧ loftF P X t.dst.toNat t.src.toNat ≤ t.err - t.off := by
  have h1 := tuns_at _ dfltF t h
  rw [← tunsF_all] at h1
  exact ⟨Int.le_trans (fwTo_le P _ (P + 1) _ _) h1.1, Int.le_trans (fwTo_le P _ (P + 1) _ _) h1.2⟩
theorem loft_zero {P : Nat} {X : OBook} (hok : X.okB = true) (hP : X.pipes = (P : Int)) (hc : canR (loftF P X) P = true) {i : Nat} (hi : i ≤ P) : loftF P X i i = 0 :=
  (fw_tri P (tunsF P X (tuningsL P X).length) (fun i _ => diag_tuns hok hP i _) (canR_diag hc)).2 i hi

/-- heights that keep a tuning (the town's own height is that of the node P) -/
def Keeps (h : Nat → Int) (t : Tune) : Prop := h t.dst.toNat - h t.src.toNat ≤ t.err + t.off ∧ h t.src.toNat - h t.dst.toNat ≤ t.err - t.off
/-- **heights that keep all tunings are no farther apart than the closed bounds** -/
theorem keeps_loft {P : Nat} {X : OBook} {h : Nat → Int} (hP0 : h P = 0) (hb : ∀ i, i < P → -60 ≤ h i ∧ h i ≤ 60) (hk : ∀ t ∈ tuningsL P X, Keeps h t) {a b : Nat} (ha : a ≤ P) (hb' : b ≤ P) : h b - h a ≤ loftF P X a b := by
  have hbox : ∀ i, i ≤ P → -60 ≤ h i ∧ h i ≤ 60 := fun i hi => by
    by_cases e : i = P
    · subst e; rw [hP0]; omega
    · exact hb i (by omega)
  refine le_loft (z := fun a b => h b - h a) (fun i j k _ _ _ => ?_) (fun i j hi hj => ?_) hk a b ha hb'
  · show h j - h i ≤ h k - h i + (h j - h k)
    omega
  · show h j - h i ≤ dfltF i j
    unfold dfltF
    split
    · rename_i e; subst e; omega
    · have := hbox i hi; have := hbox j hj; omega
theorem canR_of {P : Nat} {f : Fm} (h1 : 1 ≤ P) (hd : ∀ p, p < P → 0 ≤ f p p) (hn : -61 < f P 0) : canR f P = true := by
  simp only [canR, diagB, Bool.and_eq_true, List.all_eq_true, List.mem_range, decide_eq_true_eq, Bool.not_eq_true']
  refine ⟨hd, ?_⟩
  have : hv f P 0 = f P 0 := by unfold hv; rw [if_pos (by omega)]
  unfold noneB
  rw [this, show (f P 0 == -61) = false from by simpa using by omega]
  rfl
/-- what one pipe's bounds are, as heights: they keep all tunings -/
theorem row_keeps {P : Nat} {X : OBook} (hok : X.okB = true) (hP : X.pipes = (P : Int)) (hc : canR (loftF P X) P = true) {a : Nat} (ha : a ≤ P) (c : Int) : ∀ t ∈ tuningsL P X, Keeps (fun v => loftF P X a v - c) t := fun t ht => by
  obtain ⟨i, j, hs, hd, hi, hj, _⟩ := tuning_parts hok hP ht
  obtain ⟨h1, h2⟩ := loft_at ht
  unfold Keeps
  simp only [hs, hd, Int.toNat_natCast] at h1 h2 ⊢
  have t1 := loft_tri hok hP hc hi ha hj
  have t2 := loft_tri hok hP hc hj ha hi
  omega

theorem keep_all {P : Nat} {X : OBook} {q : Nat → Int} (hq : q P = 0) (hb : ∀ i, i < P → -60 ≤ q i ∧ q i ≤ 60) (hk : ∀ t ∈ X.forks.map (fun f => (⟨(P : Int), f.pipe, f.read, f.err⟩ : Tune)) ++ X.tunes, Keeps q t) : ∀ t ∈ tuningsL P X, Keeps q t := fun t ht => by
  rcases List.mem_append.1 ht with ht | ht
  · obtain ⟨p, hp, rfl⟩ := List.mem_map.1 ht
    have hp := hb p (List.mem_range.1 hp)
    unfold Keeps
    simp only [Int.toNat_natCast, hq]
    omega
  · exact hk t ht
/-- heights that keep what a fork and a tuning say, of a book in which no pipe can come to the ends, do not come to the ends -/
theorem in_box {P : Nat} {X : OBook} (hok : X.okB = true) (hP : X.pipes = (P : Int)) (hc : canR (loftF P X) P = true) (hs : ∀ i, i < P → loftF P X P i ≤ 59 ∧ loftF P X i P ≤ 59)
    {h : Nat → Int} (hP0 : h P = 0) (hk : ∀ t ∈ X.forks.map (fun f => (⟨(P : Int), f.pipe, f.read, f.err⟩ : Tune)) ++ X.tunes, Keeps h t) : ∀ i, i < P → -59 ≤ h i ∧ h i ≤ 59 := by
  have h00 : loftF P X P P = 0 := loft_zero hok hP hc (Nat.le_refl _)
  have hlow : ∀ i, i < P → -59 ≤ loftF P X P i := fun i hi => by
    have := loft_tri hok hP hc (m := i) (i := P) (j := P) (by omega) (Nat.le_refl _) (Nat.le_refl _)
    have := (hs i hi).2
    omega
  have hrow := row_keeps hok hP hc (Nat.le_refl P) 0
  have hmem : ∀ t, t ∈ X.forks.map (fun f => (⟨(P : Int), f.pipe, f.read, f.err⟩ : Tune)) ++ X.tunes → t ∈ tuningsL P X := fun t ht => List.mem_append_right _ ht
  have up : ∀ c : Nat, ∀ i, i < P → min (max (h i) (loftF P X P i)) (loftF P X P i + c) ≤ 59 := by
    intro c
    induction c with
    | zero => intro i hi; have := hs i hi; omega
    | succ c ih =>
      intro i hi
      have hq : ∀ t ∈ tuningsL P X, Keeps (fun v => min (max (h v) (loftF P X P v)) (loftF P X P v + (c + 1 : Nat))) t := by
        refine keep_all (by show min (max (h P) (loftF P X P P)) _ = 0; rw [hP0, h00]; omega) (fun i hi => ?_) (fun t ht => ?_)
        · have h1 := ih i hi
          have h2 := hlow i hi
          show -60 ≤ min (max (h i) (loftF P X P i)) (loftF P X P i + (c + 1 : Nat)) ∧ min (max (h i) (loftF P X P i)) (loftF P X P i + (c + 1 : Nat)) ≤ 60
          omega
        · have h1 := hk t ht
          have h2 := hrow t (hmem t ht)
          unfold Keeps at h1 h2 ⊢
          simp only at h1 h2 ⊢
          omega
      have hbx : ∀ i, i < P → -60 ≤ min (max (h i) (loftF P X P i)) (loftF P X P i + (c + 1 : Nat)) ∧ min (max (h i) (loftF P X P i)) (loftF P X P i + (c + 1 : Nat)) ≤ 60 := fun i hi => by
        have h1 := ih i hi
        have h2 := hlow i hi
        omega
      have := keeps_loft (X := X) (h := fun v => min (max (h v) (loftF P X P v)) (loftF P X P v + (c + 1 : Nat))) (by show min (max (h P) (loftF P X P P)) _ = 0; rw [hP0, h00]; omega) hbx hq (a := P) (b := i) (Nat.le_refl _) (by omega)
      simp only [hP0, h00] at this
      have := (hs i hi).1
      omega
  have down : ∀ c : Nat, ∀ i, i < P → -59 ≤ max (min (h i) (loftF P X P i)) (loftF P X P i - c) := by
    intro c
    induction c with
    | zero => intro i hi; have := hlow i hi; omega
    | succ c ih =>
      intro i hi
      have hbx : ∀ i, i < P → -60 ≤ max (min (h i) (loftF P X P i)) (loftF P X P i - (c + 1 : Nat)) ∧ max (min (h i) (loftF P X P i)) (loftF P X P i - (c + 1 : Nat)) ≤ 60 := fun i hi => by
        have h1 := ih i hi
        have h2 := (hs i hi).1
        omega
      have hq : ∀ t ∈ tuningsL P X, Keeps (fun v => max (min (h v) (loftF P X P v)) (loftF P X P v - (c + 1 : Nat))) t := by
        refine keep_all (by show max (min (h P) (loftF P X P P)) _ = 0; rw [hP0, h00]; omega) hbx (fun t ht => ?_)
        have h1 := hk t ht
        have h2 := hrow t (hmem t ht)
        unfold Keeps at h1 h2 ⊢
        simp only at h1 h2 ⊢
        omega
      have := keeps_loft (X := X) (h := fun v => max (min (h v) (loftF P X P v)) (loftF P X P v - (c + 1 : Nat))) (by show max (min (h P) (loftF P X P P)) _ = 0; rw [hP0, h00]; omega) hbx hq (a := i) (b := P) (by omega) (Nat.le_refl _)
      simp only [hP0, h00] at this
      have := (hs i hi).2
      omega
  intro i hi
  have u := up (h i - loftF P X P i).toNat i hi
  have d := down (loftF P X P i - h i).toNat i hi
  omega

/-- a book whose forks read so much more -/
def shiftB (d : Int) (X Y : OBook) : Prop := Y.pipes = X.pipes ∧ Y.tunes = X.tunes ∧ Y.forks = X.forks.map fun f => ⟨f.pipe, f.read + d, f.err⟩
def shF (P : Nat) (d : Int) (v : Nat) : Int := if v = P then 0 else d
theorem shift_keeps {P : Nat} {X : OBook} (hok : X.okB = true) (hP : X.pipes = (P : Int)) (d : Int) {Y : OBook} (hY : shiftB d X Y) {h : Nat → Int} (hk : ∀ t ∈ tuningsL P Y, Keeps h t) :
    ∀ t ∈ X.forks.map (fun f => (⟨(P : Int), f.pipe, f.read, f.err⟩ : Tune)) ++ X.tunes, Keeps (fun v => h v - shF P d v) t := fun t ht => by
  obtain ⟨i, j, hs, hd, hi, hj, hij, _⟩ := tuning_parts hok hP (List.mem_append_right _ ht : t ∈ tuningsL P X)
  rcases List.mem_append.1 ht with hf | htt
  · obtain ⟨f, hf', rfl⟩ := List.mem_map.1 hf
    simp only at hs hd
    have := hk ⟨(P : Int), f.pipe, f.read + d, f.err⟩ (List.mem_append_right _ (List.mem_append_left _ (List.mem_map.2 ⟨_, by rw [hY.2.2]; exact List.mem_map.2 ⟨f, hf', rfl⟩, rfl⟩)))
    unfold Keeps at this ⊢
    have hi' : i = P := by omega
    subst hi'
    simp only [hd, Int.toNat_natCast] at this ⊢
    have e1 : shF i d i = 0 := by unfold shF; rw [if_pos rfl]
    have e2 : shF i d j = d := by unfold shF; rw [if_neg (fun e => hij e.symm)]
    rw [e1, e2]
    omega
  · have := hk t (List.mem_append_right _ (List.mem_append_right _ (by rw [hY.2.1]; exact htt)))
    obtain ⟨p1, p2⟩ : i < P ∧ j < P := by
      obtain ⟨q1, q2, q3, q4, q5⟩ := tune_parts ((okO_parts hok).2.2.1 t htt)
      omega
    unfold Keeps at this ⊢
    simp only [hs, hd, Int.toNat_natCast] at this ⊢
    have e1 : shF P d i = d := by unfold shF; rw [if_neg (by omega)]
    have e2 : shF P d j = d := by unfold shF; rw [if_neg (by omega)]
    rw [e1, e2]
    omega
theorem loft_120 (P : Nat) (X : OBook) (a b : Nat) : loftF P X a b ≤ dfltF a b := by
  unfold loftF
  rw [tunsF_all]
  exact Int.le_trans (fwTo_le P _ (P + 1) a b) (tuns_fall _ _ a b)
/-- **if all forks read so much more, each pipe is so much higher, and two are as far apart, where no pipe can come to the ends** -/
theorem shift_loft {P : Nat} {X Y : OBook} (hokX : X.okB = true) (hokY : Y.okB = true) (hP : X.pipes = (P : Int)) (d : Int) (hY : shiftB d X Y) (hc : canR (loftF P X) P = true)
    (hs : ∀ i, i < P → loftF P X P i ≤ 59 ∧ loftF P X i P ≤ 59) (hs' : ∀ i, i < P → loftF P X P i + d ≤ 59 ∧ loftF P X i P - d ≤ 59) :
    canR (loftF P Y) P = true ∧ ∀ a b, a ≤ P → b ≤ P → loftF P Y a b = loftF P X a b + shF P d b - shF P d a := by
  have hPY : Y.pipes = (P : Int) := hY.1.trans hP
  have hP1 : 1 ≤ P := by have := (okO_parts hokX).1; omega
  have sP : shF P d P = 0 := by unfold shF; rw [if_pos rfl]
  have sN : ∀ i, i < P → shF P d i = d := fun i hi => by unfold shF; rw [if_neg (by omega)]
  have hge : LeP P (fun a b => loftF P X a b + shF P d b - shF P d a) (loftF P Y) := by
    refine le_loft (fun i j k hi hj hk => ?_) (fun i j hi hj => ?_) (fun t ht => ?_)
    · have := loft_tri hokX hP hc hk hi hj
      show loftF P X i j + shF P d j - shF P d i ≤ loftF P X i k + shF P d k - shF P d i + (loftF P X k j + shF P d j - shF P d k)
      omega
    · show loftF P X i j + shF P d j - shF P d i ≤ dfltF i j
      by_cases e : i = j
      · subst e
        have := loft_120 P X i i
        omega
      · have h1 := loft_120 P X i j
        have h2 : dfltF i j = 120 := by unfold dfltF; rw [if_neg e]
        by_cases ei : i = P
        · subst ei
          have := hs' j (by omega)
          have := sN j (by omega)
          omega
        · by_cases ej : j = P
          · subst ej
            have := hs' i (by omega)
            have := sN i (by omega)
            omega
          · have := sN i (by omega)
            have := sN j (by omega)
            omega
    · rcases List.mem_append.1 ht with ht | ht
      · obtain ⟨p, hp, rfl⟩ := List.mem_map.1 ht
        have hp := List.mem_range.1 hp
        have h1 := hs' p hp
        have h2 := sN p hp
        simp only [Int.toNat_natCast]
        omega
      · rcases List.mem_append.1 ht with ht | ht
        · obtain ⟨f, hf, rfl⟩ := List.mem_map.1 ht
          rw [hY.2.2] at hf
          obtain ⟨g, hg, rfl⟩ := List.mem_map.1 hf
          have hm : (⟨(P : Int), g.pipe, g.read, g.err⟩ : Tune) ∈ tuningsL P X := List.mem_append_right _ (List.mem_append_left _ (List.mem_map.2 ⟨g, hg, rfl⟩))
          have h1 := loft_at hm
          obtain ⟨i, j, e1, e2, hi, hj, hij, _⟩ := tuning_parts hokX hP hm
          simp only at e1 e2
          have hi' : i = P := by omega
          subst hi'
          have h2 := sN j (by omega)
          simp only [e2, Int.toNat_natCast] at h1 ⊢
          omega
        · rw [hY.2.1] at ht
          have hm : t ∈ tuningsL P X := List.mem_append_right _ (List.mem_append_right _ ht)
          have h1 := loft_at hm
          obtain ⟨q1, q2, q3, q4, q5⟩ := tune_parts ((okO_parts hokX).2.2.1 t ht)
          have h2 := sN t.src.toNat (by omega)
          have h3 := sN t.dst.toNat (by omega)
          omega
  have hcY : canR (loftF P Y) P = true := by
    refine canR_of hP1 (fun p hp => ?_) ?_
    · have h1 := hge p p (by omega) (by omega)
      have h2 := loft_zero hokX hP hc (i := p) (by omega)
      simp only at h1
      omega
    · have h1 := hge P 0 (by omega) (by omega)
      have h2 := loft_zero hokX hP hc (i := P) (by omega)
      have h3 := loft_tri hokX hP hc (m := 0) (i := P) (j := P) (by omega) (by omega) (by omega)
      have h4 := hs' 0 (by omega)
      have h5 := sN 0 (by omega)
      simp only at h1
      omega
  refine ⟨hcY, fun a b ha hb => ?_⟩
  have h1 := hge a b ha hb
  have hr := row_keeps hokY hPY hcY ha (loftF P Y a P)
  have hx := shift_keeps hokX hP d hY hr
  have h0 : (fun v => loftF P Y a v - loftF P Y a P - shF P d v) P = 0 := by
    show loftF P Y a P - loftF P Y a P - shF P d P = 0
    omega
  have hbx := in_box hokX hP hc hs h0 hx
  have hbx' : ∀ i, i < P → -60 ≤ (fun v => loftF P Y a v - loftF P Y a P - shF P d v) i ∧ (fun v => loftF P Y a v - loftF P Y a P - shF P d v) i ≤ 60 := fun i hi => ⟨Int.le_trans (by decide) (hbx i hi).1, Int.le_trans (hbx i hi).2 (by decide)⟩
  have h2 := keeps_loft h0 hbx' (keep_all h0 hbx' hx) ha hb
  have h3 := loft_zero hokY hPY hcY ha
  simp only at h1 h2
  omega
end Go.Proofs.YthgfbokfaidklaaGreatDoor
set_option linter.all false
namespace Go.Proofs.YthgfbokfaidklaaGreatDoor
open Go.RowKit Go.Sort Go.Rg
set_option maxRecDepth 100000
attribute [local go_sem] Oper.semAt_some

def cellsF (t : Fork) : List Value := [.int .i64 t.pipe, .int .i64 t.read, .int .i64 t.err]
def cellsOfF (ts : List Fork) : List Value := ts.flatMap cellsF
theorem cellsOfF_get : ∀ (ts : List Fork) (i r : Nat) (t : Fork), ts[i]? = some t → r < 3 → (cellsOfF ts)[i * 3 + r]? = (cellsF t)[r]?
  | [], _, _, _, h, _ => by simp at h
  | x :: ts, 0, r, t, h, hr => by
    simp only [List.getElem?_cons_zero, Option.some.injEq] at h
    subst h
    show (cellsF x ++ cellsOfF ts)[0 * 3 + r]? = _
    rw [List.getElem?_append_left (by simp [cellsF]; omega)]; simp
  | x :: ts, i + 1, r, t, h, hr => by
    simp only [List.getElem?_cons_succ] at h
    have := cellsOfF_get ts i r t h hr
    show (cellsF x ++ cellsOfF ts)[(i + 1) * 3 + r]? = _
    rw [List.getElem?_append_right (by simp [cellsF]; omega), ← this]
    congr 1; simp [cellsF]; omega
theorem forks_of_row {W : World} {base : Nat} {v : Value} {ts : List Fork} (h : W.ownsRow base 63 3 v ts.length (cellsOfF ts)) : ∃ p cap, v = .slice p ts.length cap ∧ ForksAt W p ts := by
  rcases h.2 with ⟨rfl, h0⟩ | ⟨g, cap, cur, rfl, hb, hg, _⟩
  · refine ⟨none, 0, by rw [h0], .inl (List.eq_nil_of_length_eq_zero h0)⟩
  · have hz := (Array.getElem?_eq_some_iff.1 hg).1
    refine ⟨some ⟨g, 0, none⟩, cap, rfl, .inr ⟨g, 0, rfl, hz, fun i t hi => ?_⟩⟩
    have get : ∀ r u, r < 3 → (cellsF t)[r]? = some u → W.cell? ⟨g, 0 + i * 3 + r, none⟩ = some u := fun r u hr hu => by
      have := h.cells (g := g) rfl (i * 3 + r) u ((cellsOfF_get ts i r t hi hr).trans hu)
      have e : (⟨g, 0, none⟩ : Addr).add (i * 3 + r) = ⟨g, 0 + i * 3 + r, none⟩ := by
        rw [show 0 + i * 3 + r = 0 + (i * 3 + r) by omega]
        unfold Addr.add
        split
        · rename_i h0; rw [h0]
        · rfl
      rw [← e]; exact this
    exact ⟨get 0 _ (by omega) rfl, get 1 _ (by omega) rfl, get 2 _ (by omega) rfl⟩
theorem infoF : (Tryz.prog.info? 63).map (fun i => (i.zero, i.size, i.bytes)) = some (some (.agg #[.int .i64 0, .int .i64 0, .int .i64 0]), 3, 24) := by kernel_rfl
def moreF (d : Int) (f : Fork) : Fork := ⟨f.pipe, f.read + d, f.err⟩
/-- the box of a book whose forks are a row of its own -/
def BoxX (w : World) (b : Nat) (X : OBook) (v : Value) : Prop := w.cell? ⟨b, 0, none⟩ = some (.int .i64 X.pipes) ∧ w.cell? ⟨b, 1, none⟩ = some (.slice X.tp X.tunes.length X.tcap) ∧ w.cell? ⟨b, 2, none⟩ = some v ∧ w.cell? ⟨b, 3, none⟩ = some (.slice X.p X.B.boys.length X.cap) ∧ w.cell? ⟨b, 4, none⟩ = some (.int .i64 X.B.weeks) ∧ w.cell? ⟨b, 5, none⟩ = some (.slice X.q X.B.trials.length X.capt) ∧ ∀ i, w.frozen? ⟨b, i, none⟩ = false
theorem BoxX.put {w : World} {b : Nat} {X : OBook} {v : Value} (h : BoxX w b X v) (v' : Value) : BoxX (w.setCell ⟨b, 2, none⟩ v') b X v' := by
  obtain ⟨h0, h1, h2, h3, h4, h5, hf⟩ := h
  exact ⟨by go_simp, by go_simp, by go_simp, by go_simp, by go_simp, by go_simp, fun i => by rw [World.frozen?_setCell]; exact hf i⟩
theorem BoxX.turns {w C : World} {U : Nat → Prop} {b : Nat} {X : OBook} {v : Value} (h : BoxX w b X v) (k : Turns U w C) (hu : ¬ U b) : BoxX C b X v :=
  ⟨tcell k hu h.1, tcell k hu h.2.1, tcell k hu h.2.2.1, tcell k hu h.2.2.2.1, tcell k hu h.2.2.2.2.1, tcell k hu h.2.2.2.2.2.1, fun i => (k.frozen (Go.Ai.lt_of_cell h.1) hu).trans (h.2.2.2.2.2.2 i)⟩
theorem under_no (a b c d : Int) (w : World) (h1 : ¬ (c ≤ a ∧ b ≤ d)) : Calls Tryz.prog 20 #[.agg #[.int .i64 a, .int .i64 b], .agg #[.int .i64 c, .int .i64 d]] w fun e w' => e = .returned (.bool false) ∧ Kept w w' := by
  by_cases h2 : c ≤ a
  · have h3 : ¬ b ≤ d := fun h => h1 ⟨h2, h⟩
    clear h1
    go_enter Tryz.func20, Tryz.ntmps20
    go_wp2_with fail
    go_ret
    exact ⟨rfl, kept_alloc (kept_alloc (kept_refl _) _) _⟩
  · clear h1
    go_enter Tryz.func20, Tryz.ntmps20
    go_wp2_with fail
    go_ret
    exact ⟨rfl, kept_alloc (kept_alloc (kept_refl _) _) _⟩
/-- the book whose forks read so much more, where its forks lie -/
def moreB (X : OBook) (d : Int) (p : Option Addr) (cap : Nat) : OBook := { X with forks := X.forks.map (moreF d), fp := p, fcap := cap }
theorem moreB_ok {X : OBook} {d : Int} {p : Option Addr} {cap : Nat} (hok : X.okB = true) (h : ∀ f ∈ X.forks, -60 ≤ f.read + d ∧ f.read + d ≤ 60) : (moreB X d p cap).okB = true := by
  obtain ⟨h1, h2, h3, h4, h5, h6⟩ := okO_parts hok
  simp only [OBook.okB, inB, Bool.and_eq_true, decide_eq_true_eq, List.all_eq_true]
  refine ⟨⟨⟨⟨⟨h1, h2⟩, h3⟩, by simpa [moreB] using h4⟩, fun f hf => ?_⟩, h6⟩
  obtain ⟨g, hg, rfl⟩ := List.mem_map.1 (show f ∈ X.forks.map (moreF d) from hf)
  obtain ⟨q1, q2, q3⟩ := fork_parts (h5 g hg)
  have q4 := h g hg
  show Fork.okB X.pipes (moreF d g) = true
  simp only [Fork.okB, inB, Bool.and_eq_true, decide_eq_true_eq]
  exact ⟨⟨q1, q4⟩, q3⟩
theorem moreB_shift (X : OBook) (d : Int) (p : Option Addr) (cap : Nat) : shiftB d X (moreB X d p cap) := ⟨rfl, rfl, rfl⟩
theorem moreB_at {w W : World} {X : OBook} {d : Int} {p : Option Addr} {cap : Nat} (h : OBookAt w X) (k : Kept w W) (hf : ForksAt W p (X.forks.map (moreF d))) : OBookAt W (moreB X d p cap) :=
  ⟨h.book.kept k, h.nt, by show (X.forks.map (moreF d)).length ≤ _; rw [List.length_map]; exact h.nf, h.tunes.kept k, hf⟩
theorem cell_three_new (w : World) (a b c : Value) (e : TypeId) : ∀ (j : Nat) (u : Value), [a, b, c][j]? = some u → (w.alloc (Obj.cells #[a, b, c] e)).cell? ((⟨w.heap.size, 0, none⟩ : Addr).add j) = some u
  | 0, u, h => by simp at h; subst h; go_simp
  | 1, u, h => by simp at h; subst h; go_simp
  | 2, u, h => by simp at h; subst h; go_simp
  | j + 3, u, h => by simp at h
theorem more_take (d : Int) (l : List Fork) (j : Nat) (t : Fork) (h : l[j]? = some t) : cellsOfF ((l.take (j + 1)).map (moreF d)) = cellsOfF ((l.take j).map (moreF d)) ++ [.int .i64 t.pipe, .int .i64 (t.read + d), .int .i64 t.err] := by
  rw [List.take_succ, h]
  simp [cellsOfF, cellsF, moreF]
theorem ForksIn.turns {A B : World} {U : Nat → Prop} {b o : Nat} {l : List Fork} (h : ForksIn A b o l) (k : Turns U A B) (hu : ¬ U b) : ForksIn B b o l :=
  ⟨Nat.lt_of_lt_of_le h.1 k.size, fun i x hx => ⟨tcell k hu (h.2 i x hx).1, tcell k hu (h.2 i x hx).2.1, tcell k hu (h.2 i x hx).2.2⟩⟩

set_option maxHeartbeats 4000000 in
theorem oshift_false (X : OBook) (n0 n1 n2 : Int) (W : World) (h : OBookAt W X) (hg : Nothing W) (hn : ONothing W) (hok : X.okB = false) :
    Calls Tryz.prog 6 #[.agg #[.int .i64 X.pipes, .slice X.tp X.tunes.length X.tcap, .slice X.fp X.forks.length X.fcap, .slice X.p X.B.boys.length X.cap, .int .i64 X.B.weeks, .slice X.q X.B.trials.length X.capt], .agg #[.int .i64 n0, .int .i64 n1, .int .i64 n2]] W fun e C => e = .returned (.bool true) ∧ Kept W C := by
  have hk0 : Kept W ((W.alloc (Obj.cells #[.int .i64 X.pipes, .slice X.tp X.tunes.length X.tcap, .slice X.fp X.forks.length X.fcap, .slice X.p X.B.boys.length X.cap, .int .i64 X.B.weeks, .slice X.q X.B.trials.length X.capt] 29)).alloc (Obj.cells #[.int .i64 n0, .int .i64 n1, .int .i64 n2] 52)) := kept_alloc (kept_alloc (kept_refl _) _) _
  have HC := Lib.hid (smallO_any X _ (h.kept hk0))
  rw [hok] at HC
  have HS := Lib.hid (fun V (k : Kept W V) => tuned_is V (h.book.laid.kept k) (hg.kept k) (hn.kept k))
  clear h hg hn
  go_enter Tryz.func6, Tryz.ntmps6
  go_wp2_with fail
  generalize ((W.alloc (Obj.cells #[.int .i64 X.pipes, .slice X.tp X.tunes.length X.tcap, .slice X.fp X.forks.length X.fcap, .slice X.p X.B.boys.length X.cap, .int .i64 X.B.weeks, .slice X.q X.B.trials.length X.capt] 29)).alloc (Obj.cells #[.int .i64 n0, .int .i64 n1, .int .i64 n2] 52)) = W0 at *
  with_reducible refine HC.out.mono ?_
  rintro e w2 ⟨rfl, hk2⟩
  have hk02 := kept_trans hk0 hk2
  go_wp2_with fail
  with_reducible refine (HS.out _ hk02).mono ?_
  rintro e w3 ⟨rfl, hk3⟩
  go_wp2_with fail
  refine bodyPost_ret (v := .bool true) (by simp [results, Tryz.results6, go_sem]) rfl ?_
  exact ⟨rfl, kept_trans hk02 hk3⟩

set_option maxHeartbeats 8000000 in
theorem oshift_true (X : OBook) (n0 n1 n2 : Int) (W : World) (h : OBookAt W X) (hg : Nothing W) (hn : ONothing W) (hok : X.okB = true) :
    Calls Tryz.prog 6 #[.agg #[.int .i64 X.pipes, .slice X.tp X.tunes.length X.tcap, .slice X.fp X.forks.length X.fcap, .slice X.p X.B.boys.length X.cap, .int .i64 X.B.weeks, .slice X.q X.B.trials.length X.capt], .agg #[.int .i64 n0, .int .i64 n1, .int .i64 n2]] W fun e C => e = .returned (.bool true) ∧ Kept W C := by
  obtain ⟨hp, _, _, _, _, _⟩ := okO_parts hok
  obtain ⟨P, hP⟩ := Int.eq_ofNat_of_zero_le (show 0 ≤ X.pipes by omega)
  have hk0 : Kept W ((W.alloc (Obj.cells #[.int .i64 X.pipes, .slice X.tp X.tunes.length X.tcap, .slice X.fp X.forks.length X.fcap, .slice X.p X.B.boys.length X.cap, .int .i64 X.B.weeks, .slice X.q X.B.trials.length X.capt] 29)).alloc (Obj.cells #[.int .i64 n0, .int .i64 n1, .int .i64 n2] 52)) := kept_alloc (kept_alloc (kept_refl _) _) _
  have HC := Lib.hid (smallO_any X _ (h.kept hk0))
  rw [hok] at HC
  have HS := Lib.hid (fun V (k : Kept W V) => tuned_is V (h.book.laid.kept k) (hg.kept k) (hn.kept k))
  obtain ⟨a0, a1⟩ := turnI_lt n0 41 (by omega)
  have HT0 := Lib.hid (fun V => turn_is n0 41 (by omega) (by omega) V)
  generalize turnI n0 41 = dd at *
  have hwd : IntKind.i64.wrap (dd - 20) = dd - 20 := IntWalk.i64_in _ (by omega)
  obtain ⟨b0, b1⟩ := turnI_lt n1 X.pipes (by omega)
  have HT1 := Lib.hid (fun V => turn_is n1 X.pipes (by omega) (by omega) V)
  obtain ⟨b, hb⟩ := Int.eq_ofNat_of_zero_le b0
  rw [hb] at HT1 b1
  have hbP : b < P := by omega
  clear b0 b1 hb
  obtain ⟨c0, c1⟩ := turnI_lt n2 X.pipes (by omega)
  have HT2 := Lib.hid (fun V => turn_is n2 X.pipes (by omega) (by omega) V)
  obtain ⟨c, hc⟩ := Int.eq_ofNat_of_zero_le c0
  rw [hc] at HT2 c1
  have hcP : c < P := by omega
  clear c0 c1 hc
  have HAP := Lib.hid (fun i j (hi : i < P) (hj : j < P) V (k : Kept W V) => oApart_any X P i j V (h.kept k) (hg.kept k) (hn.kept k) hok hP hi hj)
  have HPI := Lib.hid (fun i (hi : i < P) V (k : Kept W V) => oPitch_any X P i V (h.kept k) (hg.kept k) (hn.kept k) hok hP hi)
  have x0 : ((W.alloc (Obj.cells #[.int .i64 X.pipes, .slice X.tp X.tunes.length X.tcap, .slice X.fp X.forks.length X.fcap, .slice X.p X.B.boys.length X.cap, .int .i64 X.B.weeks, .slice X.q X.B.trials.length X.capt] 29)).alloc (Obj.cells #[.int .i64 n0, .int .i64 n1, .int .i64 n2] 52)).cell? ⟨W.heap.size, 0, none⟩ = some (.int .i64 X.pipes) := by go_simp
  have x1 : ((W.alloc (Obj.cells #[.int .i64 X.pipes, .slice X.tp X.tunes.length X.tcap, .slice X.fp X.forks.length X.fcap, .slice X.p X.B.boys.length X.cap, .int .i64 X.B.weeks, .slice X.q X.B.trials.length X.capt] 29)).alloc (Obj.cells #[.int .i64 n0, .int .i64 n1, .int .i64 n2] 52)).cell? ⟨W.heap.size, 1, none⟩ = some (.slice X.tp X.tunes.length X.tcap) := by go_simp
  have x2 : ((W.alloc (Obj.cells #[.int .i64 X.pipes, .slice X.tp X.tunes.length X.tcap, .slice X.fp X.forks.length X.fcap, .slice X.p X.B.boys.length X.cap, .int .i64 X.B.weeks, .slice X.q X.B.trials.length X.capt] 29)).alloc (Obj.cells #[.int .i64 n0, .int .i64 n1, .int .i64 n2] 52)).cell? ⟨W.heap.size, 2, none⟩ = some (.slice X.fp X.forks.length X.fcap) := by go_simp
  have x3 : ((W.alloc (Obj.cells #[.int .i64 X.pipes, .slice X.tp X.tunes.length X.tcap, .slice X.fp X.forks.length X.fcap, .slice X.p X.B.boys.length X.cap, .int .i64 X.B.weeks, .slice X.q X.B.trials.length X.capt] 29)).alloc (Obj.cells #[.int .i64 n0, .int .i64 n1, .int .i64 n2] 52)).cell? ⟨W.heap.size, 3, none⟩ = some (.slice X.p X.B.boys.length X.cap) := by go_simp
  have x4 : ((W.alloc (Obj.cells #[.int .i64 X.pipes, .slice X.tp X.tunes.length X.tcap, .slice X.fp X.forks.length X.fcap, .slice X.p X.B.boys.length X.cap, .int .i64 X.B.weeks, .slice X.q X.B.trials.length X.capt] 29)).alloc (Obj.cells #[.int .i64 n0, .int .i64 n1, .int .i64 n2] 52)).cell? ⟨W.heap.size, 4, none⟩ = some (.int .i64 X.B.weeks) := by go_simp
  have x5 : ((W.alloc (Obj.cells #[.int .i64 X.pipes, .slice X.tp X.tunes.length X.tcap, .slice X.fp X.forks.length X.fcap, .slice X.p X.B.boys.length X.cap, .int .i64 X.B.weeks, .slice X.q X.B.trials.length X.capt] 29)).alloc (Obj.cells #[.int .i64 n0, .int .i64 n1, .int .i64 n2] 52)).cell? ⟨W.heap.size, 5, none⟩ = some (.slice X.q X.B.trials.length X.capt) := by go_simp
  have m0 : ((W.alloc (Obj.cells #[.int .i64 X.pipes, .slice X.tp X.tunes.length X.tcap, .slice X.fp X.forks.length X.fcap, .slice X.p X.B.boys.length X.cap, .int .i64 X.B.weeks, .slice X.q X.B.trials.length X.capt] 29)).alloc (Obj.cells #[.int .i64 n0, .int .i64 n1, .int .i64 n2] 52)).cell? ⟨W.heap.size + 1, 0, none⟩ = some (.int .i64 n0) := by go_simp
  have m1 : ((W.alloc (Obj.cells #[.int .i64 X.pipes, .slice X.tp X.tunes.length X.tcap, .slice X.fp X.forks.length X.fcap, .slice X.p X.B.boys.length X.cap, .int .i64 X.B.weeks, .slice X.q X.B.trials.length X.capt] 29)).alloc (Obj.cells #[.int .i64 n0, .int .i64 n1, .int .i64 n2] 52)).cell? ⟨W.heap.size + 1, 1, none⟩ = some (.int .i64 n1) := by go_simp
  have m2 : ((W.alloc (Obj.cells #[.int .i64 X.pipes, .slice X.tp X.tunes.length X.tcap, .slice X.fp X.forks.length X.fcap, .slice X.p X.B.boys.length X.cap, .int .i64 X.B.weeks, .slice X.q X.B.trials.length X.capt] 29)).alloc (Obj.cells #[.int .i64 n0, .int .i64 n1, .int .i64 n2] 52)).cell? ⟨W.heap.size + 1, 2, none⟩ = some (.int .i64 n2) := by go_simp
  have HOK := Lib.hid (And.intro hok (And.intro hP hp))
  have HF := Lib.hid h.forks
  have HNF := Lib.hid h.nf
  have HH := Lib.hid h
  have HG := Lib.hid (And.intro hg hn)
  have hflen : X.forks.length ≤ 3 := (okO_parts hok).2.2.2.1
  have HFP := Lib.hid (okO_parts hok).2.2.2.2.1
  clear h hg hn hok hP hp
  go_enter Tryz.func6, Tryz.ntmps6
  go_wp2_with fail
  generalize ((W.alloc (Obj.cells #[.int .i64 X.pipes, .slice X.tp X.tunes.length X.tcap, .slice X.fp X.forks.length X.fcap, .slice X.p X.B.boys.length X.cap, .int .i64 X.B.weeks, .slice X.q X.B.trials.length X.capt] 29)).alloc (Obj.cells #[.int .i64 n0, .int .i64 n1, .int .i64 n2] 52)) = W0 at *
  with_reducible refine HC.out.mono ?_
  rintro e w2 ⟨rfl, hk2⟩
  have hk02 := kept_trans hk0 hk2
  replace x0 := kcell hk2 x0
  replace x1 := kcell hk2 x1
  replace x2 := kcell hk2 x2
  replace x3 := kcell hk2 x3
  replace x4 := kcell hk2 x4
  replace x5 := kcell hk2 x5
  replace m0 := kcell hk2 m0
  replace m1 := kcell hk2 m1
  replace m2 := kcell hk2 m2
  go_wp2_with fail
  have rx0 := cell_regrown x0
  have rm0 := cell_regrown m0
  have rm1 := cell_regrown m1
  have rm2 := cell_regrown m2
  have HT0W := Lib.hid (fun d os => Calls.regrown_of ((HT0.out (grow (redrawn w2 d) os)).mono (by rintro e w' ⟨rfl, rfl⟩; exact ⟨rfl, kept_refl _⟩)))
  have HT1W := Lib.hid (fun d os => Calls.regrown_of ((HT1.out (grow (redrawn w2 d) os)).mono (by rintro e w' ⟨rfl, rfl⟩; exact ⟨rfl, kept_refl _⟩)))
  have HT2W := Lib.hid (fun d os => Calls.regrown_of ((HT2.out (grow (redrawn w2 d) os)).mono (by rintro e w' ⟨rfl, rfl⟩; exact ⟨rfl, kept_refl _⟩)))
  refine wp_region_quiet_below (by kernel_rfl) (by kernel_rfl) ?_
  repeat (any_goals (first | go_big_quiet_skip | quiet_step (first | with_reducible exact HT0W.out _ _ | with_reducible exact HT1W.out _ _ | with_reducible exact HT2W.out _ _)))
  refine wpQuiet_nil ?_
  intro _ hw'
  obtain ⟨⟨dq, osq⟩, hw''⟩ := hw'
  subst hw''
  have kQ := below_regrown w2 dq osq
  have kW := kept_trans hk02 kQ
  clear HT0W HT1W HT2W HT0 HT1 HT2 rx0 rm0 rm1 rm2 m0 m1 m2
  replace x0 := kcell kQ x0
  replace x1 := kcell kQ x1
  replace x2 := kcell kQ x2
  replace x3 := kcell kQ x3
  replace x4 := kcell kQ x4
  replace x5 := kcell kQ x5
  generalize grow (redrawn w2 dq) osq = V0 at *
  clear kQ hk2 hk02
  rw [hwd] at *
  generalize hd : dd - 20 = d at *
  have hdr : -20 ≤ d ∧ d ≤ 20 := by omega
  go_wp2_with fail
  have kT : Turns (fun b => V0.heap.size ≤ b) V0 (V0.alloc (Obj.cells #[.int .i64 X.pipes, .slice X.tp X.tunes.length X.tcap, .slice none 0 0, .slice X.p X.B.boys.length X.cap, .int .i64 X.B.weeks, .slice X.q X.B.trials.length X.capt] 29)) := kturns (kept_alloc (kept_refl V0) _) _
  have hzs : (V0.alloc (Obj.cells #[.int .i64 X.pipes, .slice X.tp X.tunes.length X.tcap, .slice none 0 0, .slice X.p X.B.boys.length X.cap, .int .i64 X.B.weeks, .slice X.q X.B.trials.length X.capt] 29)).heap.size = V0.heap.size + 1 := by simp
  have y0 : (V0.alloc (Obj.cells #[.int .i64 X.pipes, .slice X.tp X.tunes.length X.tcap, .slice none 0 0, .slice X.p X.B.boys.length X.cap, .int .i64 X.B.weeks, .slice X.q X.B.trials.length X.capt] 29)).cell? ⟨V0.heap.size, 0, none⟩ = some (.int .i64 X.pipes) := by go_simp
  have y1 : (V0.alloc (Obj.cells #[.int .i64 X.pipes, .slice X.tp X.tunes.length X.tcap, .slice none 0 0, .slice X.p X.B.boys.length X.cap, .int .i64 X.B.weeks, .slice X.q X.B.trials.length X.capt] 29)).cell? ⟨V0.heap.size, 1, none⟩ = some (.slice X.tp X.tunes.length X.tcap) := by go_simp
  have y2 : (V0.alloc (Obj.cells #[.int .i64 X.pipes, .slice X.tp X.tunes.length X.tcap, .slice none 0 0, .slice X.p X.B.boys.length X.cap, .int .i64 X.B.weeks, .slice X.q X.B.trials.length X.capt] 29)).cell? ⟨V0.heap.size, 2, none⟩ = some (.slice none 0 0) := by go_simp
  have y3 : (V0.alloc (Obj.cells #[.int .i64 X.pipes, .slice X.tp X.tunes.length X.tcap, .slice none 0 0, .slice X.p X.B.boys.length X.cap, .int .i64 X.B.weeks, .slice X.q X.B.trials.length X.capt] 29)).cell? ⟨V0.heap.size, 3, none⟩ = some (.slice X.p X.B.boys.length X.cap) := by go_simp
  have y4 : (V0.alloc (Obj.cells #[.int .i64 X.pipes, .slice X.tp X.tunes.length X.tcap, .slice none 0 0, .slice X.p X.B.boys.length X.cap, .int .i64 X.B.weeks, .slice X.q X.B.trials.length X.capt] 29)).cell? ⟨V0.heap.size, 4, none⟩ = some (.int .i64 X.B.weeks) := by go_simp
  have y5 : (V0.alloc (Obj.cells #[.int .i64 X.pipes, .slice X.tp X.tunes.length X.tcap, .slice none 0 0, .slice X.p X.B.boys.length X.cap, .int .i64 X.B.weeks, .slice X.q X.B.trials.length X.capt] 29)).cell? ⟨V0.heap.size, 5, none⟩ = some (.slice X.q X.B.trials.length X.capt) := by go_simp
  have yf : ∀ i, (V0.alloc (Obj.cells #[.int .i64 X.pipes, .slice X.tp X.tunes.length X.tcap, .slice none 0 0, .slice X.p X.B.boys.length X.cap, .int .i64 X.B.weeks, .slice X.q X.B.trials.length X.capt] 29)).frozen? ⟨V0.heap.size, i, none⟩ = false := by intro i; go_simp
  generalize (V0.alloc (Obj.cells #[.int .i64 X.pipes, .slice X.tp X.tunes.length X.tcap, .slice none 0 0, .slice X.p X.B.boys.length X.cap, .int .i64 X.B.weeks, .slice X.q X.B.trials.length X.capt] 29)) = V1 at *
  generalize hxb : V0.heap.size = xb at *
  have kW1 : Kept W V1 := kept_trans kW (kT.toBelow (n := V0.heap.size) (fun b hb => by omega) (Nat.le_refl _))
  have hx1 : W.heap.size < V0.heap.size := Go.Ai.lt_of_cell x0
  have x2V : V1.cell? ⟨W.heap.size, 2, none⟩ = some (.slice X.fp X.forks.length X.fcap) := tcell kT (by omega) x2
  have HY := Lib.hid (show BoxX V1 xb X (.slice none 0 0) from ⟨y0, y1, y2, y3, y4, y5, yf⟩)
  clear y0 y1 y2 y3 y4 y5 yf hwd a0 a1 hd
  go_loopw [9] (fun i V => ∃ (j : Nat) (v : Value), j ≤ X.forks.length ∧ i = .int .i64 j ∧ (∀ (k : Nat) (f : Fork), k < j → X.forks[k]? = some f → -60 ≤ f.read + d ∧ f.read + d ≤ 60) ∧ V.ownsRow (xb + 1) 63 3 v j (cellsOfF ((X.forks.take j).map (moreF d))) ∧ BoxX V xb X v ∧ Turns (fun b => xb ≤ b) V1 V) (fun i V => X.forks.length - (intOf i).toNat)
  case atStart =>
    exact ⟨0, _, by omega, rfl, (fun k f hk => absurd hk (by omega)), World.ownsRow_nil _ _ _ _, HY.out, Turns.refl _ _⟩
  case round =>
    obtain ⟨j, v, hj, rfl, hdone, hrow, hbox, hV⟩ := hrel
    by_cases hlt : j < X.forks.length
    · have hltI : (j : Int) < X.forks.length := by omega
      have hget : X.forks[j]? = some X.forks[j] := List.getElem?_eq_getElem hlt
      generalize X.forks[j] = t at *
      obtain ⟨bT, oT, hfp, hTT⟩ : ∃ b o, X.fp = some ⟨b, o, none⟩ ∧ ForksIn W b o X.forks := HF.out.resolve_left (fun h => by rw [h] at hlt; cases hlt)
      have hbT := hTT.1
      obtain ⟨t0, t1, t2⟩ := ((hTT.kept kW1).turns hV (by omega)).2 j t hget
      have e2 := tcell hV (by omega) x2V
      rw [hfp] at e2
      have HFQ := Lib.hid hfp
      clear hfp
      obtain ⟨q0, q1, q2, q3, q4, q5, qf⟩ := hbox
      have qf2 := qf 2
      have hz1 := hV.size
      have HVV := Lib.hid hV
      have HR := Lib.hid hrow
      have HD := Lib.hid hdone
      clear hV hrow hdone
      have hok1 := fork_parts (HFP.out t (List.mem_of_getElem? hget))
      have hwr : IntKind.i64.wrap (t.read + d) = t.read + d := IntWalk.i64_in _ (by omega)
      have HGET := Lib.hid hget
      clear hget
      rcases hg : inB (t.read + d) (-60) 60 with _ | _
      · have HL := Lib.hid (fun V => lies_eq (t.read + d) (-60) 60 V hg)
        go_wp2_with fail
        have kA : Kept wr (wr.alloc (Obj.cells #[.int .i64 t.pipe, .int .i64 (t.read + d), .int .i64 t.err] 63)) := kept_alloc (kept_refl _) _
        have kX : Kept W (wr.alloc (Obj.cells #[.int .i64 t.pipe, .int .i64 (t.read + d), .int .i64 t.err] 63)) := kept_trans (Below.trans kW1 (HVV.out.toBelow (n := W.heap.size) (fun b hb => by omega) (by omega))) kA
        generalize (wr.alloc (Obj.cells #[.int .i64 t.pipe, .int .i64 (t.read + d), .int .i64 t.err] 63)) = W2 at *
        with_reducible refine (HL.out W2).mono ?_
        rintro e w3 ⟨rfl, rfl⟩
        go_wp2_with fail
        with_reducible refine (HS.out _ kX).mono ?_
        rintro e w3 ⟨rfl, hk3⟩
        go_wp2_with fail
        refine bodyPost_ret (v := .bool true) (by simp [results, Tryz.results6, go_sem]) rfl ?_
        exact ⟨rfl, kept_trans kX hk3⟩
      · have HL := Lib.hid (fun V => lies_eq (t.read + d) (-60) 60 V hg)
        go_wp2_with fail
        have kA : Kept wr (wr.alloc (Obj.cells #[.int .i64 t.pipe, .int .i64 (t.read + d), .int .i64 t.err] 63)) := kept_alloc (kept_refl _) _
        have HRA := Lib.hid (HR.out.alloc (Obj.cells #[.int .i64 t.pipe, .int .i64 (t.read + d), .int .i64 t.err] 63))
        have n0_ : (wr.alloc (Obj.cells #[.int .i64 t.pipe, .int .i64 (t.read + d), .int .i64 t.err] 63)).cell? ⟨wr.heap.size, 0, none⟩ = some (.int .i64 t.pipe) := by go_simp
        have n1_ : (wr.alloc (Obj.cells #[.int .i64 t.pipe, .int .i64 (t.read + d), .int .i64 t.err] 63)).cell? ⟨wr.heap.size, 1, none⟩ = some (.int .i64 (t.read + d)) := by go_simp
        have n2_ : (wr.alloc (Obj.cells #[.int .i64 t.pipe, .int .i64 (t.read + d), .int .i64 t.err] 63)).cell? ⟨wr.heap.size, 2, none⟩ = some (.int .i64 t.err) := by go_simp
        have zA : (wr.alloc (Obj.cells #[.int .i64 t.pipe, .int .i64 (t.read + d), .int .i64 t.err] 63)).heap.size = wr.heap.size + 1 := by simp
        generalize (wr.alloc (Obj.cells #[.int .i64 t.pipe, .int .i64 (t.read + d), .int .i64 t.err] 63)) = W2 at *
        replace q0 := kcell kA q0
        replace q1 := kcell kA q1
        replace q2 := kcell kA q2
        replace q3 := kcell kA q3
        replace q4 := kcell kA q4
        replace q5 := kcell kA q5
        have qf' : ∀ i, W2.frozen? ⟨xb, i, none⟩ = false := fun i => ((kturns kA (fun _ => False)).frozen (by omega) (fun h => h)).trans (qf i)
        have qg2 := qf' 2
        clear qf qf2
        with_reducible refine (HL.out W2).mono ?_
        rintro e w3 ⟨rfl, rfl⟩
        obtain ⟨i0, hi, hiz, his, hib⟩ := info_parts infoF
        have ZA := Lib.hid zA
        clear zA
        have hrA := HRA.out
        have hb1 : xb + 1 ≤ W2.heap.size := by have := ZA.out; omega
        go_wp2_with (at_builtin; refine wpList_append_lies _ rfl _ _ 23 rfl (xb + 1) 63 i0 _ 3 24 Tryz.underlying23 hi hiz his hib rfl (by decide) v j _ rfl (hrA.alloc _) ⟨W2.heap.size, 0, none⟩ 1 1 [.int .i64 t.pipe, .int .i64 (t.read + d), .int .i64 t.err] rfl rfl (cell_three_new _ _ _ _ _) (by simp [Value.oneCell']) (by decide) (by unfold maxLen; omega) (by omega) (by simp; omega) _ rfl ?_; intro g cap' W4 hown hgrow hat hlt4; have kB : Turns (fun b => xb + 1 ≤ b) W2 W4 := (kturns (kept_alloc (kept_refl W2) _) _).trans (Ext.refl _ _) (show Turns (fun b => xb + 1 ≤ b) (W2.alloc _) W4 from ⟨hgrow.os, hgrow.tape, hgrow.output, hgrow.size, fun i hi hne => hgrow.block i hi (fun e => hne (hrA.lt i e.symm).1)⟩); have r2 := tcell kB (by omega) q2; have rf : W4.frozen? ⟨xb, 2, none⟩ = false := (kB.frozen (by omega) (by omega)).trans qg2)
        have BX := Lib.hid (((show BoxX W2 xb X v from ⟨q0, q1, q2, q3, q4, q5, qf'⟩).turns kB (by omega)).put (.slice (some ⟨g, 0, none⟩) (j + 1) cap'))
        have TX := Lib.hid (show Turns (fun b => xb ≤ b) V1 (W4.setCell ⟨xb, 2, none⟩ (.slice (some ⟨g, 0, none⟩) (j + 1) cap')) from ((HVV.out.trans (Ext.refl _ _) (kturns kA _)).trans (Ext.refl _ _) (kB.mono fun b _ (h : xb + 1 ≤ b) => (by omega : xb ≤ b))).trans (Ext.refl _ _) ((Turns.refl (fun b => xb ≤ b) W4).setCell (Nat.le_refl _) _ _))
        have RX := Lib.hid (ownsRow_setCell_below hown (a := ⟨xb, 2, none⟩) (Nat.lt_succ_self xb) (.slice (some ⟨g, 0, none⟩) (j + 1) cap'))
        rw [← more_take d X.forks j t HGET.out] at RX
        go_roundw
        case rel =>
          refine ⟨j + 1, _, by omega, by go_num, fun k f hk hf => ?_, RX.out, BX.out, TX.out⟩
          by_cases e : k < j
          · exact HD.out k f e hf
          · obtain rfl : k = j := by omega
            obtain rfl : t = f := Option.some.inj (HGET.out.symm.trans hf)
            simpa [inB] using hg
        case measure => simp [intOf]; omega
    · have hltI : ¬ (j : Int) < X.forks.length := by omega
      obtain rfl : j = X.forks.length := by omega
      rw [List.take_length] at hrow
      obtain ⟨p', cap', hv, hfY⟩ := forks_of_row (ts := X.forks.map (moreF d)) (by rw [List.length_map]; exact hrow)
      rw [List.length_map] at hv
      subst hv
      have hsh : ∀ f ∈ X.forks, -60 ≤ f.read + d ∧ f.read + d ≤ 60 := fun f hf => by
        obtain ⟨i, hi, rfl⟩ := List.getElem_of_mem hf
        exact hdone i _ hi (List.getElem?_eq_getElem hi)
      have kWr : Kept W wr := Below.trans kW1 (hV.toBelow (n := W.heap.size) (fun b hb => by omega) (by omega))
      have x0r := tcell hV (by omega) (tcell kT (by omega) x0)
      have x1r := tcell hV (by omega) (tcell kT (by omega) x1)
      have x2r := tcell hV (by omega) x2V
      have x3r := tcell hV (by omega) (tcell kT (by omega) x3)
      have x4r := tcell hV (by omega) (tcell kT (by omega) x4)
      have x5r := tcell hV (by omega) (tcell kT (by omega) x5)
      obtain ⟨q0, q1, q2, q3, q4, q5, qf⟩ := hbox
      have hokY : (moreB X d p' cap').okB = true := moreB_ok HOK.out.1 hsh
      have hYat := moreB_at (cap := cap') HH.out kWr hfY
      have HAY := Lib.hid (fun i j (hi : i < P) (hj : j < P) V (k : Kept wr V) => (show Calls Tryz.prog 17 #[.agg #[.int .i64 X.pipes, .slice X.tp X.tunes.length X.tcap, .slice p' X.forks.length cap', .slice X.p X.B.boys.length X.cap, .int .i64 X.B.weeks, .slice X.q X.B.trials.length X.capt], .int .i64 (i : Int), .int .i64 (j : Int)] V (SpanO (moreB X d p' cap') P (-(loftF P (moreB X d p' cap') j i)) (loftF P (moreB X d p' cap') i j) V) by
        have := oApart_any (moreB X d p' cap') P i j V (hYat.kept k) (HG.out.1.kept (kept_trans kWr k)) (HG.out.2.kept (kept_trans kWr k)) hokY HOK.out.2.1 hi hj
        rw [show (moreB X d p' cap').forks.length = X.forks.length from List.length_map ..] at this
        exact this))
      have HPY := Lib.hid (fun i (hi : i < P) V (k : Kept wr V) => (show Calls Tryz.prog 18 #[.agg #[.int .i64 X.pipes, .slice X.tp X.tunes.length X.tcap, .slice p' X.forks.length cap', .slice X.p X.B.boys.length X.cap, .int .i64 X.B.weeks, .slice X.q X.B.trials.length X.capt], .int .i64 (i : Int)] V (SpanO (moreB X d p' cap') P (-(loftF P (moreB X d p' cap') i P)) (loftF P (moreB X d p' cap') P i) V) by
        have := oPitch_any (moreB X d p' cap') P i V (hYat.kept k) (HG.out.1.kept (kept_trans kWr k)) (HG.out.2.kept (kept_trans kWr k)) hokY HOK.out.2.1 hi
        rw [show (moreB X d p' cap').forks.length = X.forks.length from List.length_map ..] at this
        exact this))
      have HSH := Lib.hid (fun hc hs hs' => shift_loft (P := P) (X := X) (Y := moreB X d p' cap') HOK.out.1 hokY HOK.out.2.1 d (moreB_shift X d p' cap') hc hs hs')
      clear hokY hYat hsh hdone hrow hfY hV x2V x0 x1 x2 x3 x4 x5 HY HF HNF HFP HH HG
      go_wp2_with fail
      obtain ⟨U0, hU0⟩ : ∃ U, U = wr := ⟨_, rfl⟩
      subst hU0
      go_loopw [11] (fun i V => ∃ k : Nat, k ≤ P ∧ i = .int .i64 k ∧ (∀ p, p < k → (Can X.B ∧ canR (loftF P X) P = true) ∧ (loftF P X P p ≤ 59 ∧ loftF P X p P ≤ 59) ∧ (loftF P X P p + d ≤ 59 ∧ loftF P X p P - d ≤ 59)) ∧ Kept U0 V) (fun i V => P - (intOf i).toNat)
      case atStart => exact ⟨0, by omega, rfl, (fun p hp => absurd hp (by omega)), kept_refl _⟩
      case round =>
        obtain ⟨k, hk, rfl, hst, hV2⟩ := hrel
        have kW2 := kept_trans kWr hV2
        have r0 := kcell hV2 x0r
        have r1 := kcell hV2 x1r
        have r2 := kcell hV2 x2r
        have r3 := kcell hV2 x3r
        have r4 := kcell hV2 x4r
        have r5 := kcell hV2 x5r
        by_cases hlt2 : k < P
        · have hltI2 : (k : Int) < X.pipes := by have := HOK.out.2.1; omega
          have hk5 : k < 5 := by have := HOK.out.2; omega
          have HST := Lib.hid hst
          clear hst
          have HLO := Lib.hid (loft_low HOK.out.1 HOK.out.2.1 (by have := HOK.out.2; omega))
          go_wp2_with fail
          with_reducible refine (HPI.out k hlt2 wr kW2).mono ?_
          rintro e U1 ⟨l0, h0, e0, rfl, hk1, hr0⟩
          have g0 := HLO.out k P
          have g1 := HLO.out P k
          rcases hr0 with ⟨rfl, hcan, rfl, rfl⟩ | ⟨rfl, hno, rfl, rfl⟩
          · have HCN := Lib.hid hcan
            clear hcan
            generalize hs0 : loftF P X k P = s0 at *
            generalize hs1 : loftF P X P k = s1 at *
            have HS0 := Lib.hid (And.intro hs0 hs1)
            clear hs0 hs1
            have hw0 : IntKind.i64.wrap (-s0 + d) = -s0 + d := IntWalk.i64_in _ (by omega)
            have hw1 : IntKind.i64.wrap (s1 + d) = s1 + d := IntWalk.i64_in _ (by omega)
            have kA : Kept wr (U1.alloc (Obj.cells #[.int .i64 (-s0), .int .i64 s1] 35)) := kept_trans hk1 (kept_alloc (kept_refl _) _)
            have c0 : (U1.alloc (Obj.cells #[.int .i64 (-s0), .int .i64 s1] 35)).cell? ⟨U1.heap.size, 0, none⟩ = some (.int .i64 (-s0)) := by go_simp
            have c1 : (U1.alloc (Obj.cells #[.int .i64 (-s0), .int .i64 s1] 35)).cell? ⟨U1.heap.size, 1, none⟩ = some (.int .i64 s1) := by go_simp
            have HB1 := Lib.hid (fun V => bounds_is (-59) 59 V)
            have HB2 := Lib.hid (fun V => bounds_is (-s0 + d) (s1 + d) V)
            clear hk1 r0 r1 r2 r3 r4 r5
            go_wp2_with fail
            generalize (U1.alloc (Obj.cells #[.int .i64 (-s0), .int .i64 s1] 35)) = V2 at *
            generalize U1.heap.size = sb at *
            have kWV2 := kept_trans kW2 kA
            have kUV2 := kept_trans hV2 kA
            by_cases hS1 : -59 ≤ -s0 ∧ s1 ≤ 59
            · have HU1 := Lib.hid (fun V => under_true (-s0) s1 (-59) 59 V hS1.1 hS1.2)
              by_cases hS2 : -59 ≤ -s0 + d ∧ s1 + d ≤ 59
              · have HU2 := Lib.hid (fun V => under_true (-s0 + d) (s1 + d) (-59) 59 V hS2.1 hS2.2)
                have fc0 := cell_regrown c0
                have fc1 := cell_regrown c1
                have HB1W := Lib.hid (fun dd os => Calls.regrown_of (HB1.out (grow (redrawn V2 dd) os)))
                have HB2W := Lib.hid (fun dd os => Calls.regrown_of (HB2.out (grow (redrawn V2 dd) os)))
                have HU1W := Lib.hid (fun dd os => Calls.regrown_of (HU1.out (grow (redrawn V2 dd) os)))
                have HU2W := Lib.hid (fun dd os => Calls.regrown_of (HU2.out (grow (redrawn V2 dd) os)))
                refine wp_region_quiet_below (by kernel_rfl) (by kernel_rfl) ?_
                repeat (any_goals (first | go_big_quiet_skip | quiet_step (first | with_reducible exact HB1W.out _ _ | with_reducible exact HB2W.out _ _ | with_reducible exact HU1W.out _ _ | with_reducible exact HU2W.out _ _)))
                refine wpQuiet_nil ?_
                intro _ hw'
                obtain ⟨⟨dq, osq⟩, hw''⟩ := hw'
                subst hw''
                have kR := below_regrown V2 dq osq
                have kW3 := kept_trans kWV2 kR
                have kU3 := kept_trans kUV2 kR
                clear HB1W HB2W HU1W HU2W fc0 fc1 c0 c1
                generalize grow (redrawn V2 dq) osq = V3 at *
                go_wp2_with fail
                go_roundw
                case rel =>
                  refine ⟨k + 1, by omega, by go_num, fun p hp => ?_, kU3⟩
                  by_cases e : p < k
                  · exact HST.out p e
                  · obtain rfl : p = k := by omega
                    rw [HS0.out.1, HS0.out.2]
                    exact ⟨HCN.out, ⟨hS1.2, by omega⟩, hS2.2, by omega⟩
                case measure => simp [intOf]; omega
              · have HU2 := Lib.hid (fun V => under_no (-s0 + d) (s1 + d) (-59) 59 V hS2)
                have fc0 := cell_regrown c0
                have fc1 := cell_regrown c1
                have HB1W := Lib.hid (fun dd os => Calls.regrown_of (HB1.out (grow (redrawn V2 dd) os)))
                have HB2W := Lib.hid (fun dd os => Calls.regrown_of (HB2.out (grow (redrawn V2 dd) os)))
                have HU1W := Lib.hid (fun dd os => Calls.regrown_of (HU1.out (grow (redrawn V2 dd) os)))
                have HU2W := Lib.hid (fun dd os => Calls.regrown_of (HU2.out (grow (redrawn V2 dd) os)))
                refine wp_region_quiet_below (by kernel_rfl) (by kernel_rfl) ?_
                repeat (any_goals (first | go_big_quiet_skip | quiet_step (first | with_reducible exact HB1W.out _ _ | with_reducible exact HB2W.out _ _ | with_reducible exact HU1W.out _ _ | with_reducible exact HU2W.out _ _)))
                refine wpQuiet_nil ?_
                intro _ hw'
                obtain ⟨⟨dq, osq⟩, hw''⟩ := hw'
                subst hw''
                have kR := below_regrown V2 dq osq
                have kW3 := kept_trans kWV2 kR
                have kU3 := kept_trans kUV2 kR
                clear HB1W HB2W HU1W HU2W fc0 fc1 c0 c1
                generalize grow (redrawn V2 dq) osq = V3 at *
                go_wp2_with fail
                with_reducible refine (HS.out _ kW3).mono ?_
                rintro e w3 ⟨rfl, hk3⟩
                go_wp2_with fail
                refine bodyPost_ret (v := .bool true) (by simp [results, Tryz.results6, go_sem]) rfl ?_
                exact ⟨rfl, kept_trans kW3 hk3⟩
            · have HU1 := Lib.hid (fun V => under_no (-s0) s1 (-59) 59 V hS1)
              have HU2 := HU1
              have fc0 := cell_regrown c0
              have fc1 := cell_regrown c1
              have HB1W := Lib.hid (fun dd os => Calls.regrown_of (HB1.out (grow (redrawn V2 dd) os)))
              have HB2W := Lib.hid (fun dd os => Calls.regrown_of (HB2.out (grow (redrawn V2 dd) os)))
              have HU1W := Lib.hid (fun dd os => Calls.regrown_of (HU1.out (grow (redrawn V2 dd) os)))
              have HU2W := Lib.hid (fun dd os => Calls.regrown_of (HU2.out (grow (redrawn V2 dd) os)))
              refine wp_region_quiet_below (by kernel_rfl) (by kernel_rfl) ?_
              repeat (any_goals (first | go_big_quiet_skip | quiet_step (first | with_reducible exact HB1W.out _ _ | with_reducible exact HB2W.out _ _ | with_reducible exact HU1W.out _ _ | with_reducible exact HU2W.out _ _)))
              refine wpQuiet_nil ?_
              intro _ hw'
              obtain ⟨⟨dq, osq⟩, hw''⟩ := hw'
              subst hw''
              have kR := below_regrown V2 dq osq
              have kW3 := kept_trans kWV2 kR
              have kU3 := kept_trans kUV2 kR
              clear HB1W HB2W HU1W HU2W fc0 fc1 c0 c1
              generalize grow (redrawn V2 dq) osq = V3 at *
              go_wp2_with fail
              with_reducible refine (HS.out _ kW3).mono ?_
              rintro e w3 ⟨rfl, hk3⟩
              go_wp2_with fail
              refine bodyPost_ret (v := .bool true) (by simp [results, Tryz.results6, go_sem]) rfl ?_
              exact ⟨rfl, kept_trans kW3 hk3⟩
          · have kA : Kept wr (U1.alloc (Obj.cells #[.int .i64 0, .int .i64 0] 35)) := kept_trans hk1 (kept_alloc (kept_refl _) _)
            go_wp2_with fail
            generalize (U1.alloc (Obj.cells #[.int .i64 0, .int .i64 0] 35)) = V2 at *
            have kW3 := kept_trans kW2 kA
            with_reducible refine (HS.out _ kW3).mono ?_
            rintro e w3 ⟨rfl, hk3⟩
            go_wp2_with fail
            refine bodyPost_ret (v := .bool true) (by simp [results, Tryz.results6, go_sem]) rfl ?_
            exact ⟨rfl, kept_trans kW3 hk3⟩
        · have hltI2 : ¬ (k : Int) < X.pipes := by have := HOK.out.2.1; omega
          obtain rfl : P = k := by omega
          have hP1 : 1 ≤ P := by have := HOK.out.2; omega
          have hcan := (hst 0 (by omega)).1
          obtain ⟨hcY, hE⟩ := HSH.out hcan.2 (fun i hi => (hst i hi).2.1) (fun i hi => (hst i hi).2.2)
          have CX := Lib.hid hcan
          have CY := Lib.hid (show Can (moreB X d p' cap').B ∧ canR (loftF P (moreB X d p' cap')) P = true from ⟨hcan.1, hcY⟩)
          have sP : shF P d P = 0 := by unfold shF; rw [if_pos rfl]
          have sb_ : shF P d b = d := by unfold shF; rw [if_neg (by omega)]
          have sc_ : shF P d c = d := by unfold shF; rw [if_neg (by omega)]
          have eY1 : loftF P (moreB X d p' cap') P b = loftF P X P b + d := by rw [hE P b (Nat.le_refl _) (by omega), sP, sb_]; omega
          have eY2 : -(loftF P (moreB X d p' cap') b P) = -(loftF P X b P) + d := by rw [hE b P (by omega) (Nat.le_refl _), sP, sb_]; omega
          have eY3 : loftF P (moreB X d p' cap') b c = loftF P X b c := by rw [hE b c (by omega) (by omega), sc_, sb_]; omega
          have eY4 : loftF P (moreB X d p' cap') c b = loftF P X c b := by rw [hE c b (by omega) (by omega), sc_, sb_]; omega
          have H1 := fun V (k : Kept W V) => HPI.out b hbP V k
          have H2 := fun V (k : Kept U0 V) => HPY.out b hbP V k
          have H3 := fun V (k : Kept W V) => HAP.out b c hbP hcP V k
          have H4 := fun V (k : Kept U0 V) => HAY.out b c hbP hcP V k
          rw [eY1, eY2] at H2
          rw [eY3, eY4] at H4
          have HLO := Lib.hid (loft_low HOK.out.1 HOK.out.2.1 (by have := HOK.out.2; omega))
          have g0 := HLO.out b P
          have g1 := HLO.out P b
          have g2 := (hst b hbP).2.1
          obtain ⟨m0, hm0⟩ : ∃ s : Int, s = loftF P X b P := ⟨_, rfl⟩
          obtain ⟨m1, hm1⟩ : ∃ s : Int, s = loftF P X P b := ⟨_, rfl⟩
          obtain ⟨u0, hu0⟩ : ∃ s : Int, s = loftF P X c b := ⟨_, rfl⟩
          obtain ⟨u1, hu1⟩ : ∃ s : Int, s = loftF P X b c := ⟨_, rfl⟩
          rw [← hm0, ← hm1] at H1 H2 g2
          rw [← hu0, ← hu1] at H3 H4
          rw [← hm0] at g0
          rw [← hm1] at g1
          clear hm0 hm1 hu0 hu1
          replace H1 := Lib.hid H1
          replace H2 := Lib.hid H2
          replace H3 := Lib.hid H3
          replace H4 := Lib.hid H4
          clear eY1 eY2 eY3 eY4 hE hst HSH HPI HPY HAP HAY HLO hcY hcan
          have hw0 : IntKind.i64.wrap (-m0 + d) = -m0 + d := IntWalk.i64_in _ (by omega)
          have hw1 : IntKind.i64.wrap (m1 + d) = m1 + d := IntWalk.i64_in _ (by omega)
          have HB := Lib.hid (fun V => bounds_is (-m0 + d) (m1 + d) V)
          have hE1 : ∀ V, (Op.equalIn 10000 35 (.agg #[.int .i64 (-m0 + d), .int .i64 (m1 + d)]) (.agg #[.int .i64 (-m0 + d), .int .i64 (m1 + d)])).run Tryz.prog V = .ok true V := fun V => (eqSpan (-m0 + d) (m1 + d) (-m0 + d) (m1 + d) V).trans (by simp)
          have hE2 : ∀ V, (Op.equalIn 10000 35 (.agg #[.int .i64 (-u0), .int .i64 u1]) (.agg #[.int .i64 (-u0), .int .i64 u1])).run Tryz.prog V = .ok true V := fun V => (eqSpan (-u0) u1 (-u0) u1 V).trans (by simp)
          clear g0 g1 g2
          have z0 := kcell hV2 q0
          have z1 := kcell hV2 q1
          have z2 := kcell hV2 q2
          have z3 := kcell hV2 q3
          have z4 := kcell hV2 q4
          have z5 := kcell hV2 q5
          go_wp2_with fail
          with_reducible refine (H1.out wr kW2).mono ?_
          rintro e Q0 ⟨l0, h0, e0, rfl, hk0, hr0⟩
          obtain ⟨rfl, rfl, rfl⟩ : e0 = 0 ∧ l0 = -m0 ∧ m1 = h0 := by
            rcases hr0 with ⟨w1, _, w2, w3⟩ | ⟨_, h, _⟩
            · exact ⟨w1, w2, w3.symm⟩
            · exact absurd CX.out h
          have kx0 : Kept wr (Q0.alloc (Obj.cells #[.int .i64 (-m0), .int .i64 (m1)] 35)) := kept_trans hk0 (kept_alloc (kept_refl _) _)
          have c00 : (Q0.alloc (Obj.cells #[.int .i64 (-m0), .int .i64 (m1)] 35)).cell? ⟨Q0.heap.size, 0, none⟩ = some (.int .i64 (-m0)) := by go_simp
          have c01 : (Q0.alloc (Obj.cells #[.int .i64 (-m0), .int .i64 (m1)] 35)).cell? ⟨Q0.heap.size, 1, none⟩ = some (.int .i64 (m1)) := by go_simp
          replace r0 := kcell kx0 r0
          replace r1 := kcell kx0 r1
          replace r2 := kcell kx0 r2
          replace r3 := kcell kx0 r3
          replace r4 := kcell kx0 r4
          replace r5 := kcell kx0 r5
          replace z0 := kcell kx0 z0
          replace z1 := kcell kx0 z1
          replace z2 := kcell kx0 z2
          replace z3 := kcell kx0 z3
          replace z4 := kcell kx0 z4
          replace z5 := kcell kx0 z5
          replace kW2 := kept_trans kW2 kx0
          replace hV2 := kept_trans hV2 kx0
          clear hk0 hr0
          go_wp2_with fail
          generalize (Q0.alloc (Obj.cells #[.int .i64 (-m0), .int .i64 (m1)] 35)) = R0 at *
          generalize Q0.heap.size = p0 at *
          clear kx0
          with_reducible refine (H2.out R0 hV2).mono ?_
          rintro e Q1 ⟨l1, h1, e1, rfl, hk1, hr1⟩
          obtain ⟨rfl, rfl, rfl⟩ : e1 = 0 ∧ l1 = -m0 + d ∧ m1 + d = h1 := by
            rcases hr1 with ⟨w1, _, w2, w3⟩ | ⟨_, h, _⟩
            · exact ⟨w1, w2, w3.symm⟩
            · exact absurd CY.out h
          have kx1 : Kept R0 (Q1.alloc (Obj.cells #[.int .i64 (-m0 + d), .int .i64 (m1 + d)] 35)) := kept_trans hk1 (kept_alloc (kept_refl _) _)
          have c10 : (Q1.alloc (Obj.cells #[.int .i64 (-m0 + d), .int .i64 (m1 + d)] 35)).cell? ⟨Q1.heap.size, 0, none⟩ = some (.int .i64 (-m0 + d)) := by go_simp
          have c11 : (Q1.alloc (Obj.cells #[.int .i64 (-m0 + d), .int .i64 (m1 + d)] 35)).cell? ⟨Q1.heap.size, 1, none⟩ = some (.int .i64 (m1 + d)) := by go_simp
          replace r0 := kcell kx1 r0
          replace r1 := kcell kx1 r1
          replace r2 := kcell kx1 r2
          replace r3 := kcell kx1 r3
          replace r4 := kcell kx1 r4
          replace r5 := kcell kx1 r5
          replace z0 := kcell kx1 z0
          replace z1 := kcell kx1 z1
          replace z2 := kcell kx1 z2
          replace z3 := kcell kx1 z3
          replace z4 := kcell kx1 z4
          replace z5 := kcell kx1 z5
          replace c00 := kcell kx1 c00
          replace c01 := kcell kx1 c01
          replace kW2 := kept_trans kW2 kx1
          replace hV2 := kept_trans hV2 kx1
          clear hk1 hr1
          go_wp2_with fail
          generalize (Q1.alloc (Obj.cells #[.int .i64 (-m0 + d), .int .i64 (m1 + d)] 35)) = R1 at *
          generalize Q1.heap.size = p1 at *
          clear kx1
          with_reducible refine (H3.out R1 kW2).mono ?_
          rintro e Q2 ⟨l2, h2, e2, rfl, hk2, hr2⟩
          obtain ⟨rfl, rfl, rfl⟩ : e2 = 0 ∧ l2 = -u0 ∧ u1 = h2 := by
            rcases hr2 with ⟨w1, _, w2, w3⟩ | ⟨_, h, _⟩
            · exact ⟨w1, w2, w3.symm⟩
            · exact absurd CX.out h
          have kx2 : Kept R1 (Q2.alloc (Obj.cells #[.int .i64 (-u0), .int .i64 (u1)] 35)) := kept_trans hk2 (kept_alloc (kept_refl _) _)
          have c20 : (Q2.alloc (Obj.cells #[.int .i64 (-u0), .int .i64 (u1)] 35)).cell? ⟨Q2.heap.size, 0, none⟩ = some (.int .i64 (-u0)) := by go_simp
          have c21 : (Q2.alloc (Obj.cells #[.int .i64 (-u0), .int .i64 (u1)] 35)).cell? ⟨Q2.heap.size, 1, none⟩ = some (.int .i64 (u1)) := by go_simp
          replace r0 := kcell kx2 r0
          replace r1 := kcell kx2 r1
          replace r2 := kcell kx2 r2
          replace r3 := kcell kx2 r3
          replace r4 := kcell kx2 r4
          replace r5 := kcell kx2 r5
          replace z0 := kcell kx2 z0
          replace z1 := kcell kx2 z1
          replace z2 := kcell kx2 z2
          replace z3 := kcell kx2 z3
          replace z4 := kcell kx2 z4
          replace z5 := kcell kx2 z5
          replace c00 := kcell kx2 c00
          replace c01 := kcell kx2 c01
          replace c10 := kcell kx2 c10
          replace c11 := kcell kx2 c11
          replace kW2 := kept_trans kW2 kx2
          replace hV2 := kept_trans hV2 kx2
          clear hk2 hr2
          go_wp2_with fail
          generalize (Q2.alloc (Obj.cells #[.int .i64 (-u0), .int .i64 (u1)] 35)) = R2 at *
          generalize Q2.heap.size = p2 at *
          clear kx2
          with_reducible refine (H4.out R2 hV2).mono ?_
          rintro e Q3 ⟨l3, h3, e3, rfl, hk3, hr3⟩
          obtain ⟨rfl, rfl, rfl⟩ : e3 = 0 ∧ l3 = -u0 ∧ u1 = h3 := by
            rcases hr3 with ⟨w1, _, w2, w3⟩ | ⟨_, h, _⟩
            · exact ⟨w1, w2, w3.symm⟩
            · exact absurd CY.out h
          have kx3 : Kept R2 (Q3.alloc (Obj.cells #[.int .i64 (-u0), .int .i64 (u1)] 35)) := kept_trans hk3 (kept_alloc (kept_refl _) _)
          have c30 : (Q3.alloc (Obj.cells #[.int .i64 (-u0), .int .i64 (u1)] 35)).cell? ⟨Q3.heap.size, 0, none⟩ = some (.int .i64 (-u0)) := by go_simp
          have c31 : (Q3.alloc (Obj.cells #[.int .i64 (-u0), .int .i64 (u1)] 35)).cell? ⟨Q3.heap.size, 1, none⟩ = some (.int .i64 (u1)) := by go_simp
          replace r0 := kcell kx3 r0
          replace r1 := kcell kx3 r1
          replace r2 := kcell kx3 r2
          replace r3 := kcell kx3 r3
          replace r4 := kcell kx3 r4
          replace r5 := kcell kx3 r5
          replace z0 := kcell kx3 z0
          replace z1 := kcell kx3 z1
          replace z2 := kcell kx3 z2
          replace z3 := kcell kx3 z3
          replace z4 := kcell kx3 z4
          replace z5 := kcell kx3 z5
          replace c00 := kcell kx3 c00
          replace c01 := kcell kx3 c01
          replace c10 := kcell kx3 c10
          replace c11 := kcell kx3 c11
          replace c20 := kcell kx3 c20
          replace c21 := kcell kx3 c21
          replace kW2 := kept_trans kW2 kx3
          replace hV2 := kept_trans hV2 kx3
          clear hk3 hr3
          go_wp2_with fail
          generalize (Q3.alloc (Obj.cells #[.int .i64 (-u0), .int .i64 (u1)] 35)) = R3 at *
          generalize Q3.heap.size = p3 at *
          clear kx3
          have HBW := Lib.hid (fun dd os => Calls.regrown_of (HB.out (grow (redrawn R3 dd) os)))
          have HSW := Lib.hid (fun dd os => Calls.regrown_of (HS.out (grow (redrawn R3 dd) os) (kept_trans kW2 (below_regrown R3 dd os))))
          have fc00 := cell_regrown c00
          have fc01 := cell_regrown c01
          have fc10 := cell_regrown c10
          have fc11 := cell_regrown c11
          have fc20 := cell_regrown c20
          have fc21 := cell_regrown c21
          have fc30 := cell_regrown c30
          have fc31 := cell_regrown c31
          refine wp_region_quiet_below (by kernel_rfl) (by kernel_rfl) ?_
          repeat (any_goals (first | go_big_quiet_skip | quiet_step (first | with_reducible exact HBW.out _ _ | with_reducible exact HSW.out _ _)))
          refine wpQuiet_nil ?_
          intro _ hw'
          obtain ⟨⟨dq, osq⟩, hw''⟩ := hw'
          subst hw''
          have kR := below_regrown R3 dq osq
          replace kW2 := kept_trans kW2 kR
          go_wp2_with fail
          refine bodyPost_ret (v := .bool true) (by simp [results, Tryz.results6, go_sem]) rfl ?_
          exact ⟨rfl, kW2⟩
end Go.Proofs.YthgfbokfaidklaaGreatDoor
set_option linter.all false
namespace Go.Proofs.YthgfbokfaidklaaGreatDoor
open Go.ChangeShapes Go.WideShapes Go.ChangeAt Go.WideMaps Go.WideElems Go.RowKit Go.Deep Go.Rg
set_option maxRecDepth 100000
theorem organShiftcA : Tryz.prog.cellsOf 52 = 3 := by kernel_rfl
theorem organShiftlen {α : Type} {l : List α} (h : l.length = 3) : ∃ a0 a1 a2, l = [a0, a1, a2] := by
  match l, h with
  | [a0, a1, a2], _ => exact ⟨a0, a1, a2, rfl⟩
set_option maxHeartbeats 1000000 in
theorem organShiftlifted (os : Os) (started : os.Started) (H : Type) (enc : TypeId × Value → H) :
    ReturnsInHanded {} Tryz.checked os 6 .any (fun w args => (Rows.organShiftSpec.pre enc Tryz.prog Tryz.f6 [] false w args ∧ laidMetH Tryz.prog oklaid w) ∧ sizedMet enc Tryz.prog Tryz.f6 (OpenSpec.ofChange Rows.organShiftSpec) false w args)
      (Rows.organShiftSpec.post enc Tryz.prog Tryz.f6 false true false false) := by
  refine returnsInHanded_of_change_and (C := Tryz.checked) (X := fun w _ => laidMetH Tryz.prog oklaid w) (fun _ _ _ hh h => h.of_heap hh) okown started (by kernel_rfl) Tryz.func6
    (ChangeSpec.witness_shaped (enc := enc) (C := Tryz.checked) (os := os) (X := fun w _ => laidMetH Tryz.prog oklaid w) false (World.doorLaid Tryz.prog 400 os) #[.agg #[.int .i64 0, .slice none 0 0, .slice none 0 0, .slice none 0 0, .int .i64 0, .slice none 0 0], .agg #[.int .i64 0, .int .i64 0, .int .i64 0]] 8 rfl (World.shaped_of_RefB (by kernel_rfl) (by kernel_rfl)) (by kernel_rfl) (by kernel_rfl) (by kernel_rfl) (okdoor_met os _)) ?_
  intro W base args ds gs before hval0 hW _ hwt0 hL _
  have hW' := hW
  obtain ⟨p, q, hA0, hV, rfl, hfz, hnd⟩ := hW
  have hA : DataW.TrodAll enc Tryz.prog W 0 (fun _ => true) true Tryz.f6.params.toList args.toList ds p := hA0
  have hval := hval0
  have hwt := hwt0
  rw [Tryz.params6] at hA hval hwt
  obtain ⟨v0, v1, d0, d1, p0, p1, rfl, rfl, rfl, h0, h1⟩ := trodAll_two hA
  obtain ⟨rfl, rfl⟩ := trodVars_none hV
  have hlt : ∀ x ∈ p0 ++ p1, x.block < W.heap.size := fun x hx => hW'.lt x (by simpa using hx)
  have a0 : ∀ (W' : World), Below W.heap.size W W' → DataW.Trod enc Tryz.prog W' 0 (fun b => decide (b < W.heap.size)) true 29 v0 d0 p0 :=
    fun W' hn => Below.trod vlaidOut (by kernel_rfl) (of_decide_eq_true (by kernel_rfl)) h0 hn (fun x hx => hlt x (List.mem_append_left _ hx))
  have a1 : ∀ (W' : World), Below W.heap.size W W' → DataW.Trod enc Tryz.prog W' 0 (fun b => decide (b < W.heap.size)) true 52 v1 d1 p1 :=
    fun W' hn => Below.trod vlaidOut (by kernel_rfl) (of_decide_eq_true (by kernel_rfl)) h1 hn (fun x hx => hlt x (List.mem_append_right _ hx))
  obtain ⟨X, rfl, hBook, hN, hR⟩ := obook_reads hL (hval 0 29 v0 rfl rfl) hwt h0
  obtain ⟨c1, rfl, hc1⟩ := okWide_arr Tryz.underlying52 (hval 1 52 v1 rfl rfl)
  obtain ⟨fu1, hf1⟩ := h1
  obtain ⟨xs, m1, _, _, hl1, hxl, hel⟩ := DataW.trod_array Tryz.underlying52 hf1
  rw [organShiftcA] at hc1
  obtain ⟨l3⟩ := c1
  obtain ⟨m0v, m1v, m2v, rfl⟩ := organShiftlen (by simpa using hc1)
  obtain ⟨z0, z1, z2, rfl⟩ := organShiftlen hxl
  have w0 : DataW.trod enc Tryz.prog W 0 (fun _ => true) true m1 3 (([m0v, m1v, m2v].drop (0 * Tryz.prog.cellsOf 3)).take (Tryz.prog.cellsOf 3)) = some z0 := hel 0 (by omega)
  have w1 : DataW.trod enc Tryz.prog W 0 (fun _ => true) true m1 3 (([m0v, m1v, m2v].drop (1 * Tryz.prog.cellsOf 3)).take (Tryz.prog.cellsOf 3)) = some z1 := hel 1 (by omega)
  have w2 : DataW.trod enc Tryz.prog W 0 (fun _ => true) true m1 3 (([m0v, m1v, m2v].drop (2 * Tryz.prog.cellsOf 3)).take (Tryz.prog.cellsOf 3)) = some z2 := hel 2 (by omega)
  rw [vcI] at w0 w1 w2
  obtain ⟨n0, rfl⟩ := one_int w0
  obtain ⟨n1, rfl⟩ := one_int w1
  obtain ⟨n2, rfl⟩ := one_int w2
  clear w0 w1 w2 hel hf1 hl1 hc1
  have hlaw : Calls Tryz.prog 6 #[X.val, .agg #[.int .i64 n0, .int .i64 n1, .int .i64 n2]] W fun e C => e = .returned (.bool true) ∧ Kept W C := by
    cases hok : X.okB with
    | false => exact oshift_false X n0 n1 n2 W hBook hN hR hok
    | true => exact oshift_true X n0 n1 n2 W hBook hN hR hok
  refine hlaw.mono fun e W' ⟨he, hk⟩ => ?_
  subst he
  exact ⟨_, rfl, _, _, _, [], _, [], hW', trodAll_mk1 (shut_bool Tryz.underlying4 true), ⟨_, _, a0 W' hk, ⟨_, _, a1 W' hk, rfl, rfl⟩, rfl⟩, rfl, kept_but hk _, fun h => by cases h⟩

theorem organShift_holds : Rows.OrganShiftSaid :=
  OpenClaim.holds_of_wide 6 Tryz.f6 rfl rfl rfl rfl rfl rfl rfl ⟨rfl, rfl, rfl, rfl, rfl⟩ rfl rfl rfl rfl rfl (by kernel_rfl) Tryz.func6 (by kernel_rfl)
    (of_decide_eq_true (by kernel_rfl)) (by unfold Func.isWrapper; first | (rw [if_pos (by decide +kernel)]; kernel_rfl) | (rw [if_neg (by decide +kernel)]; exact ⟨rfl, rfl⟩))
    (fun os started H enc _ => organShiftlifted os started H enc)

theorem organShiftsi0 : Tryz.prog.wantsStandIn 29 = false := by kernel_rfl
theorem organShiftsi1 : Tryz.prog.wantsStandIn 52 = false := by kernel_rfl
theorem organShift_card_holds : Rows.OrganShiftCardSaid :=
  Claim7.holds_tied_plain_at .later [] [.data, .data, .data] true (true, "adc118102b576362af84347bc0f77ad6379f6116131371dcce160aa089cb0024") false
    organShift_holds (fun _ h => by cases h) (by kernel_rfl) (fun _ h => by cases h) organShift_row_tie rfl ⟨rfl, rfl⟩ (by kernel_rfl) rfl
    (fun f fn hf hfn => by
      obtain rfl : f = 6 := Option.some.inj ((show Tryz.prog.funcNamed "decani/decanilaw08.OrganShift" = some 6 by kernel_rfl).symm.trans hf) |>.symm
      obtain rfl : fn = Tryz.f6 := (Option.some.inj (Tryz.func6.symm.trans hfn)).symm
      exact ⟨by kernel_rfl, fun j t ht => by
        rw [Tryz.params6] at ht
        match j, ht with
        | 0, ht => simp at ht; subst ht; exact organShiftsi0
        | 1, ht => simp at ht; subst ht; exact organShiftsi1
        | n + 2, ht => simp at ht⟩)
    (by kernel_rfl)
#print axioms organShift_card_holds
end Go.Proofs.YthgfbokfaidklaaGreatDoor
