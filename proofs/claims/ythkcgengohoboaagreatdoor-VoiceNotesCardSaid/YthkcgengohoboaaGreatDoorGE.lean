/- How the row's arguments read as a book, and what the laid variables hold. No conditions. -/
import Derived.Test.YthkcgengohoboaaGreatDoorGD
import Derived.Test.YthkcgengohoboaaGreatDoorST
import Derived.Test.YthkcgengohoboaaGreatDoorCards
import Derived.Test.YthkcgengohoboaaGreatDoorTie
import Derived.WalkKit
import Derived.ProofKit
import Derived.OpenShut
import Derived.LaidMore
import Derived.Lib.LaidTab
import Derived.Stop.Joined
import Derived.Carry
import Derived.SizedLaws
import Derived.Deep.Slices
import Derived.Deep.Strs
set_option linter.all false
set_option linter.all false
namespace Go.Proofs.YthkcgengohoboaaGreatDoor
open Go.RowKit Go.Sort Go.Rg
set_option maxRecDepth 100000

theorem getD_bool {x : Option Value} {b : Bool} (h : x.getD undef = .bool b) : x = some (.bool b) := by
  cases x with
  | none => exact absurd h (by simp [undef])
  | some v => exact congrArg some h

end Go.Proofs.YthkcgengohoboaaGreatDoor
set_option linter.all false
namespace Go.Proofs.YthkcgengohoboaaGreatDoor
open Go.RowKit Go.Sort Go.Rg
set_option maxRecDepth 100000

set_option maxHeartbeats 2000000 in
theorem breaks_any (p q : Option Addr) (cap capt : Nat) (B : Book) (boy : Nat) (W : World) (h : BookAt W p q cap capt B) (hg : Nothing W) (hok0 : B.okB = true) (hb : boy < B.boys.length) :
    Calls Tryz.prog 14 #[B.val p q cap capt, .int .i64 (boy : Int)] W (BothP B boy (fun n => (n.getD 4 0, true)) W) := by
  have hk0 : Kept W ((W.alloc (Obj.cells #[.slice p B.boys.length cap, .int .i64 B.weeks, .slice q B.trials.length capt] 25)).alloc (Obj.cells #[.int .i64 0, .int .i64 0] 32)) := kept_alloc (kept_alloc (kept_refl _) _) _
  have hcall := bothEnds_any p q cap capt B boy 4 (by omega) _ (h.kept hk0) (hg.kept hk0) hok0 hb
  have HC := Lib.hid hcall; clear hcall
  unfold Book.val at HC ⊢
  have s0 : ((W.alloc (Obj.cells #[.slice p B.boys.length cap, .int .i64 B.weeks, .slice q B.trials.length capt] 25)).alloc (Obj.cells #[.int .i64 0, .int .i64 0] 32)).cell? ⟨W.heap.size + 1, 0, none⟩ = some (.int .i64 0) := by go_simp
  have s1 : ((W.alloc (Obj.cells #[.slice p B.boys.length cap, .int .i64 B.weeks, .slice q B.trials.length capt] 25)).alloc (Obj.cells #[.int .i64 0, .int .i64 0] 32)).cell? ⟨W.heap.size + 1, 1, none⟩ = some (.int .i64 0) := by go_simp
  have sf : ∀ i, ((W.alloc (Obj.cells #[.slice p B.boys.length cap, .int .i64 B.weeks, .slice q B.trials.length capt] 25)).alloc (Obj.cells #[.int .i64 0, .int .i64 0] 32)).frozen? ⟨W.heap.size + 1, i, none⟩ = false := by intro i; go_simp
  go_enter Tryz.func14, Tryz.ntmps14
  generalize hBP : BothP B boy (fun n => (n.getD 4 0, true)) W = PP at *
  go_wp2_with fail
  generalize (W.alloc (Obj.cells #[.slice p B.boys.length cap, .int .i64 B.weeks, .slice q B.trials.length capt] 25)).alloc (Obj.cells #[.int .i64 0, .int .i64 0] 32) = W0 at *
  refine HC.out.mono ?_
  rintro e w2 ⟨lo, hi, err, rfl, hk2, hr⟩
  have t0 := kcell hk2 s0
  have t1 := kcell hk2 s1
  have tf0 : w2.frozen? ⟨W.heap.size + 1, 0, none⟩ = false := ((kturns hk2 (fun _ => False)).frozen (Go.Ai.lt_of_cell s0) (fun h => h)).trans (sf 0)
  have tf1 : w2.frozen? ⟨W.heap.size + 1, 1, none⟩ = false := ((kturns hk2 (fun _ => False)).frozen (Go.Ai.lt_of_cell s0) (fun h => h)).trans (sf 1)
  have hzs := Go.Ai.lt_of_cell t0
  go_wp2_with fail
  have hT := Turns.setCell (T := fun b => b = W.heap.size + 1) (Turns.setCell (T := fun b => b = W.heap.size + 1) (Turns.refl _ w2) rfl 0 (.int .i64 lo)) rfl 1 (.int .i64 hi)
  have v0 := (cell_set_ne (W := w2.setCell ⟨W.heap.size + 1, 0, none⟩ (.int .i64 lo)) (b := W.heap.size + 1) (o := 1) (o' := 0) (v := .int .i64 hi) (by omega)).trans (cell_set_eq t0)
  have v1 := cell_set_eq (v := .int .i64 hi) ((cell_set_ne (W := w2) (b := W.heap.size + 1) (o := 0) (o' := 1) (v := .int .i64 lo) (by omega)).trans t1)
  refine bodyPost_ret (v := .tuple #[.agg #[.int .i64 lo, .int .i64 hi], .int .i64 err]) (by simp [results, Tryz.results14, go_sem, v0, v1]) rfl ?_
  rw [← hBP]
  refine ⟨lo, hi, err, rfl, ?_, hr⟩
  exact Below.trans (kept_trans hk0 hk2) (hT.toBelow (n := W.heap.size) (by rintro b rfl; omega) (by have := (kept_trans hk0 hk2).size; omega))
end Go.Proofs.YthkcgengohoboaaGreatDoor
set_option linter.all false
namespace Go.Proofs.YthkcgengohoboaaGreatDoor
open Go.RowKit Go.Sort Go.Rg
set_option maxRecDepth 100000

theorem lies_any (n l h : Int) (w : World) : Calls Tryz.prog 37 #[.int .i64 n, .int .i64 l, .int .i64 h] w fun e w' => e = .returned (.bool (inB n l h)) ∧ w = w' := by
  by_cases h1 : l ≤ n
  · have h2 : decide (l ≤ n) = true := by simpa using h1
    have H : inB n l h = decide (n ≤ h) := by simp [inB, h1]
    rw [H]; clear H h1
    go_enter Tryz.func37, Tryz.ntmps37
    go_wp2
    go_ret
    exact ⟨rfl, rfl⟩
  · have h2 : decide (l ≤ n) = false := by simpa using h1
    have H : inB n l h = false := by simp [inB, h1]
    rw [H]; clear H h1
    go_enter Tryz.func37, Tryz.ntmps37
    go_wp2
    go_ret
    exact ⟨rfl, rfl⟩
/-- a list of small numbers that can be read -/
def ListAt (w : World) (v : Value) (l : List Nat) : Prop :=
  (v = .slice none 0 0 ∧ l = []) ∨ ∃ b cap, v = .slice (some ⟨b, 0, none⟩) l.length cap ∧ b < w.heap.size ∧ ∀ i x, l[i]? = some x → w.cell? ⟨b, i, none⟩ = some (.int .i64 ((x : Nat) : Int))
theorem ListAt.kept {w w' : World} {v : Value} {l : List Nat} (h : ListAt w v l) (k : Kept w w') : ListAt w' v l :=
  h.imp id fun ⟨b, cap, e, hb, hc⟩ => ⟨b, cap, e, Nat.lt_of_lt_of_le hb k.size, fun i x hx => kcell k (hc i x hx)⟩
theorem ListAt.of_row {w : World} {n : Nat} {v : Value} {l : List Nat} {e : TypeId} (h : w.ownsRow n e 1 v l.length (intsV l)) : ListAt w v l := by
  have hc := h
  rcases h.2 with ⟨rfl, h0⟩ | ⟨g, cap, cur, rfl, _, hg, _⟩
  · exact .inl ⟨rfl, List.length_eq_zero_iff.1 h0⟩
  · refine .inr ⟨g, cap, rfl, (Array.getElem?_eq_some_iff.1 hg).1, fun i x hx => ?_⟩
    have hi : i < l.length := (List.getElem?_eq_some_iff.1 hx).1
    rw [hc.cellAt i (by omega)]
    simp [intsV, hx]
end Go.Proofs.YthkcgengohoboaaGreatDoor
set_option linter.all false
namespace Go.Proofs.YthkcgengohoboaaGreatDoor
open Go.RowKit Go.Sort Go.Rg
set_option maxRecDepth 100000

end Go.Proofs.YthkcgengohoboaaGreatDoor
set_option linter.all false
namespace Go.Proofs.YthkcgengohoboaaGreatDoor
open Go.RowKit Go.Sort Go.Rg
set_option maxRecDepth 100000

theorem okB_boys {B : Book} (h : B.okB = true) : (1 ≤ B.boys.length ∧ B.boys.length ≤ 4 ∧ 1 ≤ B.weeks ∧ B.weeks ≤ 6 ∧ B.trials.length ≤ 6) ∧ (∀ x ∈ B.boys, x.okB = true) ∧ ∀ t ∈ B.trials, validTrialB B.boys.length B.weeks.toNat t = true := by
  simp only [Book.okB, inB, Bool.and_eq_true, decide_eq_true_eq, List.all_eq_true] at h
  obtain ⟨⟨⟨⟨h1, h2⟩, h3⟩, h4⟩, h5⟩ := h
  exact ⟨by omega, h4, h5⟩
theorem boy_nums {x : Boy} (h : x.okB = true) : (0 ≤ x.l0 ∧ x.l0 ≤ x.l1 ∧ x.l1 ≤ 40 ∧ x.l1 - x.l0 ≤ 2) ∧ (0 ≤ x.h0 ∧ x.h0 ≤ x.h1 ∧ x.h1 ≤ 40 ∧ x.h1 - x.h0 ≤ 2) ∧ (0 ≤ x.g0 ∧ x.g0 ≤ x.g1 ∧ x.g1 ≤ 2 ∧ x.g1 - x.g0 ≤ 1) ∧ (0 ≤ x.t0 ∧ x.t0 ≤ x.t1 ∧ x.t1 ≤ 6 ∧ x.t1 - x.t0 ≤ 2) ∧ (0 ≤ x.b0 ∧ x.b0 ≤ x.b1 ∧ x.b1 ≤ 9 ∧ x.b1 - x.b0 ≤ 3) ∧ 0 ≤ x.ls ∧ x.ls ≤ 2 := by
  simp only [Boy.okB, spanAt, spanB, inB, Bool.and_eq_true, decide_eq_true_eq, Bool.not_eq_true', decide_eq_false_iff_not] at h
  omega

end Go.Proofs.YthkcgengohoboaaGreatDoor
set_option linter.all false
namespace Go.Proofs.YthkcgengohoboaaGreatDoor
open Go.RowKit Go.Sort Go.Rg
set_option maxRecDepth 100000

end Go.Proofs.YthkcgengohoboaaGreatDoor
set_option linter.all false
namespace Go.Proofs.YthkcgengohoboaaGreatDoor
open Go.RowKit Go.Sort Go.Rg
set_option maxRecDepth 100000

theorem sung_is (w : World) (hL : Laid w) (hN : Nothing w) : Calls Tryz.prog 18 #[] w fun e w' => e = .returned (.bool true) ∧ Kept w w' := by
  obtain ⟨l0, l1⟩ := hL
  have I : Go.Ai.Inv 3 (fun b => ⟨b, 0, 0⟩) seTop.heap w := by
    refine Go.Ai.start_inv (G := 3) (by decide) (by decide) (by decide) fun b x hx => ?_
    simp only [seTop, List.mem_cons, List.not_mem_nil, or_false, Prod.mk.injEq] at hx
    rcases hx with ⟨rfl, rfl⟩ | ⟨rfl, rfl⟩ | ⟨rfl, rfl⟩
    · refine .inr ⟨_, rfl, by decide, fun i v hv => ?_, Go.Ai.lt_of_cell (hN 0 (by omega))⟩
      match i, hv with
      | 0, hv => cases hv; exact hN 0 (by omega)
      | 1, hv => cases hv; exact hN 1 (by omega)
      | 2, hv => cases hv; exact hN 2 (by omega)
      | 3, hv => cases hv; exact hN 3 (by omega)
      | 4, hv => cases hv; exact hN 4 (by omega)
    · obtain ⟨m0, m1, m2, m3, m4, m5, m6, m7, m8, m9⟩ := l1
      refine .inr ⟨_, rfl, by decide, fun i v hv => ?_, l0⟩
      match i, hv with
      | 0, hv => cases hv; exact m0
      | 1, hv => cases hv; exact m1
      | 2, hv => cases hv; exact m2
      | 3, hv => cases hv; exact m3
      | 4, hv => cases hv; exact m4
      | 5, hv => cases hv; exact m5
      | 6, hv => cases hv; exact m6
      | 7, hv => cases hv; exact m7
      | 8, hv => cases hv; exact m8
      | 9, hv => cases hv; exact m9
    · exact .inl rfl
  refine (Go.Ai.calls_of_ent seTop_h rfl I rfl).mono fun e w' ⟨j2, he, A⟩ => ⟨?_, ⟨A.os, A.tape, A.output, A.size, A.heap⟩⟩
  rw [he]; rfl

section
variable {B : Book} {sb sb' : Nat → List Int → Bool} {n : Nat}
end
end Go.Proofs.YthkcgengohoboaaGreatDoor
set_option linter.all false
namespace Go.Proofs.YthkcgengohoboaaGreatDoor
open Go.ChangeShapes Go.WideShapes Go.ChangeAt Go.WideMaps Go.WideElems Go.RowKit Go.Deep Go.Rg
set_option maxRecDepth 100000

theorem vown : ownKnob Tryz.prog.godebug = none := by kernel_rfl
theorem vlaidOut : laidOutB Tryz.prog = true := by kernel_rfl
theorem gNoth : Tryz.prog.globalNamed "decani/voice.nothing" = some 0 := by kernel_rfl
theorem tNoth : (Tryz.prog.globals[0]?).map (·.type) = some 108 := by kernel_rfl
theorem gBnds : Tryz.prog.globalNamed "decani/voice.bounds" = some 1 := by kernel_rfl
theorem tBnds : (Tryz.prog.globals[1]?).map (·.type) = some 194 := by kernel_rfl
theorem vcI : Tryz.prog.cellsOf 3 = 1 := by kernel_rfl
theorem vcN : Tryz.prog.cellsOf 108 = 5 := by kernel_rfl
theorem vcP : Tryz.prog.cellsOf 193 = 2 := by kernel_rfl
theorem vcS : Tryz.prog.cellsOf 32 = 2 := by kernel_rfl
theorem vcB : Tryz.prog.cellsOf 97 = 11 := by kernel_rfl
theorem vcT : Tryz.prog.cellsOf 49 = 4 := by kernel_rfl
theorem vcL : Tryz.prog.cellsOf 22 = 1 := by kernel_rfl
theorem vcM : Tryz.prog.cellsOf 23 = 1 := by kernel_rfl
theorem vcK : Tryz.prog.cellsOf 25 = 3 := by kernel_rfl
section
variable {H : Type} {enc : TypeId × Value → H} {w : World} {base : Nat} {sp : Nat → Bool} {held : Bool} {fuel : Nat} {cs : List Value} {x : DataW H × List MemPlace}
theorem one_int {c : Value} (h : DataW.trod enc Tryz.prog w base sp held fuel 3 [c] = some x) : ∃ n, c = .int .i64 n := by
  obtain ⟨z, e, _⟩ := DataW.trod_int Tryz.underlying3 h
  simp at e
  exact ⟨z, e⟩
theorem span_ints {c d : Value} (h : DataW.trod enc Tryz.prog w base sp held fuel 32 [c, d] = some x) : ∃ a b, c = .int .i64 a ∧ d = .int .i64 b := by
  obtain ⟨xs, n, _, hx, hl, hn, hf⟩ := DataW.trod_struct Tryz.underlying32 h
  match xs, hn with
  | [y0, y1], _ =>
    have t0 : DataW.trod enc Tryz.prog w base sp held n 3 (([c, d].drop 0).take (Tryz.prog.cellsOf 3)) = some y0 := hf 0 _ rfl
    have t1 : DataW.trod enc Tryz.prog w base sp held n 3 (([c, d].drop 1).take (Tryz.prog.cellsOf 3)) = some y1 := hf 1 _ rfl
    rw [vcI] at t0 t1
    obtain ⟨a, rfl⟩ := one_int t0
    obtain ⟨b, rfl⟩ := one_int t1
    exact ⟨a, b, rfl, rfl⟩
def boyCells (x : Boy) : List Value := [.int .i64 x.l0, .int .i64 x.l1, .int .i64 x.h0, .int .i64 x.h1, .int .i64 x.g0, .int .i64 x.g1, .int .i64 x.t0, .int .i64 x.t1, .int .i64 x.ls, .int .i64 x.b0, .int .i64 x.b1]
theorem boy_ints (h : DataW.trod enc Tryz.prog w base sp held fuel 97 cs = some x) : ∃ b : Boy, cs = boyCells b := by
  obtain ⟨xs, n, _, hx, hl, hn, hf⟩ := DataW.trod_struct Tryz.underlying97 h
  rw [vcB] at hl
  match cs, hl, xs, hn with
  | [c0, c1, c2, c3, c4, c5, c6, c7, c8, c9, c10], _, [y0, y1, y2, y3, y4, y5], _ =>
    have t0 : DataW.trod enc Tryz.prog w base sp held n 32 (([c0, c1, c2, c3, c4, c5, c6, c7, c8, c9, c10].drop 0).take (Tryz.prog.cellsOf 32)) = some y0 := hf 0 _ rfl
    have t1 : DataW.trod enc Tryz.prog w base sp held n 32 (([c0, c1, c2, c3, c4, c5, c6, c7, c8, c9, c10].drop 2).take (Tryz.prog.cellsOf 32)) = some y1 := hf 1 _ rfl
    have t2 : DataW.trod enc Tryz.prog w base sp held n 32 (([c0, c1, c2, c3, c4, c5, c6, c7, c8, c9, c10].drop 4).take (Tryz.prog.cellsOf 32)) = some y2 := hf 2 _ rfl
    have t3 : DataW.trod enc Tryz.prog w base sp held n 32 (([c0, c1, c2, c3, c4, c5, c6, c7, c8, c9, c10].drop 6).take (Tryz.prog.cellsOf 32)) = some y3 := hf 3 _ rfl
    have t4 : DataW.trod enc Tryz.prog w base sp held n 3 (([c0, c1, c2, c3, c4, c5, c6, c7, c8, c9, c10].drop 8).take (Tryz.prog.cellsOf 3)) = some y4 := hf 4 _ rfl
    have t5 : DataW.trod enc Tryz.prog w base sp held n 32 (([c0, c1, c2, c3, c4, c5, c6, c7, c8, c9, c10].drop 9).take (Tryz.prog.cellsOf 32)) = some y5 := hf 5 _ rfl
    rw [vcS] at t0 t1 t2 t3 t5
    rw [vcI] at t4
    obtain ⟨a0, a1, rfl, rfl⟩ := span_ints t0
    obtain ⟨a2, a3, rfl, rfl⟩ := span_ints t1
    obtain ⟨a4, a5, rfl, rfl⟩ := span_ints t2
    obtain ⟨a6, a7, rfl, rfl⟩ := span_ints t3
    obtain ⟨a8, rfl⟩ := one_int t4
    obtain ⟨a9, a10, rfl, rfl⟩ := span_ints t5
    exact ⟨⟨a0, a1, a2, a3, a4, a5, a6, a7, a8, a9, a10⟩, rfl⟩
def trialCells (t : Trial) : List Value := [.int .i64 t.boy, .int .i64 t.week, .int .i64 t.note, .int .i64 t.sang]
theorem trial_ints (h : DataW.trod enc Tryz.prog w base sp held fuel 49 cs = some x) : ∃ t : Trial, cs = trialCells t := by
  obtain ⟨xs, n, _, hx, hl, hn, hf⟩ := DataW.trod_struct Tryz.underlying49 h
  rw [vcT] at hl
  match cs, hl, xs, hn with
  | [c0, c1, c2, c3], _, [y0, y1, y2, y3], _ =>
    have t0 : DataW.trod enc Tryz.prog w base sp held n 3 (([c0, c1, c2, c3].drop 0).take (Tryz.prog.cellsOf 3)) = some y0 := hf 0 _ rfl
    have t1 : DataW.trod enc Tryz.prog w base sp held n 3 (([c0, c1, c2, c3].drop 1).take (Tryz.prog.cellsOf 3)) = some y1 := hf 1 _ rfl
    have t2 : DataW.trod enc Tryz.prog w base sp held n 3 (([c0, c1, c2, c3].drop 2).take (Tryz.prog.cellsOf 3)) = some y2 := hf 2 _ rfl
    have t3 : DataW.trod enc Tryz.prog w base sp held n 3 (([c0, c1, c2, c3].drop 3).take (Tryz.prog.cellsOf 3)) = some y3 := hf 3 _ rfl
    rw [vcI] at t0 t1 t2 t3
    obtain ⟨a0, rfl⟩ := one_int t0
    obtain ⟨a1, rfl⟩ := one_int t1
    obtain ⟨a2, rfl⟩ := one_int t2
    obtain ⟨a3, rfl⟩ := one_int t3
    exact ⟨⟨a0, a1, a2, a3⟩, rfl⟩
/-- a slice of structs whose cells are numbers, opened -/
theorem rows_of {α : Type} [Inhabited α] {t e : TypeId} {k : Nat} (f : α → List Value) (hk : 0 < k) (hfl : ∀ y, (f y).length = k) (ht : Tryz.prog.underlying t = some (.slice e)) (hc : Tryz.prog.cellsOf e = k)
    (hel : ∀ (n : Nat) (cs : List Value) (x : DataW H × List MemPlace), DataW.trod enc Tryz.prog w base (fun _ => true) held n e cs = some x → ∃ y, cs = f y)
    {c : Value} (h : DataW.trod enc Tryz.prog w base (fun _ => true) held fuel t [c] = some x) :
    ∃ (p : Option Addr) (cap : Nat) (l : List α), c = .slice p l.length cap ∧ (l = [] ∨ ∃ es ss, x.1 = .slice es ss ∧ es.length = l.length) ∧ (l = [] ∨ ∃ b o, p = some ⟨b, o, none⟩ ∧ b < w.heap.size ∧ ∀ i y, l[i]? = some y → ∀ j, j < k → w.cell? ⟨b, o + i * k + j, none⟩ = (f y)[j]?) ∧ l.length ≤ cap := by
  rcases open_slice ht h with ⟨h0, _⟩ | ⟨a, len, cap, m, n, D, Pl, hcs, hb, hl, hm, hmm, hx, hi⟩
  · simp at h0
    exact ⟨none, 0, [], h0, .inl rfl, .inl rfl, Nat.le_refl _⟩
  · simp at hcs hmm
    rw [hc] at hi
    obtain ⟨g, hg⟩ := choose_lt (n := len) (p := fun i y => w.cells? base (a.add (i * k)) k = some (f y)) (fun i hil => by
      obtain ⟨cs', h1, h2⟩ := hi i (by omega)
      obtain ⟨y, rfl⟩ := hel _ _ _ h2
      exact ⟨y, h1⟩)
    refine ⟨some a, cap, (List.range len).map g, by simpa using hcs, .inr ⟨_, _, congrArg Prod.fst hx, by simp⟩, ?_, by simpa using hl⟩
    by_cases h0 : len = 0
    · exact .inl (by simp [h0])
    right
    have hcell : ∀ i, i < len → ∀ j, j < k → w.cell? ((a.add (i * k)).add j) = (f (g i))[j]? := fun i hil j hj => (World.cells?_some (hg i hil)).2.2 j hj
    have hz := hcell 0 (by omega) 0 hk
    rw [Nat.zero_mul] at hz
    have he : ((a.add 0).add 0) = a := by simp [Addr.add]
    rw [he, List.getElem?_eq_getElem (by rw [hfl]; exact hk)] at hz
    have hsp := World.cell?_spot hz
    obtain ⟨b, o, s⟩ := a
    simp only at hsp
    subst hsp
    refine ⟨b, o, rfl, Go.Ai.lt_of_cell hz, fun i y hy j hj => ?_⟩
    simp only [List.getElem?_map, Option.map_eq_some_iff] at hy
    obtain ⟨i', hi', rfl⟩ := hy
    obtain ⟨hil, rfl⟩ : i < len ∧ i' = i := by
      have := List.getElem?_eq_some_iff.1 hi'
      obtain ⟨h1, h2⟩ := this
      simp at h1 h2
      exact ⟨h1, h2.symm⟩
    have := hcell _ hil j hj
    rw [add_plain, add_plain] at this
    exact this
end
def vlaid : List (String × DataW Unit) := [("decani/voice.nothing", Rows.laid_decani_voice_nothing), ("decani/voice.bounds", Rows.laid_decani_voice_bounds)]
theorem vdoor_met (os : Os) (args : Array Value) : laidMetH Tryz.prog vlaid ((World.doorLaid Tryz.prog 400 os).forCall (fun _ _ => 0) ⟨#[], args, []⟩).memory :=
  laidMetH_of_parts3 (fuel := 8) (laidMet_of_run' 8 (by kernel_rfl) (by kernel_rfl)) (by kernel_rfl) (by kernel_rfl)

/-- An array of pairs of integers, cell for cell. -/
theorem pairs_of_trod {H : Type} {enc : TypeId × Value → H} {P : Program} {w : World} {base : Nat} {sp : Nat → Bool} {held : Bool} {fuel : Nat} {t e u : TypeId} {n : Nat} {k : IntKind} {f0 f1 : Field} {cs : List Value} {l : List (Int × Int)} {q : List MemPlace}
    (ht : P.underlying t = some (.array n e)) (he : P.underlying e = some (.struct #[f0, f1])) (hu : P.underlying u = some (.int k)) (h0 : f0.type = u) (h1 : f1.type = u) (o0 : f0.offset = 0) (o1 : f1.offset = 1) (ce : P.cellsOf e = 2) (cu : P.cellsOf u = 1)
    (h : DataW.trod enc P w base sp held fuel t cs = some (.agg (l.map fun p => .agg [.lit (.int k p.1), .lit (.int k p.2)]), q)) : ∀ (i : Nat) (p : Int × Int), l[i]? = some p → cs[2 * i]? = some (.int k p.1) ∧ cs[2 * i + 1]? = some (.int k p.2) := by
  intro i p hp
  obtain ⟨xs, m, _, hx, hl, hn, hel⟩ := DataW.trod_array ht h
  simp only [Prod.mk.injEq, DataW.agg.injEq] at hx
  have hi : i < l.length := by
    rcases Nat.lt_or_ge i l.length with h' | h'
    · exact h'
    · rw [List.getElem?_eq_none h'] at hp; cases hp
  have hxl : xs.length = l.length := by
    have := congrArg List.length hx.1
    simpa using this.symm
  obtain ⟨y, hy⟩ : ∃ y, xs[i]? = some y := ⟨xs[i], by simp [show i < xs.length by omega]⟩
  have hy1 : y.1 = .agg [.lit (.int k p.1), .lit (.int k p.2)] := by
    have := congrArg (fun z => z[i]?) hx.1
    simp only [List.getElem?_map, hp, hy, Option.map_some, Option.some.injEq] at this
    exact this.symm
  have hE := hel i (by omega)
  rw [hy, ce] at hE
  obtain ⟨y0, y1, m', hyy, _, t0, t1⟩ := trod_struct2 he hE
  rw [h0, o0, cu] at t0
  rw [h1, o1, cu] at t1
  obtain ⟨z0, c0, e0, _⟩ := DataW.trod_int hu t0
  obtain ⟨z1, c1, e1, _⟩ := DataW.trod_int hu t1
  rw [hyy, e0, e1] at hy1
  simp only [DataW.agg.injEq, List.cons.injEq, DataW.lit.injEq, Lit.int.injEq, true_and, and_true] at hy1
  obtain ⟨rfl, rfl⟩ := hy1
  refine ⟨?_, ?_⟩
  · have := congrArg (fun z => z[0]?) c0
    simp [List.getElem?_take, List.getElem?_drop] at this
    rw [Nat.mul_comm]
    exact this
  · have := congrArg (fun z => z[0]?) c1
    simp [List.getElem?_take, List.getElem?_drop] at this
    rw [Nat.mul_comm]
    exact this

def bndL : List (Int × Int) := [(40, 2), (40, 2), (2, 1), (6, 2), (9, 3)]
def bndF : List Int := [40, 2, 40, 2, 2, 1, 6, 2, 9, 3]
theorem of_vlaid {W : World} (h : laidMetH Tryz.prog vlaid W) : (∀ i, i < 5 → W.cell? ⟨0, i, none⟩ = some (.int .i64 (-1))) ∧ ∀ i, i < 10 → W.cell? ⟨1, i, none⟩ = some (.int .i64 (bndF.getD i 0)) := by
  rw [MakeChecks.laidMetH_plain _ _ _ (by kernel_rfl)] at h
  refine ⟨fun i hi => ?_, ?_⟩
  · have hT := Lib.tabIs_of_head (k := .i64) (zs := [-1, -1, -1, -1, -1]) gNoth tNoth Tryz.underlying108 Tryz.underlying3 vcI vcN h
    have := hT.cell gNoth i hi
    rw [this]
    match i, hi with
    | 0, _ => rfl
    | 1, _ => rfl
    | 2, _ => rfl
    | 3, _ => rfl
    | 4, _ => rfl
  · obtain ⟨ps, ⟨_, _, _, _, _, _, _, _, _, _, ⟨g, t, cs, fuel, p, q, hg, ht, hv, hd, _⟩, _⟩, _⟩ := h
    obtain rfl := Option.some.inj (gBnds.symm.trans hg)
    obtain rfl := Option.some.inj (tBnds.symm.trans ht)
    have hp := pairs_of_trod (l := bndL) Tryz.underlying194 Tryz.underlying193 Tryz.underlying3 rfl rfl rfl rfl vcP vcI hd
    have cell : ∀ i v, cs.toList[i]? = some v → W.cell? ⟨1, i, none⟩ = some v := fun i v hv' => by
      have := World.var?_cell hg hv i
      rw [this, ← Array.getElem?_toList]
      exact hv'
    intro i hi
    match i, hi with
    | 0, _ => exact cell 0 _ (hp 0 _ rfl).1
    | 1, _ => exact cell 1 _ (hp 0 _ rfl).2
    | 2, _ => exact cell 2 _ (hp 1 _ rfl).1
    | 3, _ => exact cell 3 _ (hp 1 _ rfl).2
    | 4, _ => exact cell 4 _ (hp 2 _ rfl).1
    | 5, _ => exact cell 5 _ (hp 2 _ rfl).2
    | 6, _ => exact cell 6 _ (hp 3 _ rfl).1
    | 7, _ => exact cell 7 _ (hp 3 _ rfl).2
    | 8, _ => exact cell 8 _ (hp 4 _ rfl).1
    | 9, _ => exact cell 9 _ (hp 4 _ rfl).2


theorem kept_but {W W' : World} (hb : Below W.heap.size W W') (may : MemPlace → Prop) : W.keptBut W' may := by
  refine ⟨hb.os, hb.output, fun i hi => ?_⟩
  rw [hb.block i hi]
  cases W.heap[i]? with
  | none => rfl
  | some o => cases o <;> first | exact ⟨rfl, rfl, rfl, fun _ _ => rfl⟩ | exact .inr ⟨rfl, rfl⟩ | rfl

theorem okWide_arr {P : Program} {w : World} {r : Reach} {base n : Nat} {t e : TypeId} {v : Value} (ht : P.underlying t = some (.array n e)) (h : Value.okWide P w r base t v) : ∃ cs, v = .agg cs ∧ cs.size = P.cellsOf t := by
  simp only [Value.okWide, ht] at h
  obtain ⟨cs, h1, h2, _⟩ := h
  exact ⟨cs, h1, h2⟩
theorem len3 {α : Type} {l : List α} (h : l.length = 3) : ∃ a b c, l = [a, b, c] := by
  match l, h with
  | [a, b, c], _ => exact ⟨a, b, c, rfl⟩
theorem vbB : Tryz.prog.bytesOf 97 = 88 := by kernel_rfl
theorem vbT : Tryz.prog.bytesOf 49 = 32 := by kernel_rfl
theorem few_boys {H : Type} {y : DataW H} {k : Nat} (hw : ∀ n ∈ y.weights Tryz.prog 22, n ≤ reachBytes) (h : ∃ es ss, y = .slice es ss ∧ es.length = k) : k ≤ 140737488355328 := by
  obtain ⟨es, ss, rfl, rfl⟩ := h
  have := hw ((es.length + ss.length) * Tryz.prog.bytesOf 97) (by simp [DataW.weights, Tryz.underlying22])
  rw [vbB] at this
  have := reachBytes_lt
  omega
theorem few_trials {H : Type} {y : DataW H} {k : Nat} (hw : ∀ n ∈ y.weights Tryz.prog 23, n ≤ reachBytes) (h : ∃ es ss, y = .slice es ss ∧ es.length = k) : k ≤ 140737488355328 := by
  obtain ⟨es, ss, rfl, rfl⟩ := h
  have := hw ((es.length + ss.length) * Tryz.prog.bytesOf 49) (by simp [DataW.weights, Tryz.underlying23])
  rw [vbT] at this
  have := reachBytes_lt
  omega
theorem book_weights {H : Type} {y0 y1 y2 : DataW H} {ts : List TypeId} {ds : List (DataW H)} (h : (DataW.weightsEach Tryz.prog (25 :: ts) (.agg [y0, y1, y2] :: ds)).all (· ≤ reachBytes) = true) :
    (∀ n ∈ y0.weights Tryz.prog 22, n ≤ reachBytes) ∧ ∀ n ∈ y2.weights Tryz.prog 23, n ≤ reachBytes := by
  have hall := fun n hn => of_decide_eq_true (List.all_eq_true.1 h n hn)
  have hin : ∀ n, n ∈ (DataW.agg [y0, y1, y2]).weights Tryz.prog 25 → n ≤ reachBytes := fun n hn => hall n (DataW.weights_mem_each (j := 0) rfl rfl n hn)
  refine ⟨fun n hn => hin n ?_, fun n hn => hin n ?_⟩
  · simp only [DataW.weights, Tryz.underlying25]
    exact DataW.weights_mem_each (j := 0) rfl rfl n hn
  · simp only [DataW.weights, Tryz.underlying25]
    exact DataW.weights_mem_each (j := 2) rfl rfl n hn
end Go.Proofs.YthkcgengohoboaaGreatDoor
set_option linter.all false
namespace Go.Proofs.YthkcgengohoboaaGreatDoor
open Go.RowKit Go.Sort Go.Rg
set_option maxRecDepth 100000

set_option maxHeartbeats 2000000 in
theorem lowest_any (p q : Option Addr) (cap capt : Nat) (B : Book) (boy : Nat) (W : World) (h : BookAt W p q cap capt B) (hg : Nothing W) (hok0 : B.okB = true) (hb : boy < B.boys.length) :
    Calls Tryz.prog 12 #[B.val p q cap capt, .int .i64 (boy : Int)] W (BothP B boy (fun n => (n.getD 0 0, true)) W) := by
  have hk0 : Kept W ((W.alloc (Obj.cells #[.slice p B.boys.length cap, .int .i64 B.weeks, .slice q B.trials.length capt] 25)).alloc (Obj.cells #[.int .i64 0, .int .i64 0] 32)) := kept_alloc (kept_alloc (kept_refl _) _) _
  have hcall := bothEnds_any p q cap capt B boy 0 (by omega) _ (h.kept hk0) (hg.kept hk0) hok0 hb
  have HC := Lib.hid hcall; clear hcall
  unfold Book.val at HC ⊢
  have s0 : ((W.alloc (Obj.cells #[.slice p B.boys.length cap, .int .i64 B.weeks, .slice q B.trials.length capt] 25)).alloc (Obj.cells #[.int .i64 0, .int .i64 0] 32)).cell? ⟨W.heap.size + 1, 0, none⟩ = some (.int .i64 0) := by go_simp
  have s1 : ((W.alloc (Obj.cells #[.slice p B.boys.length cap, .int .i64 B.weeks, .slice q B.trials.length capt] 25)).alloc (Obj.cells #[.int .i64 0, .int .i64 0] 32)).cell? ⟨W.heap.size + 1, 1, none⟩ = some (.int .i64 0) := by go_simp
  have sf : ∀ i, ((W.alloc (Obj.cells #[.slice p B.boys.length cap, .int .i64 B.weeks, .slice q B.trials.length capt] 25)).alloc (Obj.cells #[.int .i64 0, .int .i64 0] 32)).frozen? ⟨W.heap.size + 1, i, none⟩ = false := by intro i; go_simp
  go_enter Tryz.func12, Tryz.ntmps12
  generalize hBP : BothP B boy (fun n => (n.getD 0 0, true)) W = PP at *
  go_wp2_with fail
  generalize (W.alloc (Obj.cells #[.slice p B.boys.length cap, .int .i64 B.weeks, .slice q B.trials.length capt] 25)).alloc (Obj.cells #[.int .i64 0, .int .i64 0] 32) = W0 at *
  refine HC.out.mono ?_
  rintro e w2 ⟨lo, hi, err, rfl, hk2, hr⟩
  have t0 := kcell hk2 s0
  have t1 := kcell hk2 s1
  have tf0 : w2.frozen? ⟨W.heap.size + 1, 0, none⟩ = false := ((kturns hk2 (fun _ => False)).frozen (Go.Ai.lt_of_cell s0) (fun h => h)).trans (sf 0)
  have tf1 : w2.frozen? ⟨W.heap.size + 1, 1, none⟩ = false := ((kturns hk2 (fun _ => False)).frozen (Go.Ai.lt_of_cell s0) (fun h => h)).trans (sf 1)
  have hzs := Go.Ai.lt_of_cell t0
  go_wp2_with fail
  have hT := Turns.setCell (T := fun b => b = W.heap.size + 1) (Turns.setCell (T := fun b => b = W.heap.size + 1) (Turns.refl _ w2) rfl 0 (.int .i64 lo)) rfl 1 (.int .i64 hi)
  have v0 := (cell_set_ne (W := w2.setCell ⟨W.heap.size + 1, 0, none⟩ (.int .i64 lo)) (b := W.heap.size + 1) (o := 1) (o' := 0) (v := .int .i64 hi) (by omega)).trans (cell_set_eq t0)
  have v1 := cell_set_eq (v := .int .i64 hi) ((cell_set_ne (W := w2) (b := W.heap.size + 1) (o := 0) (o' := 1) (v := .int .i64 lo) (by omega)).trans t1)
  refine bodyPost_ret (v := .tuple #[.agg #[.int .i64 lo, .int .i64 hi], .int .i64 err]) (by simp [results, Tryz.results12, go_sem, v0, v1]) rfl ?_
  rw [← hBP]
  refine ⟨lo, hi, err, rfl, ?_, hr⟩
  exact Below.trans (kept_trans hk0 hk2) (hT.toBelow (n := W.heap.size) (by rintro b rfl; omega) (by have := (kept_trans hk0 hk2).size; omega))
end Go.Proofs.YthkcgengohoboaaGreatDoor
set_option linter.all false
namespace Go.Proofs.YthkcgengohoboaaGreatDoor
open Go.RowKit Go.Sort Go.Rg
set_option maxRecDepth 100000

end Go.Proofs.YthkcgengohoboaaGreatDoor
set_option linter.all false
namespace Go.Proofs.YthkcgengohoboaaGreatDoor
open Go.RowKit Go.Sort Go.Rg
set_option maxRecDepth 100000

theorem spanFold (f : List Int → Int × Bool) (l : List (List Int)) : ∀ (a b : Int), a ≤ b → ∃ lo hi, l.foldl (spanAcc f) (a, b, true) = (lo, hi, true) ∧ lo ≤ a ∧ b ≤ hi ∧
    (∀ n ∈ l, (f n).2 = true → lo ≤ (f n).1 ∧ (f n).1 ≤ hi) ∧ (lo = a ∨ ∃ n ∈ l, (f n).2 = true ∧ (f n).1 = lo) ∧ (hi = b ∨ ∃ n ∈ l, (f n).2 = true ∧ (f n).1 = hi) := by
  induction l with
  | nil => exact fun a b h => ⟨a, b, rfl, by omega, by omega, by simp, .inl rfl, .inl rfl⟩
  | cons n l ih =>
    intro a b h
    rw [List.foldl_cons]
    cases hn : (f n).2 with
    | false =>
      have e : spanAcc f (a, b, true) n = (a, b, true) := by simp [spanAcc, hn]
      rw [e]
      obtain ⟨lo, hi, e1, h1, h2, h3, h4, h5⟩ := ih a b h
      refine ⟨lo, hi, e1, h1, h2, ?_, ?_, ?_⟩
      · intro m hm ht
        rcases List.mem_cons.1 hm with rfl | hm
        · rw [hn] at ht; cases ht
        · exact h3 m hm ht
      · exact h4.imp id (fun ⟨m, hm, r⟩ => ⟨m, List.mem_cons_of_mem _ hm, r⟩)
      · exact h5.imp id (fun ⟨m, hm, r⟩ => ⟨m, List.mem_cons_of_mem _ hm, r⟩)
    | true =>
      have e : spanAcc f (a, b, true) n = (min a (f n).1, max b (f n).1, true) := by simp [spanAcc, hn, spanStep]
      rw [e]
      obtain ⟨lo, hi, e1, h1, h2, h3, h4, h5⟩ := ih (min a (f n).1) (max b (f n).1) (by omega)
      have H4 := Lib.hid h4; have H5 := Lib.hid h5; have H := Lib.hid h3
      clear h4 h5 h3 ih
      refine ⟨lo, hi, e1, by omega, by omega, ?_, ?_, ?_⟩
      · intro m hm ht
        rcases List.mem_cons.1 hm with rfl | hm
        · omega
        · exact H.out m hm ht
      · rcases H4.out with h4 | ⟨m, hm, r⟩
        · by_cases hc : a ≤ (f n).1
          · exact .inl (by omega)
          · exact .inr ⟨n, List.mem_cons_self, hn, by omega⟩
        · exact .inr ⟨m, List.mem_cons_of_mem _ hm, r⟩
      · rcases H5.out with h5 | ⟨m, hm, r⟩
        · by_cases hc : (f n).1 ≤ b
          · exact .inl (by omega)
          · exact .inr ⟨n, List.mem_cons_self, hn, by omega⟩
        · exact .inr ⟨m, List.mem_cons_of_mem _ hm, r⟩
theorem spanOf_none (f : List Int → Int × Bool) (l : List (List Int)) : (∀ n ∈ l, (f n).2 = false) → spanOf f l = (0, 0, false) := by
  induction l with
  | nil => exact fun _ => rfl
  | cons n l ih =>
    intro h
    have e : spanAcc f (0, 0, false) n = (0, 0, false) := by simp [spanAcc, h n List.mem_cons_self]
    unfold spanOf
    rw [List.foldl_cons, e]
    exact ih (fun m hm => h m (List.mem_cons_of_mem _ hm))
theorem spanOf_some (f : List Int → Int × Bool) (l : List (List Int)) : (∃ n ∈ l, (f n).2 = true) → ∃ lo hi, spanOf f l = (lo, hi, true) ∧ lo ≤ hi ∧
    (∀ n ∈ l, (f n).2 = true → lo ≤ (f n).1 ∧ (f n).1 ≤ hi) ∧ (∃ n ∈ l, (f n).2 = true ∧ (f n).1 = lo) ∧ (∃ n ∈ l, (f n).2 = true ∧ (f n).1 = hi) := by
  induction l with
  | nil => rintro ⟨_, h, _⟩; cases h
  | cons n l ih =>
    intro h
    unfold spanOf
    rw [List.foldl_cons]
    cases hn : (f n).2 with
    | false =>
      have e : spanAcc f (0, 0, false) n = (0, 0, false) := by simp [spanAcc, hn]
      rw [e]
      obtain ⟨lo, hi, e1, h1, h3, ⟨m4, h4, h4'⟩, ⟨m5, h5, h5'⟩⟩ := ih (by
        obtain ⟨m, hm, ht⟩ := h
        rcases List.mem_cons.1 hm with rfl | hm
        · rw [hn] at ht; cases ht
        · exact ⟨m, hm, ht⟩)
      refine ⟨lo, hi, e1, h1, ?_, ⟨m4, List.mem_cons_of_mem _ h4, h4'⟩, ⟨m5, List.mem_cons_of_mem _ h5, h5'⟩⟩
      intro m hm ht
      rcases List.mem_cons.1 hm with rfl | hm
      · rw [hn] at ht; cases ht
      · exact h3 m hm ht
    | true =>
      have e : spanAcc f (0, 0, false) n = ((f n).1, (f n).1, true) := by simp [spanAcc, hn, spanStep]
      rw [e]
      obtain ⟨lo, hi, e1, h1, h2, h3, h4, h5⟩ := spanFold f l (f n).1 (f n).1 (by omega)
      have H4 := Lib.hid h4; have H5 := Lib.hid h5; have H := Lib.hid h3; have Hh := Lib.hid h
      clear h4 h5 h3 ih h
      refine ⟨lo, hi, e1, by omega, ?_, ?_, ?_⟩
      · intro m hm ht
        rcases List.mem_cons.1 hm with rfl | hm
        · omega
        · exact H.out m hm ht
      · rcases H4.out with h4 | ⟨m, hm, r⟩
        · exact ⟨n, List.mem_cons_self, hn, by omega⟩
        · exact ⟨m, List.mem_cons_of_mem _ hm, r⟩
      · rcases H5.out with h5 | ⟨m, hm, r⟩
        · exact ⟨n, List.mem_cons_self, hn, by omega⟩
        · exact ⟨m, List.mem_cons_of_mem _ hm, r⟩

/-- the highest note in a week, and is the voice not broken? -/
def lossOf (B : Book) (boy : Nat) : Int := (B.boys[boy]?.map Boy.ls).getD 0
def hiF (B : Book) (boy : Nat) (wk : Int) (n : List Int) : Int × Bool := (top (n.getD 1 0) (n.getD 2 0) (n.getD 3 0) (lossOf B boy) wk, decide (wk < n.getD 4 0))
/-- what the law says of both ends, the highest note and how often a note can be sung -/
structure TopsAt (x : Boy) (week note lo0 lo1 br0 br1 tp0 tp1 : Int) (fd : Bool) (kind : Int) : Prop where
  a1 : x.l0 ≤ lo0
  a2 : lo0 ≤ lo1
  a3 : lo1 ≤ x.l1
  b1 : x.b0 ≤ br0
  b2 : br0 ≤ br1
  b3 : br1 ≤ x.b1
  k1 : 0 ≤ kind
  k2 : kind ≤ 2
  t1 : fd = false ↔ br1 ≤ week
  t2 : fd = false → kind = 0 ∧ tp0 = 0 ∧ tp1 = 0
  t3 : fd = true → tp0 ≤ tp1
  t4 : fd = true → tp1 < note → kind = 0
  t5 : note < lo0 → kind = 0
  t6 : fd = true → note = tp1 → lo1 ≤ note → kind ≠ 0
  t7 : fd = true → week < br0 → lo1 ≤ note → note ≤ tp0 → kind = 2
end Go.Proofs.YthkcgengohoboaaGreatDoor
