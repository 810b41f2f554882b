/- Regions that draw their order, in any frame: where each operation's value and the world are known for each set of operations that are over. No conditions. -/
import Derived.Test.YtchgkfnodcbpiaaDoorVB
import Derived.RangeFuncNested
import Derived.RangeFuncCalls
import Derived.RangeFuncLeaves
import Derived.WalkKit
import Derived.Lib.QuietBelowIn
import Derived.Sort.QuietTacIn
import Derived.TacticsIn
import Derived.Test.YtchgkfnodcbpiaaDoorAiL
import Derived.RangeFuncBound
import Derived.Shelf.Abstract
import Derived.Shelf.RegionOpen
import Derived.OwnWalkIn
import Derived.TacticsInMore
import Derived.LoopNIn
import Derived.LoopIn
set_option linter.all false
set_option linter.all false
namespace Go.Proofs.YtchgkfnodcbpiaaDoor
open Go.RowKit Go.Sort
set_option maxRecDepth 100000

structure Boy where
  l0 : Int
  l1 : Int
  h0 : Int
  h1 : Int
  g0 : Int
  g1 : Int
  t0 : Int
  t1 : Int
  ls : Int
  b0 : Int
  b1 : Int
  deriving Inhabited

/-- the bounds of the program's own table lie in their variable -/
def Laid (w : World) : Prop := 1 < w.heap.size ∧ w.cell? ⟨1, 0, none⟩ = some (.int .i64 40) ∧ w.cell? ⟨1, 1, none⟩ = some (.int .i64 2) ∧ w.cell? ⟨1, 2, none⟩ = some (.int .i64 40) ∧ w.cell? ⟨1, 3, none⟩ = some (.int .i64 2) ∧ w.cell? ⟨1, 4, none⟩ = some (.int .i64 2) ∧ w.cell? ⟨1, 5, none⟩ = some (.int .i64 1) ∧ w.cell? ⟨1, 6, none⟩ = some (.int .i64 6) ∧ w.cell? ⟨1, 7, none⟩ = some (.int .i64 2) ∧ w.cell? ⟨1, 8, none⟩ = some (.int .i64 9) ∧ w.cell? ⟨1, 9, none⟩ = some (.int .i64 3)
theorem Laid.kept {w W : World} (h : Laid w) (k : Kept w W) : Laid W := by
  obtain ⟨hc, _, hz⟩ := bcell k
  obtain ⟨h5, h⟩ := h
  refine ⟨Nat.lt_of_lt_of_le h5 hz, ?_⟩
  rw [hc 1 0 (by omega), hc 1 1 (by omega), hc 1 2 (by omega), hc 1 3 (by omega), hc 1 4 (by omega), hc 1 5 (by omega), hc 1 6 (by omega), hc 1 7 (by omega), hc 1 8 (by omega), hc 1 9 (by omega)]
  exact h

def BoysAt (w : World) (b o : Nat) (l : List Boy) : Prop := b < w.heap.size ∧ ∀ i x, l[i]? = some x → w.cell? ⟨b, o + i * 11, none⟩ = some (.int .i64 x.l0) ∧ w.cell? ⟨b, o + i * 11 + 1, none⟩ = some (.int .i64 x.l1) ∧ w.cell? ⟨b, o + i * 11 + 2, none⟩ = some (.int .i64 x.h0) ∧ w.cell? ⟨b, o + i * 11 + 3, none⟩ = some (.int .i64 x.h1) ∧ w.cell? ⟨b, o + i * 11 + 4, none⟩ = some (.int .i64 x.g0) ∧ w.cell? ⟨b, o + i * 11 + 5, none⟩ = some (.int .i64 x.g1) ∧ w.cell? ⟨b, o + i * 11 + 6, none⟩ = some (.int .i64 x.t0) ∧ w.cell? ⟨b, o + i * 11 + 7, none⟩ = some (.int .i64 x.t1) ∧ w.cell? ⟨b, o + i * 11 + 8, none⟩ = some (.int .i64 x.ls) ∧ w.cell? ⟨b, o + i * 11 + 9, none⟩ = some (.int .i64 x.b0) ∧ w.cell? ⟨b, o + i * 11 + 10, none⟩ = some (.int .i64 x.b1)
theorem BoysAt.kept {w W : World} {b o : Nat} {l : List Boy} (h : BoysAt w b o l) (k : Kept w W) : BoysAt W b o l := by
  obtain ⟨hc, _, hz⟩ := bcell k
  refine ⟨Nat.lt_of_lt_of_le h.1 hz, fun i x hi => ?_⟩
  have := h.2 i x hi
  rw [hc _ _ h.1, hc _ _ h.1, hc _ _ h.1, hc _ _ h.1, hc _ _ h.1, hc _ _ h.1, hc _ _ h.1, hc _ _ h.1, hc _ _ h.1, hc _ _ h.1, hc _ _ h.1]
  exact this

def Boy.okB (x : Boy) : Bool := spanAt x.l0 x.l1 x.h0 x.h1 x.g0 x.g1 x.t0 x.t1 x.ls x.b0 x.b1 0 && spanAt x.l0 x.l1 x.h0 x.h1 x.g0 x.g1 x.t0 x.t1 x.ls x.b0 x.b1 1 && spanAt x.l0 x.l1 x.h0 x.h1 x.g0 x.g1 x.t0 x.t1 x.ls x.b0 x.b1 2 && spanAt x.l0 x.l1 x.h0 x.h1 x.g0 x.g1 x.t0 x.t1 x.ls x.b0 x.b1 3 && spanAt x.l0 x.l1 x.h0 x.h1 x.g0 x.g1 x.t0 x.t1 x.ls x.b0 x.b1 4 && inB x.ls 0 2

theorem validP_eq (x : Boy) (r : Bool) (h : ValidP (spanAt x.l0 x.l1 x.h0 x.h1 x.g0 x.g1 x.t0 x.t1 x.ls x.b0 x.b1) (inB x.ls 0 2) r) : r = x.okB := by
  unfold ValidP at h
  rw [Bool.eq_iff_iff, h]
  simp only [Boy.okB, Bool.and_eq_true]
  constructor
  · intro ⟨a, b⟩
    exact ⟨⟨⟨⟨⟨a 0 (by omega), a 1 (by omega)⟩, a 2 (by omega)⟩, a 3 (by omega)⟩, a 4 (by omega)⟩, b⟩
  · rintro ⟨⟨⟨⟨⟨a0, a1⟩, a2⟩, a3⟩, a4⟩, b⟩
    refine ⟨fun j hj => ?_, b⟩
    rcases (show j = 0 ∨ j = 1 ∨ j = 2 ∨ j = 3 ∨ j = 4 by omega) with rfl | rfl | rfl | rfl | rfl <;> assumption

theorem validBoy_eq (x : Boy) (w : World) (hL : Laid w) : Calls Tryd.prog 61 #[.agg #[.int .i64 x.l0, .int .i64 x.l1, .int .i64 x.h0, .int .i64 x.h1, .int .i64 x.g0, .int .i64 x.g1, .int .i64 x.t0, .int .i64 x.t1, .int .i64 x.ls, .int .i64 x.b0, .int .i64 x.b1]] w fun e w' => e = .returned (.bool x.okB) ∧ Kept w w' :=
  (validBoy_any x.l0 x.l1 x.h0 x.h1 x.g0 x.g1 x.t0 x.t1 x.ls x.b0 x.b1 w hL.1 hL.2).mono fun e w' ⟨r, hp, he, hk⟩ => ⟨by rw [he, validP_eq x r hp], hk⟩

theorem valid_few (p : Option Addr) (nb cap : Nat) (wks : Int) (ts : Value) (w : World) (hl : nb ≤ 140737488355328) (h : inB nb 1 4 = false) :
   Calls Tryd.prog 48 #[.agg #[.slice p nb cap, .int .i64 wks, ts]] w fun e w' => e = .returned (.bool false) ∧ Kept w w' := by
  have H := Lib.hid h; clear h
  go_enter Tryd.func48, Tryd.ntmps48
  go_wp2_with fail
  refine (isIn_any _ _ _ _).mono ?_
  rintro e w' ⟨rfl, rfl⟩
  rw [H.out]
  go_wp2_with fail
  go_ret
  exact ⟨rfl, kept_alloc (kept_refl _) _⟩

theorem valid_weeks (p : Option Addr) (nb cap : Nat) (wks : Int) (ts : Value) (w : World) (hl : nb ≤ 140737488355328) (h : inB nb 1 4 = true) (h2 : inB wks 1 6 = false) :
   Calls Tryd.prog 48 #[.agg #[.slice p nb cap, .int .i64 wks, ts]] w fun e w' => e = .returned (.bool false) ∧ Kept w w' := by
  have H := Lib.hid h; clear h
  have H2 := Lib.hid h2; clear h2
  go_enter Tryd.func48, Tryd.ntmps48
  go_wp2_with fail
  refine (isIn_any _ _ _ _).mono ?_
  rintro e w' ⟨rfl, rfl⟩
  rw [H.out]
  go_wp2_with fail
  refine (isIn_any _ _ _ _).mono ?_
  rintro e w' ⟨rfl, rfl⟩
  rw [H2.out]
  go_wp2_with fail
  go_ret
  exact ⟨rfl, kept_alloc (kept_refl _) _⟩

theorem valid_many (p q : Option Addr) (nb cap nt capt : Nat) (wks : Int) (w : World) (hl : nb ≤ 140737488355328) (ht : nt ≤ maxLen) (h : inB nb 1 4 = true) (h2 : inB wks 1 6 = true) (h3 : 6 < nt) :
   Calls Tryd.prog 48 #[.agg #[.slice p nb cap, .int .i64 wks, .slice q nt capt]] w fun e w' => e = .returned (.bool false) ∧ Kept w w' := by
  unfold maxLen at ht
  have H := Lib.hid h; clear h
  have H2 := Lib.hid h2; clear h2
  have hd : decide (6 < nt) = true := by simpa using h3
  have hdi : decide ((6 : Int) < nt) = true := by simp; omega
  go_enter Tryd.func48, Tryd.ntmps48
  go_wp2_with fail
  refine (isIn_any _ _ _ _).mono ?_
  rintro e w' ⟨rfl, rfl⟩
  rw [H.out]
  go_wp2_with fail
  refine (isIn_any _ _ _ _).mono ?_
  rintro e w' ⟨rfl, rfl⟩
  rw [H2.out]
  go_wp2_with fail
  go_ret
  exact ⟨rfl, kept_alloc (kept_refl _) _⟩
end Go.Proofs.YtchgkfnodcbpiaaDoor
set_option linter.all false
namespace Go.Proofs.YtchgkfnodcbpiaaDoor
open Go.RowKit Go.Sort
set_option maxRecDepth 100000

def ValidAll (lb : List Boy) (lt : List Trial) (wks : Nat) (r : Bool) : Prop := r = true ↔ lb.all Boy.okB = true ∧ lt.all (validTrialB lb.length wks) = true

set_option maxHeartbeats 2000000 in
theorem valid_loop (b o capb capt : Nat) (q : Option Addr) (lb : List Boy) (lt : List Trial) (wks : Nat) (w : World) (hL : Laid w) (hB : BoysAt w b o lb) (hb1 : 1 ≤ lb.length) (hb4 : lb.length ≤ 4) (hw1 : 1 ≤ wks) (hw6 : wks ≤ 6) (ht : lt.length ≤ 6)
   (hT : lt = [] ∨ ∃ bT oT, q = some ⟨bT, oT, none⟩ ∧ TrialsAt w bT oT lt) (h : inB lb.length 1 4 = true) (h2 : inB wks 1 6 = true) :
   Calls Tryd.prog 48 #[.agg #[Value.slice (some ⟨b, o, none⟩) lb.length capb, Value.int IntKind.i64 ↑wks, Value.slice q lt.length capt]] w (ToldB (ValidAll lb lt wks) w) := by
  have H := Lib.hid h; clear h
  have H2 := Lib.hid h2; clear h2
  have HT := Lib.hid hT; clear hT
  have hd : decide (6 < lt.length) = false := by simp; omega
  have hdi : decide ((6 : Int) < lt.length) = false := by simp; omega
  have hk0 : Kept w (w.alloc (Obj.cells #[Value.slice (some ⟨b, o, none⟩) lb.length capb, Value.int IntKind.i64 ↑wks, Value.slice q lt.length capt] 25)) := kept_alloc (kept_refl _) _
  have hzW : w.heap.size < (w.alloc (Obj.cells #[Value.slice (some ⟨b, o, none⟩) lb.length capb, Value.int IntKind.i64 ↑wks, Value.slice q lt.length capt] 25)).heap.size := by simp
  have d0 : (w.alloc (Obj.cells #[Value.slice (some ⟨b, o, none⟩) lb.length capb, Value.int IntKind.i64 ↑wks, Value.slice q lt.length capt] 25)).cell? ⟨w.heap.size, 0, none⟩ = some (Value.slice (some ⟨b, o, none⟩) lb.length capb) := by go_simp
  have d1 : (w.alloc (Obj.cells #[Value.slice (some ⟨b, o, none⟩) lb.length capb, Value.int IntKind.i64 ↑wks, Value.slice q lt.length capt] 25)).cell? ⟨w.heap.size, 1, none⟩ = some (Value.int IntKind.i64 ↑wks) := by go_simp
  have d2 : (w.alloc (Obj.cells #[Value.slice (some ⟨b, o, none⟩) lb.length capb, Value.int IntKind.i64 ↑wks, Value.slice q lt.length capt] 25)).cell? ⟨w.heap.size, 2, none⟩ = some (Value.slice q lt.length capt) := by go_simp
  go_enter Tryd.func48, Tryd.ntmps48
  go_wp2_with fail
  refine (isIn_any _ _ _ _).mono ?_
  rintro e w' ⟨rfl, rfl⟩
  rw [H.out]
  go_wp2_with fail
  refine (isIn_any _ _ _ _).mono ?_
  rintro e w' ⟨rfl, rfl⟩
  rw [H2.out]
  go_wp2_with fail
  generalize w.alloc (Obj.cells #[Value.slice (some ⟨b, o, none⟩) lb.length capb, Value.int IntKind.i64 ↑wks, Value.slice q lt.length capt] 25) = W0 at *
  go_loopw [27] (fun i W => ∃ k : Nat, k ≤ lb.length ∧ i = .int .i64 k ∧ (∀ j x, j < k → lb[j]? = some x → x.okB = true) ∧ Kept W0 W) (fun i W => lb.length - (intOf i).toNat)
  case atStart => exact ⟨0, by omega, rfl, fun j x hj => by omega, kept_refl _⟩
  case round =>
    obtain ⟨k, hk, rfl, hno, hkW⟩ := hrel
    have HNO := Lib.hid hno; clear hno
    by_cases hlt : k < lb.length
    · have hltI : (k : Int) < lb.length := by omega
      have hget : lb[k]? = some lb[k] := List.getElem?_eq_getElem hlt
      have hmem : lb[k] ∈ lb := List.getElem_mem hlt
      generalize lb[k] = x at *
      obtain ⟨c0, c1, c2, c3, c4, c5, c6, c7, c8, c9, c10⟩ := ((hB.kept hk0).kept hkW).2 k x hget
      have HG := Lib.hid hget; clear hget
      have D := Lib.hid (And.intro d0 (And.intro d1 d2)); clear d0 d1 d2
      go_wp2_with fail
      refine (validBoy_eq x _ (((hL.kept hk0).kept hkW).kept (kept_alloc (kept_refl _) _))).mono ?_
      rintro e w' ⟨rfl, hk2⟩
      have hkW2 := kept_trans hkW (kept_trans (kept_alloc (kept_refl _) _) hk2)
      clear c0 c1 c2 c3 c4 c5 c6 c7 c8 c9 c10
      rcases hv : x.okB with _ | _
      · have HP : Hid (¬ (lb.all Boy.okB = true)) := Lib.hid (by
          intro hall
          have := List.all_eq_true.1 hall x hmem
          rw [hv] at this; cases this)
        clear hv
        go_wp2_with fail
        go_ret
        exact ⟨false, (show ValidAll _ _ _ _ from ⟨(fun h => by cases h), (fun h => absurd h.1 HP.out)⟩), rfl, kept_trans hk0 hkW2⟩
      · have HNEW : Hid (∀ j x, j < k + 1 → lb[j]? = some x → x.okB = true) := Lib.hid (by
          intro j y hj hg
          by_cases e : j = k
          · subst e; rw [HG.out] at hg; cases hg; exact hv
          · exact HNO.out j y (by omega) hg)
        clear hv
        go_wp2_with fail
        go_roundw
        case rel => exact ⟨k + 1, by omega, by go_num, HNEW.out, hkW2⟩
        case measure => simp [intOf]; omega
    · have HP : Hid (lb.all Boy.okB = true) := Lib.hid (by
        rw [List.all_eq_true]
        intro x hx
        obtain ⟨j, hj, rfl⟩ := List.getElem_of_mem hx
        exact HNO.out j _ (by omega) (List.getElem?_eq_getElem hj))
      have hltI : ¬ (k : Int) < lb.length := by omega
      have e0 := ((bcell hkW).1 w.heap.size 0 hzW).trans d0
      have e1 := ((bcell hkW).1 w.heap.size 1 hzW).trans d1
      have e2 := ((bcell hkW).1 w.heap.size 2 hzW).trans d2
      have hzr := Nat.lt_of_lt_of_le hzW (bcell hkW).2.2
      clear d0 d1 d2
      have hkk0 := kept_trans hk0 hkW
      have HB := Lib.hid hB; clear hB
      go_wp2_with fail
      go_loopw [38] (fun i W => ∃ k : Nat, k ≤ lt.length ∧ i = .int .i64 k ∧ (∀ j t, j < k → lt[j]? = some t → validTrialB lb.length wks t = true) ∧ Kept wr W) (fun i W => lt.length - (intOf i).toNat)
      case atStart => exact ⟨0, by omega, rfl, fun j x hj => by omega, kept_refl _⟩
      case round =>
        obtain ⟨k2, hk2, rfl, hno2, hkW2⟩ := hrel
        have HNO2 := Lib.hid hno2; clear hno2
        rename_i wq
        have hkk2 := kept_trans hkk0 hkW2
        by_cases hlt2 : k2 < lt.length
        · have hltI2 : (k2 : Int) < lt.length := by omega
          have hget : lt[k2]? = some lt[k2] := List.getElem?_eq_getElem hlt2
          have hmem : lt[k2] ∈ lt := List.getElem_mem hlt2
          generalize lt[k2] = t at *
          rcases HT.out with h0 | ⟨bT, oT, rfl, hTT⟩
          · rw [h0] at hmem; cases hmem
          obtain ⟨c0, c1, c2, c3⟩ := (hTT.kept hkk2).2 k2 t hget
          have f0 := ((bcell hkW2).1 w.heap.size 0 hzr).trans e0
          have f1 := ((bcell hkW2).1 w.heap.size 1 hzr).trans e1
          have f2 := ((bcell hkW2).1 w.heap.size 2 hzr).trans e2
          have hzr2 := Nat.lt_of_lt_of_le hzr (bcell hkW2).2.2
          have HG := Lib.hid hget; clear hget
          have D := Lib.hid (And.intro e0 (And.intro e1 e2)); clear e0 e1 e2
          go_wp2_with fail
          refine (validTrial_any (some ⟨b, o, none⟩) lb.length capb wks (.slice (some ⟨bT, oT, none⟩) lt.length capt) t _ (by omega) (by omega)).mono ?_
          rintro e w' ⟨rfl, hk3⟩
          have hkW3 := kept_trans hkW2 (kept_trans (kept_alloc (kept_refl _) _) hk3)
          clear c0 c1 c2 c3 f0 f1 f2
          rcases hv : validTrialB lb.length wks t with _ | _
          · have HP2 : Hid (¬ (lt.all (validTrialB lb.length wks) = true)) := Lib.hid (by
              intro hall
              have := List.all_eq_true.1 hall t hmem
              rw [hv] at this; cases this)
            clear hv
            go_wp2_with fail
            go_ret
            exact ⟨false, (show ValidAll _ _ _ _ from ⟨(fun h => by cases h), (fun h => absurd h.2 HP2.out)⟩), rfl, kept_trans hkk0 hkW3⟩
          · have HNEW : Hid (∀ j t, j < k2 + 1 → lt[j]? = some t → validTrialB lb.length wks t = true) := Lib.hid (by
              intro j y hj hg
              by_cases e : j = k2
              · subst e; rw [HG.out] at hg; cases hg; exact hv
              · exact HNO2.out j y (by omega) hg)
            clear hv
            go_wp2_with fail
            go_roundw
            case rel => exact ⟨k2 + 1, by omega, by go_num, HNEW.out, hkW3⟩
            case measure => simp [intOf]; omega
        · have HP2 : Hid (lt.all (validTrialB lb.length wks) = true) := Lib.hid (by
            rw [List.all_eq_true]
            intro x hx
            obtain ⟨j, hj, rfl⟩ := List.getElem_of_mem hx
            exact HNO2.out j _ (by omega) (List.getElem?_eq_getElem hj))
          have hltI2 : ¬ (k2 : Int) < lt.length := by omega
          clear e0 e1 e2
          go_wp2_with fail
          go_ret
          exact ⟨true, (show ValidAll _ _ _ _ from ⟨(fun _ => ⟨HP.out, HP2.out⟩), (fun _ => rfl)⟩), rfl, hkk2⟩
end Go.Proofs.YtchgkfnodcbpiaaDoor
set_option linter.all false
namespace Go.Proofs.YtchgkfnodcbpiaaDoor
open Go.RowKit Go.Sort
set_option maxRecDepth 100000

structure Book where
  boys : List Boy
  weeks : Int
  trials : List Trial
  deriving Inhabited

/-- a value that reads as this book -/
structure BookAt (w : World) (p q : Option Addr) (cap capt : Nat) (B : Book) : Prop where
  laid : Laid w
  nb : B.boys.length ≤ 140737488355328
  nt : B.trials.length ≤ 140737488355328 ∧ B.trials.length ≤ capt
  boys : B.boys = [] ∨ ∃ b o, p = some ⟨b, o, none⟩ ∧ BoysAt w b o B.boys
  trials : B.trials = [] ∨ ∃ b o, q = some ⟨b, o, none⟩ ∧ TrialsAt w b o B.trials
theorem BookAt.kept {w W : World} {p q : Option Addr} {cap capt : Nat} {B : Book} (h : BookAt w p q cap capt B) (k : Kept w W) : BookAt W p q cap capt B where
  laid := h.laid.kept k
  nb := h.nb
  nt := h.nt
  boys := h.boys.imp id fun ⟨b, o, e, hb⟩ => ⟨b, o, e, hb.kept k⟩
  trials := h.trials.imp id fun ⟨b, o, e, hb⟩ => ⟨b, o, e, hb.kept k⟩

def Book.okB (B : Book) : Bool := inB B.boys.length 1 4 && inB B.weeks 1 6 && decide (B.trials.length ≤ 6) && B.boys.all Boy.okB && B.trials.all (validTrialB B.boys.length B.weeks.toNat)

theorem valid_any (p q : Option Addr) (cap capt : Nat) (B : Book) (w : World) (h : BookAt w p q cap capt B) :
   Calls Tryd.prog 48 #[.agg #[.slice p B.boys.length cap, .int .i64 B.weeks, .slice q B.trials.length capt]] w fun e w' => e = .returned (.bool B.okB) ∧ Kept w w' := by
  obtain ⟨boys, weeks, trials⟩ := B
  obtain ⟨hL, hnb, hnt, hB, hT⟩ := h
  simp only at hL hnb hnt hB hT ⊢
  rcases h1 : inB boys.length 1 4 with _ | _
  · simpa [Book.okB, h1] using valid_few p boys.length cap weeks (.slice q trials.length capt) w hnb h1
  rcases h2 : inB weeks 1 6 with _ | _
  · simpa [Book.okB, h1, h2] using valid_weeks p boys.length cap weeks (.slice q trials.length capt) w hnb h1 h2
  by_cases h3 : trials.length ≤ 6
  · have hb : 1 ≤ boys.length ∧ boys.length ≤ 4 := by simp [inB] at h1; omega
    have hw : 1 ≤ weeks ∧ weeks ≤ 6 := by simpa [inB] using h2
    obtain ⟨wk, rfl⟩ := Int.eq_ofNat_of_zero_le (show 0 ≤ weeks by omega)
    rcases hB with hB | ⟨b, o, rfl, hB⟩
    · rw [hB] at hb; simp at hb
    refine (valid_loop b o cap capt q boys trials wk w hL hB hb.1 hb.2 (by omega) (by omega) h3 hT h1 h2).mono ?_
    rintro e w' ⟨r, hr, rfl, hk⟩
    refine ⟨?_, hk⟩
    unfold ValidAll at hr
    have e1 : (Book.mk boys (wk : Int) trials).okB = r := by
      rw [Bool.eq_iff_iff, hr]
      simp only [Book.okB, h1, h2, decide_eq_true h3, Bool.true_and, Bool.and_eq_true, Int.toNat_natCast]
    rw [e1]
  · have e1 : (Book.mk boys weeks trials).okB = false := by
      simp only [Book.okB, decide_eq_false h3, Bool.and_false, Bool.false_and]
    rw [e1]
    exact valid_many p q boys.length cap trials.length capt weeks w hnb (by unfold maxLen; omega) h1 h2 (by omega)

theorem check_any (p q : Option Addr) (cap capt : Nat) (B : Book) (w : World) (h : BookAt w p q cap capt B) :
   Calls Tryd.prog 17 #[.agg #[.slice p B.boys.length cap, .int .i64 B.weeks, .slice q B.trials.length capt]] w fun e w' => e = .returned (.int .i64 (if B.okB then 0 else 20)) ∧ Kept w w' := by
  have hk0 : Kept w (w.alloc (Obj.cells #[.slice p B.boys.length cap, .int .i64 B.weeks, .slice q B.trials.length capt] 25)) := kept_alloc (kept_refl _) _
  have hb := h.kept hk0
  rcases hg : B.okB with _ | _
  all_goals
    have HG := Lib.hid hg; clear hg
    have HB := Lib.hid hb; clear hb
    have HH := Lib.hid h; clear h
    go_enter Tryd.func17, Tryd.ntmps17
    go_wp2_with fail
    refine (valid_any p q cap capt B _ HB.out).mono ?_
    rintro e w' ⟨rfl, hk⟩
    have hkk := kept_trans hk0 hk
    rw [HG.out]
    go_wp2_with fail
    go_ret
    exact ⟨rfl, hkk⟩
end Go.Proofs.YtchgkfnodcbpiaaDoor
set_option linter.all false
namespace Go.Rg
open Go Go.RowKit

/-- From A to B blocks are made, and of those that were there only blocks of T turn. -/
structure Turns (T : Nat → Prop) (A B : World) : Prop where
  os : B.os = A.os
  tape : B.tape = A.tape
  output : B.output = A.output
  size : A.heap.size ≤ B.heap.size
  block : ∀ b, b < A.heap.size → ¬ T b → B.heap[b]? = A.heap[b]?

/-- T' is T and blocks that are made from n on. -/
structure Ext (n : Nat) (T T' : Nat → Prop) : Prop where
  up : ∀ b, T b → T' b
  out : ∀ b, T' b → T b ∨ n ≤ b
theorem Ext.refl (n : Nat) (T : Nat → Prop) : Ext n T T := ⟨fun _ h => h, fun _ h => .inl h⟩
theorem Ext.trans {n m : Nat} {T T' T'' : Nat → Prop} (h : Ext n T T') (k : Ext m T' T'') (hm : n ≤ m) : Ext n T T'' := ⟨fun b hb => k.up b (h.up b hb), fun b hb => by
  rcases k.out b hb with h1 | h1
  · exact h.out b h1
  · exact .inr (by omega)⟩
theorem Ext.less {n m : Nat} {T T' : Nat → Prop} (h : Ext m T T') (hm : n ≤ m) : Ext n T T' := ⟨h.up, fun b hb => (h.out b hb).imp id fun h => by omega⟩
theorem Turns.refl (T : Nat → Prop) (A : World) : Turns T A A := ⟨rfl, rfl, rfl, Nat.le_refl _, fun _ _ _ => rfl⟩
theorem Turns.trans {T T' : Nat → Prop} {A B C : World} (h : Turns T A B) (e : Ext A.heap.size T T') (k : Turns T' B C) : Turns T A C :=
  ⟨k.os.trans h.os, k.tape.trans h.tape, k.output.trans h.output, Nat.le_trans h.size k.size, fun b hb hn =>
    (k.block b (Nat.lt_of_lt_of_le hb h.size) fun hb' => by rcases e.out b hb' with h1 | h1; exact hn h1; omega).trans (h.block b hb hn)⟩
theorem Turns.mono {T T' : Nat → Prop} {A B : World} (h : Turns T A B) (e : ∀ b, b < A.heap.size → T b → T' b) : Turns T' A B :=
  ⟨h.os, h.tape, h.output, h.size, fun b hb hn => h.block b hb fun ht => hn (e b hb ht)⟩
theorem Turns.alloc {T : Nat → Prop} {A B : World} (h : Turns T A B) (o : Obj) : Turns T A (B.alloc o) :=
  ⟨h.os, h.tape, h.output, Nat.le_trans h.size (by simp), fun b hb hn => (Below.heap_alloc B o b (Nat.lt_of_lt_of_le hb h.size)).trans (h.block b hb hn)⟩
theorem Turns.drew {T : Nat → Prop} {A B : World} (h : Turns T A B) : Turns T A B.drew := ⟨h.os, h.tape, h.output, h.size, h.block⟩
theorem Turns.putObj {T : Nat → Prop} {A B : World} (h : Turns T A B) {l : Nat} (hl : T l ∨ A.heap.size ≤ l) (o : Obj) : Turns T A (B.putObj l o) :=
  ⟨h.os, h.tape, h.output, by simpa using h.size, fun b hb hn => (World.putObj_heap_other (r := l) (k := b) (by rintro rfl; rcases hl with h | h; exact hn h; omega)).trans (h.block b hb hn)⟩
theorem Turns.setCell {T : Nat → Prop} {A B : World} (h : Turns T A B) {b : Nat} (hb : T b) (o : Nat) (v : Value) : Turns T A (B.setCell ⟨b, o, none⟩ v) :=
  ⟨h.os, h.tape, h.output, by simpa [World.setCell] using h.size, fun k hk hn => by
    have e : (B.setCell ⟨b, o, none⟩ v).heap[k]? = B.heap[k]? := by
      have hne : ¬ b = k := by rintro rfl; exact hn hb
      simp [World.setCell, Array.getElem?_modify, hne]
    exact e.trans (h.block k hk hn)⟩
theorem Turns.below {T : Nat → Prop} {A B : World} (h : Below A.heap.size A B) : Turns T A B :=
  ⟨h.os, h.tape, h.output, h.size, fun b hb _ => h.block b hb⟩
theorem Turns.toBelow {T : Nat → Prop} {A B : World} (h : Turns T A B) {n : Nat} (hn : ∀ b, T b → n ≤ b) (hs : n ≤ A.heap.size) : Below n A B :=
  ⟨h.os, h.tape, h.output, h.size, fun b hb => h.block b (by omega) fun ht => by have := hn b ht; omega⟩
theorem Turns.cell {T : Nat → Prop} {A B : World} (h : Turns T A B) {b o : Nat} (hb : b < A.heap.size) (hn : ¬ T b) : B.cell? ⟨b, o, none⟩ = A.cell? ⟨b, o, none⟩ := by
  have := h.block b hb hn
  simp only [World.cell?, this]
theorem Turns.frozen {T : Nat → Prop} {A B : World} (h : Turns T A B) {b o : Nat} (hb : b < A.heap.size) (hn : ¬ T b) : B.frozen? ⟨b, o, none⟩ = A.frozen? ⟨b, o, none⟩ := by
  have := h.block b hb hn
  simp only [World.frozen?, this]

/-- What the iterator does between two rounds: blocks below lo and those of T lie as they lay. -/
structure Quiet (lo : Nat) (T : Nat → Prop) (A B : World) : Prop where
  os : B.os = A.os
  tape : B.tape = A.tape
  output : B.output = A.output
  size : A.heap.size ≤ B.heap.size
  block : ∀ b, b < A.heap.size → (b < lo ∨ T b) → B.heap[b]? = A.heap[b]?
theorem Quiet.refl (lo : Nat) (T : Nat → Prop) (A : World) : Quiet lo T A A := ⟨rfl, rfl, rfl, Nat.le_refl _, fun _ _ _ => rfl⟩
theorem Quiet.trans {lo : Nat} {T : Nat → Prop} {A B C : World} (h : Quiet lo T A B) (k : Quiet lo T B C) : Quiet lo T A C :=
  ⟨k.os.trans h.os, k.tape.trans h.tape, k.output.trans h.output, Nat.le_trans h.size k.size, fun b hb hn => (k.block b (Nat.lt_of_lt_of_le hb h.size) hn).trans (h.block b hb hn)⟩
theorem Quiet.below {lo : Nat} {T : Nat → Prop} {A B : World} (h : Below A.heap.size A B) : Quiet lo T A B := ⟨h.os, h.tape, h.output, h.size, fun b hb _ => h.block b hb⟩
theorem Quiet.alloc {lo : Nat} {T : Nat → Prop} {A B : World} (h : Quiet lo T A B) (o : Obj) : Quiet lo T A (B.alloc o) :=
  ⟨h.os, h.tape, h.output, Nat.le_trans h.size (by simp), fun b hb hn => (Below.heap_alloc B o b (Nat.lt_of_lt_of_le hb h.size)).trans (h.block b hb hn)⟩
theorem Quiet.drew {lo : Nat} {T : Nat → Prop} {A B : World} (h : Quiet lo T A B) : Quiet lo T A B.drew := ⟨h.os, h.tape, h.output, h.size, h.block⟩
theorem Quiet.putObj {lo : Nat} {T : Nat → Prop} {A B : World} (h : Quiet lo T A B) {l : Nat} (hl : lo ≤ l) (hn : ¬ T l) (o : Obj) : Quiet lo T A (B.putObj l o) :=
  ⟨h.os, h.tape, h.output, by simpa using h.size, fun b hb hb' => (World.putObj_heap_other (r := l) (k := b) (by rintro rfl; rcases hb' with h | h; omega; exact hn h)).trans (h.block b hb hb')⟩
theorem Quiet.cell {lo : Nat} {T : Nat → Prop} {A B : World} (h : Quiet lo T A B) {b o : Nat} (hb : b < A.heap.size) (hn : b < lo ∨ T b) : B.cell? ⟨b, o, none⟩ = A.cell? ⟨b, o, none⟩ := by
  have := h.block b hb hn
  simp only [World.cell?, this]
theorem Quiet.frozen {lo : Nat} {T : Nat → Prop} {A B : World} (h : Quiet lo T A B) {b o : Nat} (hb : b < A.heap.size) (hn : b < lo ∨ T b) : B.frozen? ⟨b, o, none⟩ = A.frozen? ⟨b, o, none⟩ := by
  have := h.block b hb hn
  simp only [World.frozen?, this]

/-- Nothing that was there has turned. -/
def Kept' (A B : World) : Prop := Turns (fun _ => False) A B
/-- What a round hands back. -/
def RoundTold (P : Program) (l : Nat) (arg : Value) (k : Nat) (J Jx : Nat → (Nat → Prop) → World → Prop) (T' : Nat → Prop) (A : World) : Prop :=
  YieldAt Fence.wide 0 P l #[arg] A fun e B => ∃ T'', Ext A.heap.size T' T'' ∧ (∀ b, T'' b → b < B.heap.size) ∧ Turns T'' A B ∧ ((e = .returned (.bool true) ∧ J (k + 1) T'' B) ∨ (e = .returned (.bool false) ∧ Jx (k + 1) T'' B))

/-- **The contract of an iterator's function**: it hands out the elements of xs in their order. D: what it reads, in the blocks of S. -/
def Gives {α : Type} (P : Program) (g : Nat) (lb : Array Value) (enc : α → Value) (xs : List α) (S : Nat → Prop) (D : World → Prop) : Prop :=
  ∀ (l : Nat) (T : Nat → Prop) (J Jx : Nat → (Nat → Prop) → World → Prop) (V : World), (∀ b, T b → b < V.heap.size) → (∀ b, S b → b < V.heap.size ∧ ¬ T b) → D V →
    (∀ k T' A B, J k T' A → Quiet V.heap.size T' A B → J k T' B) → (∀ k T' A B, Jx k T' A → Quiet V.heap.size T' A B → Jx k T' B) →
    (∀ k x T' A, xs[k]? = some x → Ext V.heap.size T T' → (∀ b, T' b → b < A.heap.size) → Turns T V A → J k T' A → RoundTold P l (enc x) k J Jx T' A) →
    J 0 T V →
    Calls P g (#[.func (.yield l) #[] #[]] ++ lb) V fun e B => (∃ v, e = .returned v) ∧ Turns T V B ∧ ∃ T', Ext V.heap.size T T' ∧ (J xs.length T' B ∨ ∃ k, k ≤ xs.length ∧ Jx k T' B)

def rangeBody (T1 : Nat → Prop) (I : Nat → (Nat → Prop) → World → Prop) (Ix : Code → Nat → (Nat → Prop) → World → Prop) (k : Nat) (A : World) : Exit → Act → World → Prop
  | .normal, _, B => ∃ T2 : Nat → Prop, Ext A.heap.size T1 T2 ∧ (∀ b, T2 b → b < B.heap.size) ∧ Turns T2 A B ∧ I (k + 1) T2 B
  | .ret, _, B => ∃ T2 : Nat → Prop, Ext A.heap.size T1 T2 ∧ (∀ b, T2 b → b < B.heap.size) ∧ Turns T2 A B ∧ Ix .ret (k + 1) T2 B
  | .exit id, _, B => ∃ T2 : Nat → Prop, Ext A.heap.size T1 T2 ∧ (∀ b, T2 b → b < B.heap.size) ∧ Turns T2 A B ∧ Ix (.exit id) (k + 1) T2 B
  | _, _, _ => False

theorem wpIn_range {P : Program} {α : Type} {g : Operand} {ps : Array Tmp} {assign body : Code} {Q : Exit → Act → World → Prop} {a : Act} {w : World}
    {gf : Nat} {lb : Array Value} (hg : a.eval g = .func (.func gf) #[] lb) (eg : ∀ args w, (callFunc gf args).run P w = .ok (.enter gf args) w)
    {enc : α → Value} {xs : List α} {S : Nat → Prop} {D : World → Prop} (hgives : Gives P gf lb enc xs S D) (hps : ps.size = 1)
    (T : Nat → Prop) (hT : ∀ b, T b → b < w.heap.size) (hS : ∀ b, S b → b < w.heap.size ∧ ¬ T b) (hD : ∀ B, Kept' w B → D B)
    (I : Nat → (Nat → Prop) → World → Prop) (Ix : Code → Nat → (Nat → Prop) → World → Prop)
    (hI : ∀ k T' A B, I k T' A → Quiet w.heap.size T' A B → I k T' B) (hIx : ∀ c k T' A B, Ix c k T' A → Quiet w.heap.size T' A B → Ix c k T' B)
    (h0 : I 0 T w)
    (hround : ∀ l k x T' A, xs[k]? = some x → Ext w.heap.size T T' → (∀ b, T' b → b < A.heap.size) → Turns T w A → l = w.heap.size + 1 → l < A.heap.size → ¬ T' l → I k T' A →
      assign.wpIn (Fence.wide.inRound l) 0 P (Exit.then (fun a₁ A₁ => ∃ T1, Ext A.heap.size T' T1 ∧ Turns T1 A A₁ ∧
          ∀ A₂, Turns (· = l) A₁ A₂ → A₂.heap.size = A₁.heap.size → (∃ r, A₂.heap[l]? = some (.loop r)) → body.wpIn (Fence.wide.inRound l) 0 P (rangeBody T1 I Ix k A₂) a₁ A₂) (fun _ _ _ => False))
        { tmps := (ps.zip #[enc x]).foldl (fun t (p, v) => t.setIfInBounds p v) a.tmps, defers := [] } A)
    (hdone : ∀ (Db : Nat) (T' : Nat → Prop) (B : World), w.heap.size ≤ Db → ¬ T' Db → Ext w.heap.size T T' → Turns T w B → I xs.length T' B → B.heap[Db]? = some (.deferred (some [])) → Q .normal { a with defers := { target := .collected Db, args := #[] } :: a.defers } B)
    (hstop : ∀ (Db : Nat) (c : Code) (k : Nat) (T' : Nat → Prop) (B : World), w.heap.size ≤ Db → ¬ T' Db → Ext w.heap.size T T' → Turns T w B → k ≤ xs.length → Ix c k T' B → B.heap[Db]? = some (.deferred (some [])) → c.wpIn Fence.wide 0 P Q { a with defers := { target := .collected Db, args := #[] } :: a.defers } B) :
    (Code.rangeFunc g ps assign body).wpIn Fence.wide 0 P Q a w := by
  refine wpIn_rangeFunc ?_
  intro fn hfn
  obtain ⟨rec, hrec⟩ : ∃ rec : LoopState → Option Code → Loop, rec = fun st pe => { state := st, pending := pe, fn, tmps := a.tmps, params := ps, assign, body, defers := w.heap.size } := ⟨_, rfl⟩
  obtain ⟨W1, hW1⟩ : ∃ W1, (w.alloc (.deferred (some []))).alloc (.loop (rec .ready none)) = W1 := ⟨_, rfl⟩
  have hs1 : W1.heap.size = w.heap.size + 2 := by rw [← hW1]; simp
  have hL1 : W1.heap[w.heap.size + 1]? = some (.loop (rec .ready none)) := by
    rw [← hW1]; have := World.alloc_heap_new (w.alloc (.deferred (some []))) (.loop (rec .ready none)); rwa [World.size_alloc] at this
  have hK1 : W1.heap[w.heap.size]? = some (.deferred (some [])) := by
    rw [← hW1]; exact (Below.heap_alloc _ _ _ (by simp)).trans (World.alloc_heap_new w _)
  have hw1 : ∀ T, Turns T w W1 := fun T => by rw [← hW1]; exact ((Turns.refl _ w).alloc _).alloc _
  have hq1 : ∀ T, Quiet w.heap.size T w W1 := fun T => by rw [← hW1]; exact ((Quiet.refl _ _ w).alloc _).alloc _
  refine ⟨w.heap.size + 1, [{ target := .collected w.heap.size, args := #[] }], W1, { target := .fn (.func gf) lb, args := #[.func (.yield (w.heap.size + 1)) #[] #[]] }, W1, gf,
    #[.func (.yield (w.heap.size + 1)) #[] #[]] ++ lb, W1, ?_, ?_, ?_, ?_, (by intro h; simp [Fence.wide] at h), ?_⟩
  · rw [← hW1, hrec]; exact run_enterLoop_outer _ _ _ _ _
  · simp only [resolve, hg]
    simp [go_sem]
  · intro f' hf'; trivial
  · simp [invoke, go_sem, eg]
  refine callsIn_wide.2 ?_
  -- what the law's own books say
  let BK : (Nat → Prop) → (Nat → Prop) → LoopState → Option Code → World → Prop := fun T0 T' st pe A =>
    (∀ b, T' b ↔ T0 b ∨ b = w.heap.size + 1) ∧ ¬ T0 (w.heap.size + 1) ∧ ¬ T0 w.heap.size ∧ Ext w.heap.size T T0 ∧ Turns T w A ∧ A.heap[w.heap.size + 1]? = some (.loop (rec st pe)) ∧ A.heap[w.heap.size]? = some (.deferred (some []))
  have hBK : ∀ T0 T' st pe A B, BK T0 T' st pe A → Quiet W1.heap.size T' A B → BK T0 T' st pe B := by
    rintro T0 T' st pe A B ⟨h1, h2, h3, h4, h5, h6, h7⟩ hq
    have hlt1 := (Array.getElem?_eq_some_iff.1 h6).1
    have hlt2 := (Array.getElem?_eq_some_iff.1 h7).1
    refine ⟨h1, h2, h3, h4, ?_, (hq.block _ hlt1 (.inl (by omega))).trans h6, (hq.block _ hlt2 (.inl (by omega))).trans h7⟩
    exact ⟨hq.os.trans h5.os, hq.tape.trans h5.tape, hq.output.trans h5.output, Nat.le_trans h5.size hq.size, fun b hb hn => (hq.block b (Nat.lt_of_lt_of_le hb h5.size) (.inl (by omega))).trans (h5.block b hb hn)⟩
  have weak : ∀ {T0 T' : Nat → Prop} {A B : World}, (∀ b, T' b ↔ T0 b ∨ b = w.heap.size + 1) → Quiet W1.heap.size T' A B → Quiet w.heap.size T0 A B := fun h1 hq =>
    ⟨hq.os, hq.tape, hq.output, hq.size, fun b hb h => hq.block b hb (h.elim (fun h => .inl (by omega)) fun h => .inr ((h1 b).2 (.inl h)))⟩
  have key := hgives (w.heap.size + 1) (fun b => T b ∨ b = w.heap.size + 1)
    (fun k T' A => ∃ T0, BK T0 T' .ready none A ∧ I k T0 A)
    (fun k T' A => ∃ T0 c, BK T0 T' .done (some c) A ∧ Ix c k T0 A) W1
    (by rintro b (h | rfl); have := hT b h; omega; omega)
    (fun b hb => ⟨by have := (hS b hb).1; omega, by rintro (h | h); exact (hS b hb).2 h; have := (hS b hb).1; omega⟩)
    (hD _ (hw1 _))
    (fun k T' A B ⟨T0, hb, hi⟩ hq => ⟨T0, hBK _ _ _ _ _ _ hb hq, hI _ _ _ _ hi (weak hb.1 hq)⟩)
    (fun k T' A B ⟨T0, c, hb, hi⟩ hq => ⟨T0, c, hBK _ _ _ _ _ _ hb hq, hIx _ _ _ _ _ hi (weak hb.1 hq)⟩)
    ?_ ⟨T, ⟨fun b => Iff.rfl, fun h => by have := hT _ h; omega, fun h => by have := hT _ h; omega, Ext.refl _ _, hw1 T, hL1, hK1⟩, hI _ _ _ _ h0 (hq1 T)⟩
  · refine key.mono ?_
    rintro e W2 ⟨⟨v, rfl⟩, hT2, T', hE', (⟨T0, ⟨b1, b2, b3, b4, b5, b6, b7⟩, hi⟩ | ⟨k, hk, T0, c, ⟨b1, b2, b3, b4, b5, b6, b7⟩, hi⟩)⟩
    · refine ⟨none, _, by have := run_endLoop (P := P) b6 (by rw [hrec]; simp); rw [hrec] at this; exact this, ?_⟩
      refine hdone _ T0 _ (Nat.le_refl _) b3 b4 (b5.putObj (.inr (by omega)) _) (hI _ _ _ _ hi ((Quiet.refl _ _ _).putObj (by omega) b2 _)) ((World.putObj_heap_other (by omega)).trans b7)
    · refine ⟨some c, _, by have := run_endLoop (P := P) b6 (by rw [hrec]; simp); rw [hrec] at this; exact this, ?_⟩
      refine hstop _ c k T0 _ (Nat.le_refl _) b3 b4 (b5.putObj (.inr (by omega)) _) hk (hIx _ _ _ _ _ hi ((Quiet.refl _ _ _).putObj (by omega) b2 _)) ((World.putObj_heap_other (by omega)).trans b7)
  · rintro k x T' A hx hE hTs hTA ⟨T0, ⟨b1, b2, b3, b4, b5, b6, b7⟩, hi⟩
    have hlt : w.heap.size + 1 < A.heap.size := (Array.getElem?_eq_some_iff.1 b6).1
    have hy := run_yield (P := P) (args := #[enc x]) b6 (by rw [hrec]; simp [hps])
    rw [hrec] at hy
    refine ⟨fn, _, assign, body, hy, roundIn_of_wpIn hfn (wpIn_mono (hround _ k x T0 A hx b4 (fun b hb => hTs b ((b1 b).2 (.inl hb))) b5 rfl hlt b2 hi) ?_)⟩
    clear hy
    rintro e a1 A1 hp
    cases e <;> try exact hp.elim
    obtain ⟨T1, hE1, hT1, hb⟩ := hp
    have n1 : ∀ {T2 : Nat → Prop} {B : World}, Ext A.heap.size T0 T2 → A.heap.size ≤ B.heap.size → ¬ T2 (w.heap.size + 1) ∧ ¬ T2 w.heap.size := fun h _ =>
      ⟨fun hh => by rcases h.out _ hh with h1 | h1; exact b2 h1; omega, fun hh => by rcases h.out _ hh with h1 | h1; exact b3 h1; omega⟩
    obtain ⟨n1a, n1b⟩ := n1 hE1 hT1.size
    have l1 := (hT1.block _ hlt n1a).trans b6
    have d1 := (hT1.block _ (by omega) n1b).trans b7
    have hlt1 := (Array.getElem?_eq_some_iff.1 l1).1
    refine ⟨_, run_beginRound l1 (by rw [hrec]), ?_⟩
    have l2 : (A1.putObj (w.heap.size + 1) (.loop { rec .ready none with state := .busy })).heap[w.heap.size + 1]? = some (.loop { rec .ready none with state := .busy }) := World.putObj_heap_same hlt1
    have d2 : (A1.putObj (w.heap.size + 1) (.loop { rec .ready none with state := .busy })).heap[w.heap.size]? = some (.deferred (some [])) := (World.putObj_heap_other (by omega)).trans d1
    have t2 : Turns (· = w.heap.size + 1) A1 (A1.putObj (w.heap.size + 1) (.loop { rec .ready none with state := .busy })) := Turns.putObj (T := fun x => x = w.heap.size + 1) (Turns.refl _ _) (.inl rfl) _
    have s2 : (A1.putObj (w.heap.size + 1) (.loop { rec .ready none with state := .busy })).heap.size = A1.heap.size := by simp
    refine wpIn_mono (hb _ t2 s2 ⟨_, l2⟩) ?_
    generalize A1.putObj (w.heap.size + 1) (.loop { rec .ready none with state := .busy }) = A2 at *
    have fin : ∀ (jump : Option Code) (T2 : Nat → Prop) (B : World), Ext A2.heap.size T1 T2 → Turns T2 A2 B →
        (Instr.endRound (w.heap.size + 1) jump).run P B = .ok (.bool jump.isNone) (B.putObj (w.heap.size + 1) (.loop (rec (if jump.isNone then .ready else .done) jump))) ∧
        BK T2 (fun b => T2 b ∨ b = w.heap.size + 1) (if jump.isNone then .ready else .done) jump (B.putObj (w.heap.size + 1) (.loop (rec (if jump.isNone then .ready else .done) jump))) ∧
        Ext A.heap.size T' (fun b => T2 b ∨ b = w.heap.size + 1) ∧ Turns (fun b => T2 b ∨ b = w.heap.size + 1) A (B.putObj (w.heap.size + 1) (.loop (rec (if jump.isNone then .ready else .done) jump))) ∧
        Quiet w.heap.size T2 B (B.putObj (w.heap.size + 1) (.loop (rec (if jump.isNone then .ready else .done) jump))) := fun jump T2 B hE2 hT2 => by
      have hA12 : A.heap.size ≤ A2.heap.size := by have := hT1.size; omega
      have hE02 : Ext A.heap.size T0 T2 := hE1.trans hE2 hA12
      obtain ⟨n2a, n2b⟩ := n1 (B := A) hE02 (Nat.le_refl _)
      have hl3 := (hT2.block _ (by omega) n2a).trans l2
      have hd3 := (hT2.block _ (by omega) n2b).trans d2
      have h := run_endRound (P := P) jump hl3
      have u1 : Turns (fun b => T2 b ∨ b = w.heap.size + 1) A A2 := (hT1.mono fun _ _ h => .inl (hE2.up _ h)).trans (Ext.refl _ _) (t2.mono fun _ _ h => .inr h)
      have hTA2 : Turns (fun b => T2 b ∨ b = w.heap.size + 1) A B := u1.trans (Ext.refl _ _) (hT2.mono fun _ _ h => .inl h)
      have hTw : Turns T w B := b5.trans (T' := fun b => T2 b ∨ b = w.heap.size + 1) ⟨fun b hb => .inl (hE02.up _ (b4.up _ hb)), fun b hb => by
        rcases hb with hb | rfl
        · rcases hE02.out b hb with h1 | h1
          · exact b4.out b h1
          · exact .inr (Nat.le_trans b5.size h1)
        · exact .inr (by omega)⟩ hTA2
      have hlB := (Array.getElem?_eq_some_iff.1 hl3).1
      refine ⟨?_, ⟨fun b => Iff.rfl, n2a, n2b, ?_, hTw.putObj (.inr (by omega)) _, World.putObj_heap_same hlB, (World.putObj_heap_other (by omega)).trans hd3⟩, ?_, hTA2.putObj (.inl (.inr rfl)) _, (Quiet.refl _ _ _).putObj (by omega) n2a _⟩
      · rw [hrec] at h ⊢; exact h
      · exact b4.trans hE02 b5.size
      · refine ⟨fun b hb => ?_, ?_⟩
        · rcases (b1 b).1 hb with h | h
          · exact .inl (hE02.up _ h)
          · exact .inr h
        · rintro b (hb | rfl)
          · rcases hE02.out b hb with h1 | h1
            · exact .inl ((b1 b).2 (.inl h1))
            · exact .inr h1
          · exact .inl ((b1 _).2 (.inr rfl))
    have zz : ∀ {T2 : Nat → Prop} {B : World} {o : Obj}, Turns T2 A2 B → (∀ b, T2 b → b < B.heap.size) → ∀ b, (T2 b ∨ b = w.heap.size + 1) → b < (B.putObj (w.heap.size + 1) o).heap.size := fun {T2 B o} h1 h2 b hb => by
      have := h1.size; have := hT1.size
      rw [World.putObj_size]
      rcases hb with hb | rfl
      · exact h2 b hb
      · omega
    rintro e a3 B hp
    cases e with
    | normal =>
      obtain ⟨T2, hE2, hz2, hT2, hi2⟩ := hp
      obtain ⟨hr, hbk, hx2, ht2, hq2⟩ := fin none T2 B hE2 hT2
      exact ⟨_, _, hr, _, hx2, zz hT2 hz2, ht2, .inl ⟨rfl, T2, hbk, hI _ _ _ _ hi2 hq2⟩⟩
    | ret =>
      obtain ⟨T2, hE2, hz2, hT2, hi2⟩ := hp
      obtain ⟨hr, hbk, hx2, ht2, hq2⟩ := fin (some .ret) T2 B hE2 hT2
      exact ⟨_, _, hr, _, hx2, zz hT2 hz2, ht2, .inr ⟨rfl, T2, _, hbk, hIx _ _ _ _ _ hi2 hq2⟩⟩
    | exit id =>
      obtain ⟨T2, hE2, hz2, hT2, hi2⟩ := hp
      obtain ⟨hr, hbk, hx2, ht2, hq2⟩ := fin (some (.exit id)) T2 B hE2 hT2
      exact ⟨_, _, hr, _, hx2, zz hT2 hz2, ht2, .inr ⟨rfl, T2, _, hbk, hIx _ _ _ _ _ hi2 hq2⟩⟩
    | goto t => exact hp.elim
    | panic ch => exact hp.elim
    | outgrown => exact hp.elim
end Go.Rg
set_option linter.all false
namespace Go.Rg
open Go Go.Sort Go.RowKit

section
variable {F : Fence} {n : Nat} {P : Program} {ops ops' : Array Oper} {md : Region.Mode} {C : World → Prop}

def NoDefer (o : Oper) : Prop := ∀ c, o.op ≠ .defer c

theorem wpIn_of_quiet {o : Oper} {a : Act} {K : Act → Prop} {K' : Act → World → Prop} {Q' : Exit → Act → World → Prop} {w : World} (hnd : NoDefer o) (hw : C w) (h : ∀ a w', C w' → K a → K' a w')
    (ha : o.askedIn F P a C) (hh : o.quietIn F n P a C K) : o.wpIn F n P a w K' Q' := by
  obtain ⟨v, h1, h2⟩ := hh
  have h3 := h1 w hw
  unfold Oper.quietAtIn at h3
  unfold Oper.wpIn
  refine ⟨ha w hw, ?_⟩
  rw [Oper.semAt_eq _ _ _ hnd]
  generalize (execOp a.eval o).run P w = r at *
  cases r with
  | ok x w' =>
    cases x <;> simp only [Oper.quietUponIn] at h3 <;> simp only [Oper.uponIn]
    case value u =>
      obtain ⟨e1, e2⟩ := h3
      rw [e1, e2]
      exact h _ _ hw h2
    case skip =>
      obtain ⟨e1, e2⟩ := h3
      rw [e1, ← e2]
      exact h _ _ hw h2
    case enter f args =>
      obtain ⟨e1, hd, hc⟩ := h3
      rw [e1]
      exact ⟨hd, hc.mono fun e w'' ⟨he, hw''⟩ => by subst he; exact h _ _ hw'' h2⟩
  | halt x w' => simp only [Oper.quietUponIn] at h3

theorem wpOpIn_of_quiet {i : Nat} {a : Act} {K : Act → Prop} {K' : Act → World → Prop} {Q' : Exit → Act → World → Prop} {w : World} (hnd : ∀ o, ops[i]? = some o → NoDefer o) (hg : ∀ o, ops[i]? = some o → ∀ a : Act, Region.wanted o (yielded ops a.tmps) = Region.wanted o (yielded ops' a.tmps)) (hs : ops[i]? = ops'[i]?) (hC : C w) (h : ∀ a w', C w' → K a → K' a w')
    (hh : qOpIn F n P ops' C i K a) : wpOpIn F n P ops Q' i K' a w := by
  unfold qOpIn at hh
  unfold wpOpIn
  rw [← hs] at hh
  split
  · rename_i ho; simp only [ho] at hh; exact h _ _ hC hh
  · rename_i o ho
    simp only [ho] at hh
    obtain ⟨ha, hh⟩ := hh
    rw [← hg o ho] at hh
    split
    · rename_i hw; simp only [hw, if_true] at hh; exact wpIn_of_quiet (hnd o ho) hC h ha hh
    · rename_i hw; simp only [hw] at hh; exact ⟨ha w hC, h _ _ hC hh⟩

theorem getD_set {listed : Array Bool} {i j : Nat} (hij : i ≠ j) (d : Bool) : (listed.setIfInBounds i true).getD j d = listed.getD j d := by
  simp [Array.getD_eq_getD_getElem?, Array.getElem?_setIfInBounds_ne hij]

/-- Real operations beside quiet ones: only number m, the last, is another one. -/
theorem wpAnyIn_last {m : Nat} {o fk : Oper} {Q : Act → Prop} {Q' : Exit → Act → World → Prop} (hm : ops[m]? = some o) (hm' : ops'[m]? = some fk) (hs : ∀ i, i ≠ m → ops[i]? = ops'[i]?) (hsz : ops.size = m + 1)
    (hnd : ∀ (i : Nat) (x : Oper), ops[i]? = some x → NoDefer x) (hg : ∀ (i : Nat) (x : Oper), ops[i]? = some x → ∀ a : Act, Region.wanted x (yielded ops a.tmps) = Region.wanted x (yielded ops' a.tmps))
    (haf : fk.after = o.after) (hdst : fk.dst = none) (hgd : o.guard = none) (hgd' : fk.guard = none) (hlow : ∀ (i : Nat) (x : Oper), ops[i]? = some x → ∀ e ∈ x.after, Region.binds md e = true → e.on < i) (hall : ∀ j, j < m → ∃ e ∈ o.after, Region.binds md e = true ∧ e.on = j)
    (hQ : ∀ a w, C w → Q a → o.wpIn F n P a w (fun a w => Q' .normal a w) Q') :
    ∀ (fuel : Nat) (listed : Array Bool) (a : Act) (w : World), listed.size = m + 1 → C w → listed.getD m true = false → wpAnyQIn F n P md ops' C Q fuel listed a → wpAnyIn F n P md ops Q' fuel listed a w := by
  have mem : ∀ {listed j}, j ∈ Region.ready md ops listed ↔ j ∈ Region.ready md ops' listed := fun {listed j} => by
    rw [mem_ready, mem_ready]
    by_cases e : j = m
    · subst e; rw [hm, hm']
      constructor
      · rintro ⟨h1, x, hx, h2⟩; cases hx; exact ⟨h1, fk, rfl, haf ▸ h2⟩
      · rintro ⟨h1, x, hx, h2⟩; cases hx; exact ⟨h1, o, rfl, haf ▸ h2⟩
    · rw [hs j e]
  have nil : ∀ {listed}, Region.ready md ops listed = [] ↔ Region.ready md ops' listed = [] := fun {listed} => by
    simp only [List.eq_nil_iff_forall_not_mem, mem]
  have prog : ∀ listed : Array Bool, listed.size = m + 1 → listed.getD m true = false → Region.ready md ops listed ≠ [] := by
    intro listed hl hmf
    have : ∀ k, k ≤ m → (∃ i, i ≤ m ∧ i ∈ Region.ready md ops listed) ∨ ∀ i, i < k → listed.getD i true = true := by
      intro k
      induction k with
      | zero => exact fun _ => .inr fun i hi => by omega
      | succ k ih =>
        intro hk
        rcases ih (by omega) with h | h
        · exact .inl h
        · cases hb : listed.getD k true with
          | true =>
            refine .inr fun i hi => ?_
            by_cases e : i = k
            · rw [e]; exact hb
            · exact h i (by omega)
          | false =>
            have hk2 : k < ops.size := by omega
            refine .inl ⟨k, by omega, mem_ready.2 ⟨hb, ops[k], by simp [hk2], fun e he hbb => ?_⟩⟩
            have h1 := hlow k ops[k] (by simp [hk2]) e he hbb
            have h2 := h e.on h1
            simp only [Array.getD_eq_getD_getElem?] at h2 ⊢
            have : e.on < listed.size := by omega
            simpa [this] using h2
    rcases this m (Nat.le_refl _) with ⟨i, _, hi⟩ | h
    · intro e; rw [e] at hi; cases hi
    · intro e
      have : m ∈ Region.ready md ops listed := mem_ready.2 ⟨hmf, o, hm, fun e he hbb => by
        have h1 := hlow m o hm e he hbb
        have h2 := h e.on h1
        simp only [Array.getD_eq_getD_getElem?] at h2 ⊢
        have : e.on < listed.size := by omega
        simpa [this] using h2⟩
      rw [e] at this; cases this
  have last : ∀ listed : Array Bool, listed.size = m + 1 → m ∈ Region.ready md ops listed → Region.ready md ops (listed.setIfInBounds m true) = [] := by
    intro listed hl hr
    obtain ⟨_, x, hx, h2⟩ := mem_ready.1 hr
    rw [hm] at hx; cases hx
    rw [List.eq_nil_iff_forall_not_mem]
    intro j hj
    obtain ⟨h3, x, hx, _⟩ := mem_ready.1 hj
    have hjz : j < ops.size := (Array.getElem?_eq_some_iff.1 hx).1
    by_cases e : j = m
    · subst e
      simp [Array.getD_eq_getD_getElem?, hl] at h3
    · obtain ⟨e1, he1, hb1, rfl⟩ := hall j (by omega)
      rw [getD_set (Ne.symm e)] at h3
      have h4 := h2 e1 he1 hb1
      have : e1.on < listed.size := by omega
      simp [Array.getD_eq_getD_getElem?, this] at h3 h4
      rw [h3] at h4; cases h4
  intro fuel
  induction fuel with
  | zero =>
    intro listed a w hl hw hmf h
    exact absurd (nil.2 h.1) (prog listed hl hmf)
  | succ fuel ih =>
    intro listed a w hl hw hmf h
    refine ⟨fun h0 => absurd h0 (prog listed hl hmf), fun i hi => ?_⟩
    have h1 := h.2 i (mem.1 hi)
    by_cases e : i = m
    · subst e
      have hlast := last listed hl hi
      have hend : ∀ a w, Q' .normal a w → wpAnyIn F n P md ops Q' fuel (listed.setIfInBounds i true) a w := fun a w hq => by
        cases fuel with
        | zero => exact ⟨hlast, hq⟩
        | succ fuel => exact ⟨fun _ => hq, fun j hj => by rw [hlast] at hj; cases hj⟩
      unfold qOpIn at h1
      simp only [hm'] at h1
      obtain ⟨_, h1⟩ := h1
      have hwt : Region.wanted fk (yielded ops' a.tmps) = true := by simp [Region.wanted, hgd']
      rw [if_pos hwt] at h1
      obtain ⟨v, _, h2⟩ := h1
      have hq : Q a := by
        rw [hdst] at h2
        have h2 : wpAnyQIn F n P md ops' C Q fuel (listed.setIfInBounds i true) a := h2
        cases fuel with
        | zero => exact h2.2
        | succ fuel => exact h2.1 (nil.1 hlast)
      unfold wpOpIn
      simp only [hm]
      have hwo : Region.wanted o (yielded ops a.tmps) = true := by simp [Region.wanted, hgd]
      rw [if_pos hwo]
      exact Oper.wpIn_mono (fun a w hq => hend a w hq) (hQ a w hw hq)
    · exact wpOpIn_of_quiet (hnd i) (hg i) (hs i e) hw (fun a' w' hw' hK => ih (listed.setIfInBounds i true) a' w' (by simpa using hl) hw' ((getD_set e true).trans hmf) hK) h1
end

/-- An operation that does nothing in the place of another one. -/
def fake (o : Oper) : Oper := { o with op := .move (.const (.int .i64 0)) }
def fakeLast : List Oper → List Oper
  | [] => []
  | [o] => [fake o]
  | o :: p :: l => o :: fakeLast (p :: l)
def lastOf : List Oper → Option Oper
  | [] => none
  | [o] => some o
  | _ :: p :: l => lastOf (p :: l)
def notDefer : Op → Bool
  | .defer _ => false
  | _ => true
def lowFrom : Nat → List Oper → Bool
  | _, [] => true
  | i, o :: l => o.after.toList.all (fun e => !Region.binds .any e || Nat.blt e.on i) && lowFrom (i + 1) l
def lastOk (l : List Oper) : Bool :=
  Region.lexB .any (fakeLast l).toArray && l.all (fun o => o.guard.isNone && notDefer o.op) && lowFrom 0 l &&
    match lastOf l with
    | some o => o.dst.isNone && (List.range (l.length - 1)).all fun j => o.after.toList.any fun e => Region.binds .any e && Nat.beq e.on j
    | none => false
theorem fakeLast_len : ∀ l : List Oper, (fakeLast l).length = l.length
  | [] => rfl
  | [o] => rfl
  | o :: p :: l => by simp [fakeLast, fakeLast_len (p :: l)]
theorem fakeLast_get : ∀ (l : List Oper) (i : Nat), i ≠ l.length - 1 → l[i]? = (fakeLast l)[i]?
  | [], _, _ => rfl
  | [o], 0, h => absurd rfl h
  | [o], i + 1, h => by simp [fakeLast]
  | o :: p :: l, 0, h => by simp [fakeLast]
  | o :: p :: l, i + 1, h => by
    simp only [fakeLast, List.getElem?_cons_succ]
    exact fakeLast_get (p :: l) i (by simp at h ⊢; omega)
theorem lastOf_get : ∀ (l : List Oper) (o : Oper), lastOf l = some o → l[l.length - 1]? = some o ∧ (fakeLast l)[l.length - 1]? = some (fake o)
  | [], _, h => by cases h
  | [x], o, h => by cases h; exact ⟨rfl, rfl⟩
  | x :: p :: l, o, h => by
    have := lastOf_get (p :: l) o h
    simpa [fakeLast] using this
theorem lowFrom_get : ∀ (k : Nat) (l : List Oper), lowFrom k l = true → ∀ (i : Nat) (x : Oper), l[i]? = some x → ∀ e ∈ x.after, Region.binds .any e = true → e.on < k + i
  | _, [], _, i, x, h, _, _, _ => by simp at h
  | k, o :: l, hl, 0, x, h, e, he, hb => by
    simp only [lowFrom, Bool.and_eq_true, List.all_eq_true] at hl
    simp only [List.getElem?_cons_zero, Option.some.injEq] at h
    subst h
    have := hl.1 e (by simpa using he)
    simpa [Nat.blt_eq, hb] using this
  | k, o :: l, hl, i + 1, x, h, e, he, hb => by
    simp only [lowFrom, Bool.and_eq_true] at hl
    have := lowFrom_get (k + 1) l hl.2 i x (by simpa using h) e he hb
    omega

/-- **A region that draws its order and whose last operation waits for all others: one walk of the text's order serves every order.** -/
theorem wpIn_region_quiet_last {F : Fence} {n : Nat} {P : Program} {C : World → Prop} {id : Nat} {Q : Exit → Act → World → Prop} {a : Act} {w : World} {l : List Oper} {o : Oper} (hm : P.follows .mixedOrders = true) (hok : lastOk l = true) (hlo : lastOf l = some o)
    (hC : C { w with drawn := w.drawn + 1 })
    (h : wpQuietIn F n P (fakeLast l).toArray C (fun a' => ∀ w', C w' → o.wpIn F n P a' w' (fun a w => Q .normal a w) Q) (fakeLast l) a) : (Code.region id l.toArray true).wpIn F n P Q a w := by
  simp only [lastOk, Bool.and_eq_true, hlo] at hok
  obtain ⟨⟨⟨hB, hall⟩, hlow⟩, hdst, hwait⟩ := hok
  simp only [Region.lexB, Bool.and_eq_true] at hB
  obtain ⟨g1, g2⟩ := lastOf_get l o hlo
  have hne : l ≠ [] := by rintro rfl; cases hlo
  have hlen : l.length - 1 + 1 = l.length := by have := List.length_pos_iff.2 hne; omega
  simp only [List.all_eq_true, Bool.and_eq_true] at hall
  have hall' : ∀ (i : Nat) (x : Oper), l.toArray[i]? = some x → x.guard = none ∧ NoDefer x := fun i x hx => by
    have := hall x (List.mem_of_getElem? (by simpa using hx))
    refine ⟨by simpa using this.1, fun c e => ?_⟩
    rw [e] at this
    exact absurd this.2 (by simp [notDefer])
  have hq := wpAnyQIn_lex (F := F) (n := n) (C := C) (md := .any) hB.1 (fakeLast l) 0 (Array.replicate (fakeLast l).toArray.size false) a (by simp) (by simpa using hB.2) h
  refine wpIn_region_any hm ?_
  refine wpAnyIn_last (m := l.length - 1) (o := o) (fk := fake o) (ops := l.toArray) (ops' := (fakeLast l).toArray) (by simpa using g1) (by simpa using g2) (fun i hi => by simpa using fakeLast_get l i hi) (by simp [hlen])
    (fun i x hx => (hall' i x hx).2) (fun i x hx a => by simp [Region.wanted, (hall' i x hx).1]) rfl (by simpa [fake] using hdst) ((hall' _ o (by simpa using g1)).1) (by show o.guard = none; exact (hall' _ o (by simpa using g1)).1)
    (fun i x hx e he hb => by have := lowFrom_get 0 l hlow i x (by simpa using hx) e he hb; omega) (fun j hj => ?_) (Q := fun a' => ∀ w', C w' → o.wpIn F n P a' w' (fun a w => Q .normal a w) Q) (fun a w hw hQ => hQ w hw) l.toArray.size (Array.replicate l.toArray.size false) a _ (by simp [hlen]) hC ?_ (by simpa [fakeLast_len] using hq)
  rotate_left
  · have : l.length - 1 < l.length := by omega
    simp [Array.getD_eq_getD_getElem?, this]
  rw [List.all_eq_true] at hwait
  have := hwait j (List.mem_range.2 hj)
  rw [List.any_eq_true] at this
  obtain ⟨e, he, h2⟩ := this
  simp only [Bool.and_eq_true] at h2
  exact ⟨e, by simpa using he, h2.1, Nat.eq_of_beq_eq_true h2.2⟩
/-- The same at the class of worlds behind draws and new blocks. -/
theorem wpIn_region_below_last {F : Fence} {n : Nat} {P : Program} {id : Nat} {Q : Exit → Act → World → Prop} {a : Act} {w : World} {l : List Oper} {o : Oper} (hm : P.follows .mixedOrders = true) (hok : lastOk l = true) (hlo : lastOf l = some o)
    (h : wpQuietIn F n P (fakeLast l).toArray (fun w' => ∃ p : Regrown, w' = grow (redrawn w p.d) p.os) (fun a' => ∀ w', (∃ p : Regrown, w' = grow (redrawn w p.d) p.os) → o.wpIn F n P a' w' (fun a w => Q .normal a w) Q) (fakeLast l) a) : (Code.region id l.toArray true).wpIn F n P Q a w :=
  wpIn_region_quiet_last (C := fun w' => ∃ p : Regrown, w' = grow (redrawn w p.d) p.os) hm hok hlo ⟨⟨w.drawn + 1, #[]⟩, by rw [grow_empty]; rfl⟩ h
end Go.Rg
set_option linter.all false
namespace Go.Rg
open Go Go.Sort Go.RowKit

section
variable {F : Fence} {n : Nat} {P : Program} {md : Region.Mode}

/-- The temporaries behind the operations that are over. -/
structure AtSt (ops : Array Oper) (vs : Nat → Value) (a0 : Act) (listed : Array Bool) (a : Act) : Prop where
  defers : a.defers = a0.defers
  size : a.tmps.size = a0.tmps.size
  done : ∀ (j : Nat) (o : Oper) (d : Tmp), listed.getD j false = true → ops[j]? = some o → o.dst = some d → a.tmps.getD d undef = if d < a0.tmps.size then vs j else undef
  other : ∀ t, (∀ (j : Nat) (o : Oper), listed.getD j false = true → ops[j]? = some o → o.dst ≠ some t) → a.tmps.getD t undef = a0.tmps.getD t undef

theorem AtSt.put {ops : Array Oper} {vs : Nat → Value} {a0 a : Act} {listed : Array Bool} {i : Nat} {o : Oper} (h : AtSt ops vs a0 listed a) (ho : ops[i]? = some o) (hi : listed.getD i true = false) (hdist : ∀ (j k : Nat) (x y : Oper) (d : Tmp), ops[j]? = some x → ops[k]? = some y → x.dst = some d → y.dst = some d → j = k) :
    AtSt ops vs a0 (listed.setIfInBounds i true) (a.put o.dst (vs i)) := by
  have hil : i < listed.size := by
    rcases Nat.lt_or_ge i listed.size with h | h
    · exact h
    · simp [Array.getD_eq_getD_getElem?, Array.getElem?_eq_none h] at hi
  have lst : ∀ j, (listed.setIfInBounds i true).getD j false = true ↔ j = i ∨ listed.getD j false = true := fun j => by
    by_cases e : j = i
    · subst e; simp [Array.getD_eq_getD_getElem?, hil]
    · simp [Array.getD_eq_getD_getElem?, Array.getElem?_setIfInBounds_ne (Ne.symm e), e]
  have hput : (a.put o.dst (vs i)).defers = a.defers ∧ (a.put o.dst (vs i)).tmps.size = a.tmps.size ∧ ∀ t, (a.put o.dst (vs i)).tmps.getD t undef = if o.dst = some t ∧ t < a.tmps.size then vs i else a.tmps.getD t undef := by
    cases hd : o.dst with
    | none => exact ⟨rfl, rfl, fun t => by simp [Act.put]⟩
    | some d =>
      refine ⟨rfl, by simp [Act.put], fun t => ?_⟩
      by_cases e : d = t
      · subst e
        by_cases hz : d < a.tmps.size
        · simp [Act.put, Array.getD_eq_getD_getElem?, hz]
        · simp [Act.put, Array.getD_eq_getD_getElem?, hz]
      · simp [Act.put, Array.getD_eq_getD_getElem?, Array.getElem?_setIfInBounds_ne e, e]
  obtain ⟨p1, p2, p3⟩ := hput
  refine ⟨p1.trans h.defers, p2.trans h.size, fun j x d hj hx hd => ?_, fun t ht => ?_⟩
  · rw [p3]
    by_cases e : j = i
    · subst e
      rw [ho] at hx; cases hx
      rw [← h.size]
      by_cases hz : d < a.tmps.size
      · simp [hd, hz]
      · simp [hd, hz, Array.getD_eq_getD_getElem?]
    · have : ¬ (o.dst = some d ∧ d < a.tmps.size) := fun h1 => e (hdist j i x o d hx ho hd h1.1)
      rw [if_neg this]
      exact h.done j x d (((lst j).1 hj).resolve_left e) hx hd
  · rw [p3, if_neg (fun h1 => ht i o ((lst i).2 (.inl rfl)) ho h1.1)]
    exact h.other t fun j x hj hx => ht j x ((lst j).2 (.inr hj)) hx

theorem wpAnyIn_states {ops : Array Oper} {vs : Nat → Value} {a0 : Act} {CW : Array Bool → World → Prop} {Q : Exit → Act → World → Prop} (hdist : ∀ (j k : Nat) (x y : Oper) (d : Tmp), ops[j]? = some x → ops[k]? = some y → x.dst = some d → y.dst = some d → j = k)
    (hgd : ∀ (i : Nat) (o : Oper), ops[i]? = some o → o.guard = none) (hlow : ∀ (i : Nat) (x : Oper), ops[i]? = some x → ∀ e ∈ x.after, Region.binds md e = true → e.on < i)
    (hop : ∀ (i : Nat) (o : Oper) (listed : Array Bool) (a : Act) (w : World), listed.size = ops.size → ops[i]? = some o → listed.getD i true = false → (∀ e ∈ o.after, Region.binds md e = true → listed.getD e.on false = true) → AtSt ops vs a0 listed a → CW listed w →
      o.wpIn F n P a w (fun a' w' => a' = a.put o.dst (vs i) ∧ CW (listed.setIfInBounds i true) w') Q)
    (hend : ∀ (listed : Array Bool) (a : Act) (w : World), (∀ i, i < ops.size → listed.getD i false = true) → AtSt ops vs a0 listed a → CW listed w → Q .normal a w) :
    ∀ (fuel : Nat) (listed : Array Bool) (a : Act) (w : World), listed.size = ops.size → (listed.toList.countP (· == false)) ≤ fuel → AtSt ops vs a0 listed a → CW listed w → wpAnyIn F n P md ops Q fuel listed a w := by
  have full : ∀ listed : Array Bool, listed.size = ops.size → Region.ready md ops listed = [] → ∀ i, i < ops.size → listed.getD i false = true := by
    intro listed hl hr i
    induction i using Nat.strongRecOn with
    | _ i ih =>
      intro hi
      cases hb : listed.getD i true with
      | true =>
        have : i < listed.size := by omega
        simpa [Array.getD_eq_getD_getElem?, this] using hb
      | false =>
        have : i ∈ Region.ready md ops listed := mem_ready.2 ⟨hb, ops[i], by simp [hi], fun e he hbb => by
          have := hlow i ops[i] (by simp [hi]) e he hbb
          exact ih e.on this (by omega)⟩
        rw [hr] at this; cases this
  intro fuel
  induction fuel with
  | zero =>
    intro listed a w hl hc ha hw
    have hall : ∀ i, i < ops.size → listed.getD i false = true := fun i hi => by
      have hc0 : listed.toList.countP (· == false) = 0 := by omega
      rw [List.countP_eq_zero] at hc0
      have hil : i < listed.size := by omega
      have := hc0 listed[i] (by simp)
      simpa [Array.getD_eq_getD_getElem?, hil] using this
    refine ⟨?_, hend listed a w hall ha hw⟩
    rw [List.eq_nil_iff_forall_not_mem]
    intro j hj
    obtain ⟨h1, x, hx, _⟩ := mem_ready.1 hj
    have hjz := (Array.getElem?_eq_some_iff.1 hx).1
    have h2 := hall j hjz
    have : j < listed.size := by omega
    simp [Array.getD_eq_getD_getElem?, this] at h1 h2
    rw [h1] at h2; cases h2
  | succ fuel ih =>
    intro listed a w hl hc ha hw
    refine ⟨fun h0 => hend listed a w (full listed hl h0) ha hw, fun i hi => ?_⟩
    obtain ⟨h1, o, ho, h2⟩ := mem_ready.1 hi
    unfold wpOpIn
    simp only [ho]
    have hwt : Region.wanted o (yielded ops a.tmps) = true := by simp [Region.wanted, hgd i o ho]
    rw [if_pos hwt]
    refine Oper.wpIn_mono (fun a' w' hq => ?_) (hop i o listed a w hl ho h1 h2 ha hw)
    obtain ⟨rfl, hcw⟩ := hq
    have hil : i < listed.size := by
      rcases Nat.lt_or_ge i listed.size with h | h
      · exact h
      · simp [Array.getD_eq_getD_getElem?, Array.getElem?_eq_none h] at h1
    refine ih _ _ _ (by simpa using hl) ?_ (ha.put ho h1 hdist) hcw
    have hlf : listed.toList[i]? = some false := by
      have : listed[i] = false := by simpa [Array.getD_eq_getD_getElem?, hil] using h1
      simp [hil, this]
    have key : ∀ (l : List Bool) (i : Nat), l[i]? = some false → (l.set i true).countP (· == false) + 1 = l.countP (· == false) := by
      intro l
      induction l with
      | nil => intro i h; simp at h
      | cons b l ihl =>
        intro i h
        cases i with
        | zero =>
          simp only [List.getElem?_cons_zero, Option.some.injEq] at h
          subst h; simp
        | succ i =>
          have := ihl i (by simpa using h)
          simp only [List.set_cons_succ, List.countP_cons]
          omega
    have := key listed.toList i hlf
    rw [Array.toList_setIfInBounds]
    omega
theorem countP_set : ∀ (l : List Bool) (i : Nat), l[i]? = some false → (l.set i true).countP (· == false) + 1 = l.countP (· == false) := by
  intro l
  induction l with
  | nil => intro i h; simp at h
  | cons b l ihl =>
    intro i h
    cases i with
    | zero =>
      simp only [List.getElem?_cons_zero, Option.some.injEq] at h
      subst h; simp
    | succ i =>
      have := ihl i (by simpa using h)
      simp only [List.set_cons_succ, List.countP_cons]
      omega
theorem wpAnyIn_inv {ops : Array Oper} {St : Array Bool → Act → World → Prop} {Q : Exit → Act → World → Prop} (hlow : ∀ (i : Nat) (x : Oper), ops[i]? = some x → ∀ e ∈ x.after, Region.binds md e = true → e.on < i)
    (hop : ∀ (i : Nat) (o : Oper) (listed : Array Bool) (a : Act) (w : World), listed.size = ops.size → ops[i]? = some o → listed.getD i true = false → (∀ e ∈ o.after, Region.binds md e = true → listed.getD e.on false = true) → St listed a w →
      if Region.wanted o (yielded ops a.tmps) then o.wpIn F n P a w (fun a' w' => St (listed.setIfInBounds i true) a' w') Q else (∀ f, o.about P w a.eval = some f → F.fn f) ∧ St (listed.setIfInBounds i true) (a.put o.dst undef) w)
    (hend : ∀ (listed : Array Bool) (a : Act) (w : World), (∀ i, i < ops.size → listed.getD i false = true) → St listed a w → Q .normal a w) :
    ∀ (fuel : Nat) (listed : Array Bool) (a : Act) (w : World), listed.size = ops.size → (listed.toList.countP (· == false)) ≤ fuel → St listed a w → wpAnyIn F n P md ops Q fuel listed a w := by
  have full : ∀ listed : Array Bool, listed.size = ops.size → Region.ready md ops listed = [] → ∀ i, i < ops.size → listed.getD i false = true := by
    intro listed hl hr i
    induction i using Nat.strongRecOn with
    | _ i ih =>
      intro hi
      cases hb : listed.getD i true with
      | true =>
        have : i < listed.size := by omega
        simpa [Array.getD_eq_getD_getElem?, this] using hb
      | false =>
        have : i ∈ Region.ready md ops listed := mem_ready.2 ⟨hb, ops[i], by simp [hi], fun e he hbb => by
          have := hlow i ops[i] (by simp [hi]) e he hbb
          exact ih e.on this (by omega)⟩
        rw [hr] at this; cases this
  intro fuel
  induction fuel with
  | zero =>
    intro listed a w hl hc hw
    have hall : ∀ i, i < ops.size → listed.getD i false = true := fun i hi => by
      have hc0 : listed.toList.countP (· == false) = 0 := by omega
      rw [List.countP_eq_zero] at hc0
      have hil : i < listed.size := by omega
      have := hc0 listed[i] (by simp)
      simpa [Array.getD_eq_getD_getElem?, hil] using this
    refine ⟨?_, hend listed a w hall hw⟩
    rw [List.eq_nil_iff_forall_not_mem]
    intro j hj
    obtain ⟨h1, x, hx, _⟩ := mem_ready.1 hj
    have hjz := (Array.getElem?_eq_some_iff.1 hx).1
    have h2 := hall j hjz
    have : j < listed.size := by omega
    simp [Array.getD_eq_getD_getElem?, this] at h1 h2
    rw [h1] at h2; cases h2
  | succ fuel ih =>
    intro listed a w hl hc hw
    refine ⟨fun h0 => hend listed a w (full listed hl h0) hw, fun i hi => ?_⟩
    obtain ⟨h1, o, ho, h2⟩ := mem_ready.1 hi
    unfold wpOpIn
    simp only [ho]
    have hil : i < listed.size := by
      rcases Nat.lt_or_ge i listed.size with h | h
      · exact h
      · simp [Array.getD_eq_getD_getElem?, Array.getElem?_eq_none h] at h1
    have hlf : listed.toList[i]? = some false := by
      have : listed[i] = false := by simpa [Array.getD_eq_getD_getElem?, hil] using h1
      simp [hil, this]
    have hcnt : (listed.setIfInBounds i true).toList.countP (· == false) ≤ fuel := by
      have := countP_set listed.toList i hlf
      rw [Array.toList_setIfInBounds]
      omega
    have hh := hop i o listed a w hl ho h1 h2 hw
    split
    · rename_i hwt
      rw [if_pos hwt] at hh
      exact Oper.wpIn_mono (fun a' w' hq => ih _ _ _ (by simpa using hl) hcnt hq) hh
    · rename_i hwt
      rw [if_neg hwt] at hh
      exact ⟨hh.1, ih _ _ _ (by simpa using hl) hcnt hh.2⟩
end

def distFrom : List Oper → Bool
  | [] => true
  | o :: l => (match o.dst with | none => true | some d => l.all fun p => match p.dst with | none => true | some e => !Nat.beq d e) && distFrom l
theorem distFrom_get : ∀ (l : List Oper), distFrom l = true → ∀ (j k : Nat) (x y : Oper) (d : Tmp), l[j]? = some x → l[k]? = some y → x.dst = some d → y.dst = some d → j = k
  | [], _, j, k, x, y, d, hj, _, _, _ => by simp at hj
  | o :: l, h, j, k, x, y, d, hj, hk, hx, hy => by
    simp only [distFrom, Bool.and_eq_true] at h
    have no : ∀ {i : Nat} {z : Oper}, o.dst = some d → l[i]? = some z → z.dst = some d → False := fun {i z} ho hz hzd => by
      rw [ho] at h
      have := List.all_eq_true.1 h.1 z (List.mem_of_getElem? hz)
      rw [hzd] at this
      simp at this
    match j, k, hj, hk with
    | 0, 0, _, _ => rfl
    | 0, k + 1, hj, hk =>
      simp only [List.getElem?_cons_zero, Option.some.injEq] at hj
      subst hj
      exact (no hx (by simpa using hk) hy).elim
    | j + 1, 0, hj, hk =>
      simp only [List.getElem?_cons_zero, Option.some.injEq] at hk
      subst hk
      exact (no hy (by simpa using hj) hx).elim
    | j + 1, k + 1, hj, hk =>
      have := distFrom_get l h.2 j k x y d (by simpa using hj) (by simpa using hk) hx hy
      omega
theorem AtSt.old {l : List Oper} {vs : Nat → Value} {a0 a : Act} {listed : Array Bool} (h : AtSt l.toArray vs a0 listed a) (t : Tmp) (ht : l.all (fun o => match o.dst with | some d => !Nat.beq d t | none => true) = true) : a.tmps.getD t undef = a0.tmps.getD t undef :=
  h.other t fun j o _ ho hd => by
    have := List.all_eq_true.1 ht o (List.mem_of_getElem? (by simpa using ho))
    rw [hd] at this
    simp at this
theorem AtSt.new {l : List Oper} {vs : Nat → Value} {a0 a : Act} {listed : Array Bool} (h : AtSt l.toArray vs a0 listed a) (j : Nat) (hj : listed.getD j false = true) {o : Oper} {d : Tmp} (ho : l[j]? = some o) (hd : o.dst = some d) (hz : d < a0.tmps.size) : a.tmps.getD d undef = vs j := by
  have := h.done j o d hj (by simpa using ho) hd
  rwa [if_pos hz] at this
/-- is operation i over? -/
def on (listed : Array Bool) (i : Nat) : Bool := listed.getD i false
theorem on_set {listed : Array Bool} {i j : Nat} (h : j ≠ i) : on (listed.setIfInBounds i true) j = on listed j := by
  unfold on; simp [Array.getD_eq_getD_getElem?, Array.getElem?_setIfInBounds_ne (Ne.symm h)]
theorem on_self {listed : Array Bool} {i : Nat} (h : i < listed.size) : on (listed.setIfInBounds i true) i = true := by
  unfold on; simp [Array.getD_eq_getD_getElem?, h]
theorem on_no {listed : Array Bool} {i : Nat} (h : listed.getD i true = false) : on listed i = false := by
  unfold on
  simp only [Array.getD_eq_getD_getElem?] at *
  cases hx : listed[i]? with
  | none => rw [hx] at h; cases h
  | some b => rw [hx] at h; simpa using h
def statesOk (l : List Oper) : Bool := distFrom l && l.all (fun o => o.guard.isNone) && lowFrom 0 l

/-- **A region that draws its order, by its states.** -/
theorem wpIn_region_states {F : Fence} {n : Nat} {P : Program} {id : Nat} {Q : Exit → Act → World → Prop} {a0 : Act} {w : World} {l : List Oper} (vs : Nat → Value) (CW : Array Bool → World → Prop) (hm : P.follows .mixedOrders = true) (hok : statesOk l = true)
    (h0 : CW (Array.replicate l.length false) { w with drawn := w.drawn + 1 })
    (hop : ∀ (i : Nat) (o : Oper) (listed : Array Bool) (a : Act) (w : World), listed.size = l.length → l[i]? = some o → listed.getD i true = false → (∀ e ∈ o.after, Region.binds .any e = true → listed.getD e.on false = true) → AtSt l.toArray vs a0 listed a → CW listed w →
      o.wpIn F n P a w (fun a' w' => a' = a.put o.dst (vs i) ∧ CW (listed.setIfInBounds i true) w') Q)
    (hend : ∀ (listed : Array Bool) (a : Act) (w : World), (∀ i, i < l.length → listed.getD i false = true) → AtSt l.toArray vs a0 listed a → CW listed w → Q .normal a w) : (Code.region id l.toArray true).wpIn F n P Q a0 w := by
  simp only [statesOk, Bool.and_eq_true, List.all_eq_true] at hok
  obtain ⟨⟨hd, hg⟩, hlow⟩ := hok
  refine wpIn_region_any hm ?_
  refine wpAnyIn_states (ops := l.toArray) (vs := vs) (a0 := a0) (CW := CW) (fun j k x y d hj hk hx hy => distFrom_get l hd j k x y d (by simpa using hj) (by simpa using hk) hx hy) (fun i o ho => by simpa using hg o (List.mem_of_getElem? (by simpa using ho)))
    (fun i x hx e he hb => by have := lowFrom_get 0 l hlow i x (by simpa using hx) e he hb; omega)
    (fun i o listed a w hl ho h1 h2 ha hw => hop i o listed a w (by simpa using hl) (by simpa using ho) h1 h2 ha hw) (fun listed a w hall ha hw => hend listed a w (by simpa using hall) ha hw) _ _ _ _ (by simp) ?_ ⟨rfl, rfl, fun j o d hj => ?_, fun t _ => rfl⟩ (by simpa using h0)
  · simp [List.countP_replicate]
  · simp only [Array.getD_eq_getD_getElem?, Array.getElem?_replicate] at hj
    split at hj <;> simp at hj
theorem AtSt.swap {l : Array Oper} {vs vs' : Nat → Value} {a0 a : Act} {listed : Array Bool} (h : AtSt l vs a0 listed a) (hs : ∀ j, listed.getD j false = true → vs j = vs' j) : AtSt l vs' a0 listed a :=
  ⟨h.defers, h.size, fun j o d hj ho hd => by rw [← hs j hj]; exact h.done j o d hj ho hd, h.other⟩
/-- Where an operation is over all are that it waits for. -/
def Closed (l : List Oper) (listed : Array Bool) : Prop := ∀ (j : Nat) (o : Oper), l[j]? = some o → on listed j = true → ∀ e ∈ o.after, Region.binds .any e = true → on listed e.on = true
theorem on_set_mono {listed : Array Bool} {i j : Nat} (h : on listed j = true) : on (listed.setIfInBounds i true) j = true := by
  by_cases e : j = i
  · subst e
    refine on_self ?_
    unfold on at h
    rcases Nat.lt_or_ge j listed.size with h1 | h1
    · exact h1
    · simp [Array.getD_eq_getD_getElem?, Array.getElem?_eq_none h1] at h
  · rw [on_set e]; exact h
theorem Closed.set {l : List Oper} {listed : Array Bool} {i : Nat} {o : Oper} (h : Closed l listed) (ho : l[i]? = some o) (h2 : ∀ e ∈ o.after, Region.binds .any e = true → listed.getD e.on false = true) : Closed l (listed.setIfInBounds i true) := fun j x hx hj e he hb => by
  by_cases e1 : j = i
  · subst e1
    rw [ho] at hx; cases hx
    exact on_set_mono (h2 e he hb)
  · rw [on_set e1] at hj
    exact on_set_mono (h j x hx hj e he hb)
/-- **A region that draws its order, by an invariant of its states.** -/
theorem wpIn_region_inv {F : Fence} {n : Nat} {P : Program} {id : Nat} {Q : Exit → Act → World → Prop} {a0 : Act} {w : World} {l : List Oper} (St : Array Bool → Act → World → Prop) (hm : P.follows .mixedOrders = true) (hlow : lowFrom 0 l = true)
    (h0 : St (Array.replicate l.length false) a0 { w with drawn := w.drawn + 1 })
    (hop : ∀ (i : Nat) (o : Oper) (listed : Array Bool) (a : Act) (w : World), listed.size = l.length → l[i]? = some o → listed.getD i true = false → (∀ e ∈ o.after, Region.binds .any e = true → listed.getD e.on false = true) → Closed l listed → St listed a w →
      if Region.wanted o (yielded l.toArray a.tmps) then o.wpIn F n P a w (fun a' w' => St (listed.setIfInBounds i true) a' w') Q else (∀ f, o.about P w a.eval = some f → F.fn f) ∧ St (listed.setIfInBounds i true) (a.put o.dst undef) w)
    (hend : ∀ (listed : Array Bool) (a : Act) (w : World), (∀ i, i < l.length → listed.getD i false = true) → St listed a w → Q .normal a w) : (Code.region id l.toArray true).wpIn F n P Q a0 w := by
  refine wpIn_region_any hm ?_
  have low : ∀ (i : Nat) (x : Oper), l.toArray[i]? = some x → ∀ e ∈ x.after, Region.binds .any e = true → e.on < i := fun i x hx e he hb => by have := lowFrom_get 0 l hlow i x (by simpa using hx) e he hb; omega
  refine wpAnyIn_inv (ops := l.toArray) (St := fun listed a w => Closed l listed ∧ St listed a w) low (fun i o listed a w hl ho h1 h2 hw => ?_) (fun listed a w hall hw => hend listed a w (by simpa using hall) hw.2) _ _ _ _ (by simp) ?_ ⟨fun j o ho hj => ?_, by simpa using h0⟩
  · have ho' : l[i]? = some o := by simpa using ho
    have hc := hw.1.set ho' h2
    have := hop i o listed a w (by simpa using hl) ho' h1 h2 hw.1 hw.2
    split
    · rename_i hwt
      rw [if_pos hwt] at this
      exact Oper.wpIn_mono (fun a' w' hq => ⟨hc, hq⟩) this
    · rename_i hwt
      rw [if_neg hwt] at this
      exact ⟨this.1, hc, this.2⟩
  · simp [List.countP_replicate]
  · unfold on at hj
    simp only [Array.getD_eq_getD_getElem?, Array.getElem?_replicate] at hj
    split at hj <;> simp at hj
/-- The same, the invariant told of the text and of the activation at the region's start. -/
theorem wpIn_region_invL {F : Fence} {n : Nat} {P : Program} {id : Nat} {Q : Exit → Act → World → Prop} {a0 : Act} {w : World} {l : List Oper} (St : List Oper → Act → Array Bool → Act → World → Prop) (hm : P.follows .mixedOrders = true) (hlow : lowFrom 0 l = true)
    (h0 : St l a0 (Array.replicate l.length false) a0 { w with drawn := w.drawn + 1 })
    (hop : ∀ (i : Nat) (o : Oper) (listed : Array Bool) (a : Act) (w : World), listed.size = l.length → l[i]? = some o → listed.getD i true = false → (∀ e ∈ o.after, Region.binds .any e = true → listed.getD e.on false = true) → Closed l listed → St l a0 listed a w →
      if Region.wanted o (yielded l.toArray a.tmps) then o.wpIn F n P a w (fun a' w' => St l a0 (listed.setIfInBounds i true) a' w') Q else (∀ f, o.about P w a.eval = some f → F.fn f) ∧ St l a0 (listed.setIfInBounds i true) (a.put o.dst undef) w)
    (hend : ∀ (listed : Array Bool) (a : Act) (w : World), (∀ i, i < l.length → listed.getD i false = true) → St l a0 listed a w → Q .normal a w) : (Code.region id l.toArray true).wpIn F n P Q a0 w :=
  wpIn_region_inv (St l a0) hm hlow h0 hop hend
theorem arr_range (t : Array Value) : t = ((List.range t.size).map fun i => t.getD i undef).toArray := by
  apply Array.ext'
  apply List.ext_getElem?
  intro i
  rcases Nat.lt_or_ge i t.size with h | h
  · simp [h, Array.getD_eq_getD_getElem?]
  · simp [h]
/-- The temporaries, written out. -/
theorem AtSt.lit {l : Array Oper} {vs : Nat → Value} {a0 a : Act} {listed : Array Bool} (h : AtSt l vs a0 listed a) {n : Nat} (hn : a0.tmps.size = n) : ∃ y : Nat → Value, (∀ t, a.tmps.getD t undef = y t) ∧ a = { tmps := ((List.range n).map y).toArray, defers := a0.defers } := by
  refine ⟨fun t => a.tmps.getD t undef, fun _ => rfl, ?_⟩
  have := arr_range a.tmps
  rw [h.size, hn] at this
  obtain ⟨tm, df⟩ := a
  simp only at this ⊢
  rw [← this, ← h.defers]
end Go.Rg
set_option linter.all false
namespace Go.Proofs.YtchgkfnodcbpiaaDoor
open Go.RowKit Go.Sort Go.Rg
set_option maxRecDepth 100000
attribute [local go_sem] Oper.semAt_some

theorem wpIn_scope_calm {F : Fence} {n : Nat} {P : Program} {c : Code} {Q : Exit → Act → World → Prop} {a : Act} {w : World} (hg : ∀ l a w, ¬ Q (.goto l) a w) (h : c.wpIn F n P Q a w) : (Code.scope c).wpIn F n P Q a w :=
  Go.Ai.wpIn_scope (wpIn_mono h fun e a w q => ⟨fun l hl => hg l a w (hl ▸ q), q⟩)
theorem kcell {A B : World} (hk : Kept A B) {b o : Nat} {v : Value} (h : A.cell? ⟨b, o, none⟩ = some v) : B.cell? ⟨b, o, none⟩ = some v := ((bcell hk).1 b o (Go.Ai.lt_of_cell h)).trans h
theorem tcell {A B : World} {U : Nat → Prop} (hk : Turns U A B) {b o : Nat} {v : Value} (hu : ¬ U b) (h : A.cell? ⟨b, o, none⟩ = some v) : B.cell? ⟨b, o, none⟩ = some v := (hk.cell (Go.Ai.lt_of_cell h) hu).trans h
theorem kturns {A B : World} (hk : Kept A B) (U : Nat → Prop) : Turns U A B := Turns.below hk

/-- what the iterator of truths works with -/
structure Spot where
  l : Nat
  bt : Nat
  byy : Nat
  bs : Nat
  bc : Nat
  bh : Nat
  k0 : Value
  k1 : Value
  k2 : Value
  k3 : Value
  boy : Int
  lo : Nat → Int
  hi : Nat → Int
  S : Nat → Prop
def Spot.enc (s : Spot) (x : List Int) : Value := .agg (#[s.k0, s.k1, s.k2, s.k3, .int .i64 s.boy] ++ (x.map (Value.int .i64)).toArray)

structure OwnT (s : Spot) (W : World) (pre : List Int) : Prop where
  t0 : W.cell? ⟨s.bt, 0, none⟩ = some s.k0
  t1 : W.cell? ⟨s.bt, 1, none⟩ = some s.k1
  t2 : W.cell? ⟨s.bt, 2, none⟩ = some s.k2
  t3 : W.cell? ⟨s.bt, 3, none⟩ = some s.k3
  t4 : W.cell? ⟨s.bt, 4, none⟩ = some (.int .i64 s.boy)
  num : ∀ i, i < 5 → ∃ v, W.cell? ⟨s.bt, 5 + i, none⟩ = some (.int .i64 v)
  pre : ∀ i v, pre[i]? = some v → W.cell? ⟨s.bt, 5 + i, none⟩ = some (.int .i64 v)
  free : ∀ i, W.frozen? ⟨s.bt, i, none⟩ = false
structure OwnR (s : Spot) (Fx : World → Prop) (W : World) : Prop where
  y : W.cell? ⟨s.byy, 0, none⟩ = some (.func (.yield s.l) #[] #[])
  sp : ∀ i, i < 5 → W.cell? ⟨s.bs, i * 2, none⟩ = some (.int .i64 (s.lo i)) ∧ W.cell? ⟨s.bs, i * 2 + 1, none⟩ = some (.int .i64 (s.hi i))
  c2 : W.cell? ⟨s.bc, 2, none⟩ = some s.k2
  h : W.cell? ⟨s.bh, 0, none⟩ = some (.func (.func 67) #[] #[.pointer (some ⟨s.bt, 0, none⟩), .pointer (some ⟨s.byy, 0, none⟩), .pointer (some ⟨s.bs, 0, none⟩), .pointer (some ⟨s.bc, 0, none⟩), .pointer (some ⟨s.bh, 0, none⟩)])
  fx : Fx W
/-- the spot's blocks are apart, and Fx speaks of them alone -/
structure Spot.Ok (s : Spot) (Fx : World → Prop) : Prop where
  y1 : s.S s.byy
  s1 : s.S s.bs
  c1 : s.S s.bc
  h1 : s.S s.bh
  t1 : ¬ s.S s.bt
  fx : ∀ A B U, Fx A → Turns U A B → (∀ b, s.S b → ¬ U b) → Fx B

theorem OwnT.turns {s : Spot} {A B : World} {pre : List Int} {U : Nat → Prop} (h : OwnT s A pre) (k : Turns U A B) (hu : ¬ U s.bt) : OwnT s B pre where
  t0 := tcell k hu h.t0
  t1 := tcell k hu h.t1
  t2 := tcell k hu h.t2
  t3 := tcell k hu h.t3
  t4 := tcell k hu h.t4
  num := fun i hi => (h.num i hi).imp fun v hv => tcell k hu hv
  pre := fun i v hi => tcell k hu (h.pre i v hi)
  free := fun i => (k.frozen (Go.Ai.lt_of_cell h.t0) hu).trans (h.free i)
theorem OwnR.turns {s : Spot} {Fx : World → Prop} {A B : World} {U : Nat → Prop} (h : OwnR s Fx A) (ok : s.Ok Fx) (k : Turns U A B) (hu : ∀ b, s.S b → ¬ U b) : OwnR s Fx B where
  y := tcell k (hu _ ok.y1) h.y
  sp := fun i hi => ⟨tcell k (hu _ ok.s1) (h.sp i hi).1, tcell k (hu _ ok.s1) (h.sp i hi).2⟩
  c2 := tcell k (hu _ ok.c1) h.c2
  h := tcell k (hu _ ok.h1) h.h
  fx := ok.fx _ _ _ h.fx k hu
theorem OwnT.less {s : Spot} {W : World} {pre : List Int} {x : List Int} (h : OwnT s W (pre ++ x)) : OwnT s W pre :=
  { h with pre := fun i v hv => h.pre i v (by
      have := (List.getElem?_eq_some_iff.1 hv).1
      rw [List.getElem?_append_left this]; exact hv) }

/-- where the iterator stands -/
structure Good (s : Spot) (V : World) (T T' : Nat → Prop) (A : World) : Prop where
  ext : Ext V.heap.size T T'
  small : ∀ b, T' b → b < A.heap.size
  base : Turns T V A
  offS : ∀ b, s.S b → ¬ T' b
  offt : ¬ T' s.bt
  zs : ∀ b, s.S b → b < A.heap.size
  zt : s.bt < A.heap.size
  lot : V.heap.size ≤ s.bt
theorem Good.step {s : Spot} {V A B : World} {T T' T'' : Nat → Prop} (g : Good s V T T' A) (e : Ext A.heap.size T' T'') (z : ∀ b, T'' b → b < B.heap.size) (k : Turns (fun b => T'' b ∨ b = s.bt) A B) : Good s V T T'' B where
  ext := g.ext.trans e g.base.size
  small := z
  base := g.base.trans (T' := fun b => T'' b ∨ b = s.bt) ⟨fun b hb => .inl (e.up _ (g.ext.up _ hb)), fun b hb => by
    rcases hb with hb | rfl
    · rcases e.out b hb with h | h
      · exact g.ext.out b h
      · exact .inr (Nat.le_trans g.base.size h)
    · exact .inr g.lot⟩ k
  offS := fun b hb ht => by
    rcases e.out b ht with h | h
    · exact g.offS b hb h
    · have := g.zs b hb; omega
  offt := fun ht => by
    rcases e.out _ ht with h | h
    · exact g.offt h
    · have := g.zt; omega
  zs := fun b hb => Nat.lt_of_lt_of_le (g.zs b hb) k.size
  zt := Nat.lt_of_lt_of_le g.zt k.size
  lot := g.lot
theorem Good.kept {s : Spot} {V A B : World} {T T' : Nat → Prop} (g : Good s V T T' A) (k : Kept A B) : Good s V T T' B :=
  g.step (Ext.refl _ _) (fun b hb => Nat.lt_of_lt_of_le (g.small b hb) (bcell k).2.2) (kturns k _)
theorem Good.quiet {s : Spot} {V A B : World} {T T' : Nat → Prop} (g : Good s V T T' A) (k : Turns (fun b => b = s.bt) A B) : Quiet V.heap.size T' A B :=
  ⟨k.os, k.tape, k.output, k.size, fun b hb h => k.block b hb (by rintro rfl; rcases h with h | h; have := g.lot; omega; exact g.offt h)⟩

/-- what a call of the chooser leaves -/
def ChooseP (s : Spot) (Fx : World → Prop) (pre : List Int) (len k N : Nat) (J Jx : Nat → (Nat → Prop) → World → Prop) (T' : Nat → Prop) (A : World) (e : Ending) (B : World) : Prop :=
  ∃ T'', Ext A.heap.size T' T'' ∧ (∀ b, T'' b → b < B.heap.size) ∧ Turns (fun b => T'' b ∨ b = s.bt) A B ∧
    ((e = .returned (.bool true) ∧ J (k + len) T'' B ∧ OwnT s B pre) ∨ (e = .returned (.bool false) ∧ ∃ j, j ≤ N ∧ Jx j T'' B))

theorem choose_end (s : Spot) (Fx : World → Prop) (ok : s.Ok Fx) (xs : List (List Int)) (n0 n1 n2 n3 n4 : Int) (r : Bool) (V A : World) (k : Nat) (J Jx : Nat → (Nat → Prop) → World → Prop) (T T' : Nat → Prop)
   (hR : OwnR s Fx A) (hO : OwnT s A [n0, n1, n2, n3, n4]) (g : Good s V T T' A)
   (hkeep : Calls Tryd.prog 68 #[s.enc [n0, n1, n2, n3, n4]] A fun e B => e = .returned (.bool r) ∧ Kept A B)
   (hseg : ∃ rest, xs.drop k = (if r then [[n0, n1, n2, n3, n4]] else []) ++ rest)
   (hJ : ∀ k T' A B, J k T' A → Quiet V.heap.size T' A B → J k T' B)
   (hY : ∀ k x T' A, xs[k]? = some x → Good s V T T' A → J k T' A → RoundTold Tryd.prog s.l (s.enc x) k J Jx T' A)
   (h0 : J k T' A) :
   CallsIn Fence.wide 0 Tryd.prog 67 #[.int .i64 5, .pointer (some ⟨s.bt, 0, none⟩), .pointer (some ⟨s.byy, 0, none⟩), .pointer (some ⟨s.bs, 0, none⟩), .pointer (some ⟨s.bc, 0, none⟩), .pointer (some ⟨s.bh, 0, none⟩)] A (ChooseP s Fx [n0, n1, n2, n3, n4] (if r then 1 else 0) k xs.length J Jx T' A) := by
  have ⟨t0, t1, t2, t3, t4, num, pre, free⟩ := hO
  have y := hR.y
  have p0 := pre 0 n0 rfl
  have p1 := pre 1 n1 rfl
  have p2 := pre 2 n2 rfl
  have p3 := pre 3 n3 rfl
  have p4 := pre 4 n4 rfl
  simp only [Nat.add_zero, Nat.reduceAdd] at p0 p1 p2 p3 p4
  clear pre num free
  simp only [Spot.enc, List.map_cons, List.map_nil, List.append_toArray, List.cons_append, List.nil_append] at hkeep
  cases r with
  | false =>
    have H0 := Lib.hid h0; clear h0
    have HJ := Lib.hid hJ; clear hJ
    clear hY hseg
    simp only [Bool.false_eq_true, if_false]
    refine callsIn_of_wp Tryd.func67 rfl trivial ?_ rfl
    simp only [Tryd.ntmps67, List.size_toArray, List.length_cons, List.length_nil, Nat.reduceAdd, Nat.reduceSub, Array.replicate_succ, Array.replicate_zero, List.push_toArray, List.append_toArray, List.nil_append, List.cons_append]
    gi_wp2
    refine wpIn_scope_calm (fun _ _ _ h => h.elim) ?_
    gi_wp2_with (refine ⟨trivial, rfl, ?_⟩; refine (callsIn_wide.2 hkeep).mono ?_; rintro e w' ⟨rfl, hk⟩)
    refine ⟨fun _ h => (by cases h), ?_⟩
    gi_wp2
    go_ret
    exact ⟨T', Ext.refl _ _, fun b hb => Nat.lt_of_lt_of_le (g.small b hb) (bcell hk).2.2, kturns hk _, .inl ⟨rfl, HJ.out _ _ _ _ H0.out (g.quiet (kturns hk _)), hO.turns (kturns hk (fun _ => False)) (fun h => h)⟩⟩
  | true =>
    have hx : xs[k]? = some [n0, n1, n2, n3, n4] := by
      obtain ⟨rest, hr⟩ := hseg
      have := congrArg (fun z => z[0]?) hr
      simpa using this
    have hy := fun B (hk : Kept A B) => hY k _ T' B hx (g.kept hk) (hJ _ _ _ _ h0 (g.quiet (kturns hk _)))
    simp only [Spot.enc, List.map_cons, List.map_nil, List.append_toArray, List.cons_append, List.nil_append] at hy
    have HO := Lib.hid hO; clear hO
    have hJn : xs.length = xs.length := rfl
    have hlt : k + 1 ≤ xs.length := (List.getElem?_eq_some_iff.1 hx).1
    clear hseg hY hJ h0 hx
    simp only [if_true]
    refine callsIn_of_wp Tryd.func67 rfl trivial ?_ rfl
    simp only [Tryd.ntmps67, List.size_toArray, List.length_cons, List.length_nil, Nat.reduceAdd, Nat.reduceSub, Array.replicate_succ, Array.replicate_zero, List.push_toArray, List.append_toArray, List.nil_append, List.cons_append]
    gi_wp2
    refine wpIn_scope_calm (fun _ _ _ h => h.elim) ?_
    gi_wp2_with (refine ⟨trivial, rfl, ?_⟩; refine (callsIn_wide.2 hkeep).mono ?_; rintro e w' ⟨rfl, hk⟩; clear hkeep; replace t0 := kcell hk t0; replace t1 := kcell hk t1; replace t2 := kcell hk t2; replace t3 := kcell hk t3; replace t4 := kcell hk t4; replace p0 := kcell hk p0; replace p1 := kcell hk p1; replace p2 := kcell hk p2; replace p3 := kcell hk p3; replace p4 := kcell hk p4; replace y := kcell hk y; obtain ⟨fn, tmps, assign, body, hyy, hRR⟩ := hy _ hk; clear hy)
    refine ⟨rfl, hRR.mono ?_⟩
    rintro e W' ⟨T'', hE, hz, hT, (⟨rfl, hJ'⟩ | ⟨rfl, hJx'⟩)⟩
    · clear hRR
      gi_wp2
      go_ret
      exact ⟨T'', hE.less (bcell hk).2.2, hz, (kturns hk _).trans (Ext.refl _ _) (hT.mono fun _ _ h => .inl h), .inl ⟨rfl, hJ', (HO.out.turns (kturns hk (fun _ => False)) (fun h => h)).turns hT (fun h => by rcases hE.out _ h with h | h; exact g.offt h; have := g.zt; have := (bcell hk).2.2; omega)⟩⟩
    · clear hRR
      gi_wp2
      go_ret
      exact ⟨T'', hE.less (bcell hk).2.2, hz, (kturns hk _).trans (Ext.refl _ _) (hT.mono fun _ _ h => .inl h), .inr ⟨rfl, _, hlt, hJx'⟩⟩
end Go.Proofs.YtchgkfnodcbpiaaDoor
set_option linter.all false
namespace Go.Proofs.YtchgkfnodcbpiaaDoor
open Go.RowKit Go.Sort Go.Rg
set_option maxRecDepth 100000
attribute [local go_sem] Oper.semAt_some

theorem cell_set_ne {W : World} {b o o' : Nat} {v : Value} (h : o ≠ o') : (W.setCell ⟨b, o, none⟩ v).cell? ⟨b, o', none⟩ = W.cell? ⟨b, o', none⟩ := by
  simp only [World.cell?, World.setCell, Array.getElem?_modify, if_pos]
  cases hc : W.heap[b]? with
  | none => simp
  | some x =>
    cases x with
    | cells c e f => simp [Array.getElem?_setIfInBounds_ne h]
    | _ => simp
theorem cell_set_eq {W : World} {b o : Nat} {v u : Value} (h : W.cell? ⟨b, o, none⟩ = some u) : (W.setCell ⟨b, o, none⟩ v).cell? ⟨b, o, none⟩ = some v := World.cell?_setCell_same' _ _ _ (by rw [h]; rfl)
theorem OwnT.set {s : Spot} {W : World} {pre : List Int} (h : OwnT s W pre) (hw : pre.length < 5) (v : Int) : OwnT s (W.setCell ⟨s.bt, 5 + pre.length, none⟩ (.int .i64 v)) (pre ++ [v]) := by
  obtain ⟨u, hu⟩ := h.num _ hw
  refine ⟨(cell_set_ne (by omega)).trans h.t0, (cell_set_ne (by omega)).trans h.t1, (cell_set_ne (by omega)).trans h.t2, (cell_set_ne (by omega)).trans h.t3, (cell_set_ne (by omega)).trans h.t4, fun i hi => ?_, fun i x hx => ?_, fun i => ?_⟩
  · by_cases e : i = pre.length
    · subst e; exact ⟨v, cell_set_eq hu⟩
    · obtain ⟨x, hx⟩ := h.num i hi
      exact ⟨x, (cell_set_ne (by omega)).trans hx⟩
  · by_cases e : i = pre.length
    · subst e
      have : x = v := by simpa using hx.symm
      subst this
      exact cell_set_eq hu
    · have hl : i < (pre ++ [v]).length := (List.getElem?_eq_some_iff.1 hx).1
      have hi : i < pre.length := by simp at hl; omega
      rw [List.getElem?_append_left hi] at hx
      exact (cell_set_ne (by omega)).trans (h.pre i x hx)
  · rw [World.frozen?_setCell]; exact h.free i

theorem seg_at {α : Type} {xs rest : List α} {k m : Nat} {segL : List (List α)} (h : xs.drop k = segL.flatten ++ rest) (hm : m < segL.length) :
    (∃ r, xs.drop (k + (segL.take m).flatten.length) = segL[m] ++ r) ∧ (segL.take (m + 1)).flatten.length = (segL.take m).flatten.length + segL[m].length := by
  have e : segL = segL.take m ++ segL[m] :: segL.drop (m + 1) := by rw [List.getElem_cons_drop, List.take_append_drop]
  constructor
  · refine ⟨(segL.drop (m + 1)).flatten ++ rest, ?_⟩
    rw [← List.drop_drop, h]
    conv => lhs; rw [e]
    simp only [List.flatten_append, List.flatten_cons, List.append_assoc]
    rw [List.drop_left' (by simp [List.take_append, List.take_take])]
  · rw [List.take_succ_eq_append_getElem hm, List.flatten_append, List.length_append, List.flatten_singleton]

set_option maxHeartbeats 4000000 in
theorem choose_step (s : Spot) (Fx : World → Prop) (ok : s.Ok Fx) (xs : List (List Int)) (pre : List Int) (cnt : Nat) (V A : World) (k : Nat) (J Jx : Nat → (Nat → Prop) → World → Prop) (T T' : Nat → Prop)
   (hw : pre.length < 5) (q : Option Addr) (capt : Nat) (lt : List Trial) (hk2 : s.k2 = .slice q lt.length capt) (hlt : lt.length ≤ 6)
   (hFT : ∀ W, Fx W → lt = [] ∨ ∃ bT oT, q = some ⟨bT, oT, none⟩ ∧ TrialsAt W bT oT lt)
   (hc : s.hi pre.length - s.lo pre.length + 1 = cnt) (hc4 : cnt ≤ 4) (hlo : 0 ≤ s.lo pre.length ∧ s.lo pre.length ≤ 100)
   (segf : Int → List (List Int)) (fbB : Int → Bool)
   (hfb : ∀ v n0 n4 : Int, (pre.length = 0 → n0 = v) → (pre.length = 4 → n4 = v) → (lt.any fun t => forbidsB s.boy n0 n4 t.boy t.week t.note t.sang pre.length) = fbB v)
   (hsf : ∀ v, fbB v = true → segf v = [])
   (IH : ∀ v k T' A, s.lo pre.length ≤ v → v ≤ s.hi pre.length → fbB v = false → OwnR s Fx A → OwnT s A (pre ++ [v]) → Good s V T T' A → J k T' A → (∃ rest, xs.drop k = segf v ++ rest) →
      CallsIn Fence.wide 0 Tryd.prog 67 #[.int .i64 ((pre.length : Int) + 1), .pointer (some ⟨s.bt, 0, none⟩), .pointer (some ⟨s.byy, 0, none⟩), .pointer (some ⟨s.bs, 0, none⟩), .pointer (some ⟨s.bc, 0, none⟩), .pointer (some ⟨s.bh, 0, none⟩)] A (ChooseP s Fx (pre ++ [v]) (segf v).length k xs.length J Jx T' A))
   (segL : List (List (List Int))) (hsegL : segL = (List.range cnt).map fun m : Nat => segf (s.lo pre.length + (m : Int)))
   (hR : OwnR s Fx A) (hO : OwnT s A pre) (g : Good s V T T' A)
   (hseg : ∃ rest, xs.drop k = segL.flatten ++ rest)
   (hJ : ∀ k T' A B, J k T' A → Quiet V.heap.size T' A B → J k T' B)
   (h0 : J k T' A) :
   CallsIn Fence.wide 0 Tryd.prog 67 #[.int .i64 (pre.length : Int), .pointer (some ⟨s.bt, 0, none⟩), .pointer (some ⟨s.byy, 0, none⟩), .pointer (some ⟨s.bs, 0, none⟩), .pointer (some ⟨s.bc, 0, none⟩), .pointer (some ⟨s.bh, 0, none⟩)] A (ChooseP s Fx pre segL.flatten.length k xs.length J Jx T' A) := by
  have H0 := Lib.hid h0; clear h0
  have HJ := Lib.hid hJ; clear hJ
  have HIH := Lib.hid IH; clear IH
  have HFB := Lib.hid hfb; clear hfb
  have HSF := Lib.hid hsf; clear hsf
  have HSL := Lib.hid hsegL; clear hsegL
  have HSEG := Lib.hid hseg; clear hseg
  have HFT := Lib.hid hFT; clear hFT
  have HO := Lib.hid hO; clear hO
  have HR := Lib.hid hR; clear hR
  have HG := Lib.hid g; clear g
  have HP : Hid (pre.length = pre.length) := Lib.hid rfl
  generalize hwe : pre.length = which at *
  have hne : decide ((which : Int) = 5) = false := by simp; omega
  have hne2 : ¬ ((which : Int) = 5) := by omega
  have hne3 : ((which : Int) == 5) = false := by simpa using hne2
  obtain ⟨s1, s2⟩ := HR.out.sp which hw
  generalize hrr : ChooseP s Fx pre segL.flatten.length k xs.length J Jx T' A = RR
  refine callsIn_of_wp Tryd.func67 rfl trivial ?_ rfl
  simp only [Tryd.ntmps67, List.size_toArray, List.length_cons, List.length_nil, Nat.reduceAdd, Nat.reduceSub, Array.replicate_succ, Array.replicate_zero, List.push_toArray, List.append_toArray, List.nil_append, List.cons_append]
  gi_wp2
  refine wpIn_scope_calm (fun _ _ _ h => h.elim) ?_
  gi_wp2_with fail
  refine wpIn_label ?_
  have b0 : (A.alloc (Obj.cells #[Value.int IntKind.i64 (s.lo which), Value.int IntKind.i64 (s.hi which)] 38)).cell? ⟨A.heap.size, 0, none⟩ = some (.int .i64 (s.lo which)) := by go_simp
  have b1 : (A.alloc (Obj.cells #[Value.int IntKind.i64 (s.lo which), Value.int IntKind.i64 (s.hi which)] 38)).cell? ⟨A.heap.size, 1, none⟩ = some (.int .i64 (s.hi which)) := by go_simp
  have hkA : Kept A (A.alloc (Obj.cells #[Value.int IntKind.i64 (s.lo which), Value.int IntKind.i64 (s.hi which)] 38)) := kept_alloc (kept_refl _) _
  have hzA : A.heap.size < (A.alloc (Obj.cells #[Value.int IntKind.i64 (s.lo which), Value.int IntKind.i64 (s.hi which)] 38)).heap.size := by simp
  generalize A.alloc (Obj.cells #[Value.int IntKind.i64 (s.lo which), Value.int IntKind.i64 (s.hi which)] 38) = W0 at *
  gi_wp2_with fail
  gi_loopw [31] (fun i W => ∃ (m : Nat) (T1 : Nat → Prop), m ≤ cnt ∧ i = .int .i64 m ∧ Ext (A.heap.size + 1) T' T1 ∧ (∀ b, T1 b → b < W.heap.size) ∧ Turns (fun b => T1 b ∨ b = s.bt) A W ∧ J (k + (segL.take m).flatten.length) T1 W ∧ OwnT s W pre ∧
      W.cell? ⟨A.heap.size, 0, none⟩ = some (.int .i64 (s.lo which)) ∧ W.cell? ⟨A.heap.size, 1, none⟩ = some (.int .i64 (s.hi which)) ∧ A.heap.size < W.heap.size) (fun i W => cnt - (intOf i).toNat)
  case atStart =>
    refine ⟨0, T', by omega, rfl, Ext.refl _ _, fun b hb => Nat.lt_of_lt_of_le (HG.out.small b hb) (bcell hkA).2.2, kturns hkA _, ?_, HO.out.turns (kturns hkA (fun _ => False)) (fun h => h), b0, b1, hzA⟩
    exact HJ.out _ _ _ _ H0.out (HG.out.quiet (kturns hkA _))
  case round =>
    obtain ⟨m, T1, hm, rfl, hE1, hz1, hT1, hJ1, hO1, d0, d1, hzw⟩ := hrel
    obtain ⟨Wo, hWo⟩ : ∃ W, W = wr := ⟨_, rfl⟩
    subst hWo
    have HG1 := Lib.hid (HG.out.step (hE1.less (by omega)) hz1 hT1)
    clear b0 b1
    have HJ1 := Lib.hid hJ1; clear hJ1
    have HO1 := Lib.hid hO1; clear hO1
    have HT1 := Lib.hid hT1; clear hT1
    by_cases hlt2 : m < cnt
    · have hml : m < segL.length := by rw [HSL.out]; simpa using hlt2
      have hsm : (∃ r, xs.drop (k + (segL.take m).flatten.length) = segf (s.lo which + m) ++ r) ∧ (segL.take (m + 1)).flatten.length = (segL.take m).flatten.length + (segf (s.lo which + m)).length := by
        obtain ⟨rest, hr⟩ := HSEG.out
        have := seg_at hr hml
        have e : segL[m] = segf (s.lo which + m) := by simp [HSL.out]
        rwa [e] at this
      have HSM := Lib.hid hsm; clear hsm
      have HIDEND : Hid (∀ (B : World) , Turns (fun b => b = s.bt) Wo B → fbB (s.lo which + m) = true → OwnT s B pre → B.cell? ⟨A.heap.size, 0, none⟩ = some (.int .i64 (s.lo which)) → B.cell? ⟨A.heap.size, 1, none⟩ = some (.int .i64 (s.hi which)) →
          ∃ (m' : Nat) (T1 : Nat → Prop), m' ≤ cnt ∧ Value.int .i64 ((m : Int) + 1) = .int .i64 m' ∧ Ext (A.heap.size + 1) T' T1 ∧ (∀ b, T1 b → b < B.heap.size) ∧ Turns (fun b => T1 b ∨ b = s.bt) A B ∧ J (k + (segL.take m').flatten.length) T1 B ∧ OwnT s B pre ∧
                B.cell? ⟨A.heap.size, 0, none⟩ = some (.int .i64 (s.lo which)) ∧ B.cell? ⟨A.heap.size, 1, none⟩ = some (.int .i64 (s.hi which)) ∧ A.heap.size < B.heap.size) := Lib.hid (by
        intro B hB hf ho h0 h1
        refine ⟨m + 1, T1, by omega, by simp, hE1, fun b hb => Nat.lt_of_lt_of_le (hz1 b hb) hB.size, HT1.out.trans (Ext.refl _ _) (hB.mono fun _ _ h => .inr h), ?_, ho, h0, h1, by have := hB.size; omega⟩
        have := HJ.out _ _ _ _ HJ1.out (HG1.out.quiet hB)
        rw [HSM.out.2, HSF.out _ hf]
        simpa using this)
      have hltI : (m : Int) < cnt := by omega
      obtain ⟨vo, hvo⟩ := HO1.out.num which hw
      have hfr := HO1.out.free (5 + which)
      have hcb : s.bc ≠ s.bt := fun h => ok.t1 (h ▸ ok.c1)
      have hgS : ∀ b, s.S b → ¬ (T1 b ∨ b = s.bt) := fun b hb h => by
        rcases h with h | rfl
        · rcases hE1.out b h with h | h
          · exact HG.out.offS b hb h
          · have := HG.out.zs b hb; omega
        · exact ok.t1 hb
      have HRw := Lib.hid (HR.out.turns ok HT1.out hgS)
      have c2r : Wo.cell? ⟨s.bc, 2, none⟩ = some (.slice q lt.length capt) := hk2 ▸ HRw.out.c2
      have ht12 : Turns (fun b => b = s.bt) Wo (Wo.setCell ⟨s.bt, 5 + which, none⟩ (.int .i64 (s.lo which + m))) := Turns.setCell (T := fun b => b = s.bt) (Turns.refl _ _) rfl _ _
      have HT12 := Lib.hid ht12; clear ht12
      have HO2 : Hid (OwnT s (Wo.setCell ⟨s.bt, 5 + which, none⟩ (.int .i64 (s.lo which + m))) (pre ++ [s.lo which + m])) := Lib.hid (by rw [← hwe]; exact HO1.out.set (by omega) _)
      gi_wp2_with fail
      generalize Wo.setCell ⟨s.bt, 5 + which, none⟩ (.int .i64 (s.lo which + m)) = W1 at *
      have HR2 := Lib.hid (HRw.out.turns ok HT12.out (fun b hb h => ok.t1 (h ▸ hb)))
      have e0 := tcell HT12.out (fun h => by have := HG.out.zt; omega) d0
      have e1 := tcell HT12.out (fun h => by have := HG.out.zt; omega) d1
      obtain ⟨n0, q0⟩ := HO2.out.num 0 (by omega)
      obtain ⟨n1, q1⟩ := HO2.out.num 1 (by omega)
      obtain ⟨n2, q2⟩ := HO2.out.num 2 (by omega)
      obtain ⟨n3, q3⟩ := HO2.out.num 3 (by omega)
      obtain ⟨n4, q4⟩ := HO2.out.num 4 (by omega)
      have HQ : Hid ((lt.any fun t => forbidsB s.boy n0 n4 t.boy t.week t.note t.sang which) = fbB (s.lo which + m)) := Lib.hid (HFB.out _ _ _ (fun h => by
        have := HO2.out.pre 0 (s.lo which + m) (by rw [h] at hwe; simp [List.eq_nil_of_length_eq_zero hwe])
        rw [q0] at this; cases this; rfl) (fun h => by
        have := HO2.out.pre 4 (s.lo which + m) (by rw [List.getElem?_append_right (by omega)]; simp [hwe, h])
        rw [q4] at this; cases this; rfl))
      simp only [Nat.add_zero, Nat.reduceAdd] at q0 q1 q2 q3 q4
      clear d0 d1 hvo hfr c2r vo
      gi_loopw [45] (fun i W => ∃ j : Nat, j ≤ lt.length ∧ i = .int .i64 j ∧ (∀ j' t, j' < j → lt[j']? = some t → forbidsB s.boy n0 n4 t.boy t.week t.note t.sang which = false) ∧ Kept W1 W) (fun i W => lt.length - (intOf i).toNat)
      case atStart => exact ⟨0, by omega, rfl, fun j' t h => by omega, kept_refl _⟩
      case round =>
        obtain ⟨j, hj, rfl, hno, hk3⟩ := hrel
        rename_i wq
        have HNO := Lib.hid hno; clear hno
        by_cases hlt3 : j < lt.length
        · have hltI3 : (j : Int) < lt.length := by omega
          have hget : lt[j]? = some lt[j] := List.getElem?_eq_getElem hlt3
          have hmem : lt[j] ∈ lt := List.getElem_mem hlt3
          generalize lt[j] = t at *
          have HR3 := Lib.hid (HR2.out.turns ok (kturns hk3 (fun _ => False)) (fun _ _ h => h))
          have HO3 := Lib.hid (HO2.out.turns (kturns hk3 (fun _ => False)) (fun h => h))
          rcases HFT.out _ HR3.out.fx with h00 | ⟨bT, oT, rfl, hTT⟩
          · rw [h00] at hmem; cases hmem
          obtain ⟨c0, c1, c2, c3⟩ := hTT.2 j t hget
          have HG3 := Lib.hid hget; clear hget hTT
          have f0 := kcell hk3 q0
          have f1 := kcell hk3 q1
          have f2 := kcell hk3 q2
          have f3 := kcell hk3 q3
          have f4 := kcell hk3 q4
          obtain ⟨g0, g1, g2, g3, g4, _, _, _⟩ := HO3.out
          have hbtz := Go.Ai.lt_of_cell g0
          gi_wp2_with fail
          refine ⟨trivial, rfl, (callsIn_wide.2 (forbids_any _ _ _ _ _ _ _ _ _ _ _ _ _ _ _ _)).mono ?_⟩
          rintro e w' ⟨rfl, hk4⟩
          have hk5 := kept_trans hk3 (kept_trans (kept_alloc (kept_refl _) _) hk4)
          clear f0 f1 f2 f3 f4 g0 g1 g2 g3 g4 c0 c1 c2 c3 hk4
          rcases hv : forbidsB s.boy n0 n4 t.boy t.week t.note t.sang which with _ | _
          · have HNEW : Hid (∀ j' t, j' < j + 1 → lt[j']? = some t → forbidsB s.boy n0 n4 t.boy t.week t.note t.sang which = false) := Lib.hid (by
              intro j' y hj hg
              by_cases e : j' = j
              · subst e; rw [HG3.out] at hg; cases hg; exact hv
              · exact HNO.out j' y (by omega) hg)
            clear hv
            gi_wp2_with fail
            go_roundw
            case rel => exact ⟨j + 1, by omega, by go_num, HNEW.out, hk5⟩
            case measure => simp [intOf]; omega
          · have HF : Hid (fbB (s.lo which + m) = true) := Lib.hid (by
              rw [← HQ.out, List.any_eq_true]
              exact ⟨t, hmem, hv⟩)
            clear hv
            have HEND := Lib.hid (HIDEND.out w' (HT12.out.trans (Ext.refl _ _) (kturns hk5 _)) HF.out (HO2.out.less.turns (kturns hk5 (fun _ => False)) (fun h => h)) (kcell hk5 e0) (kcell hk5 e1))
            gi_wp2_with fail
            go_roundw
            case rel => exact HEND.out
            case measure => simp [intOf]; omega
        · have hltI3 : ¬ (j : Int) < lt.length := by omega
          have HF : Hid (fbB (s.lo which + m) = false) := Lib.hid (by
              rw [← HQ.out, List.any_eq_false]
              intro t ht
              obtain ⟨j', hj', rfl⟩ := List.getElem_of_mem ht
              simp [HNO.out j' _ (by omega) (List.getElem?_eq_getElem hj')])
          have HR3 := Lib.hid (HR2.out.turns ok (kturns hk3 (fun _ => False)) (fun _ _ h => h))
          have HO3 := Lib.hid (HO2.out.turns (kturns hk3 (fun _ => False)) (fun h => h))
          have hh := HR3.out.h
          have HTo : Hid (Turns (fun b => b = s.bt) Wo wr) := Lib.hid (HT12.out.trans (Ext.refl _ _) (kturns hk3 _))
          have HJ3 := Lib.hid (HJ.out _ _ _ _ HJ1.out (HG1.out.quiet HTo.out))
          have HG3 := Lib.hid (HG1.out.step (Ext.refl _ _) (fun b hb => Nat.lt_of_lt_of_le (hz1 b hb) HTo.out.size) (HTo.out.mono fun _ _ h => .inr h))
          have HTUP : Hid (∀ (T2 : Nat → Prop) (B : World), (∀ b, T1 b → T2 b) → Turns (fun b => T2 b ∨ b = s.bt) wr B → Turns (fun b => T2 b ∨ b = s.bt) A B) := Lib.hid (fun T2 B hu hB =>
            ((HT1.out.mono (T' := fun b => T2 b ∨ b = s.bt) fun b _ h => h.imp (hu b) id).trans (Ext.refl _ _) (HTo.out.mono fun _ _ h => .inr h)).trans (Ext.refl _ _) hB)
          have k0 := kcell hk3 e0
          have k1 := kcell hk3 e1
          gi_wp2_with fail
          refine ⟨trivial, rfl, (HIH.out (s.lo which + m) _ _ _ (by omega) (by omega) HF.out HR3.out HO3.out HG3.out HJ3.out HSM.out.1).mono ?_⟩
          rintro e w' ⟨T2, hE2, hz2, hT2, (⟨rfl, hJ2, hO4⟩ | ⟨rfl, j2, hj2, hJx⟩)⟩
          · have HEND : Hid (∃ (m' : Nat) (T1 : Nat → Prop), m' ≤ cnt ∧ Value.int .i64 ((m : Int) + 1) = .int .i64 m' ∧ Ext (A.heap.size + 1) T' T1 ∧ (∀ b, T1 b → b < w'.heap.size) ∧ Turns (fun b => T1 b ∨ b = s.bt) A w' ∧ J (k + (segL.take m').flatten.length) T1 w' ∧ OwnT s w' pre ∧
                w'.cell? ⟨A.heap.size, 0, none⟩ = some (.int .i64 (s.lo which)) ∧ w'.cell? ⟨A.heap.size, 1, none⟩ = some (.int .i64 (s.hi which)) ∧ A.heap.size < w'.heap.size) := Lib.hid (by
              have hno : ¬ (T2 A.heap.size ∨ A.heap.size = s.bt) := by
                have := HG.out.zt
                have := HTo.out.size
                rintro (h | h)
                · rcases hE2.out _ h with h | h
                  · rcases hE1.out _ h with h | h
                    · have := HG.out.small _ h; omega
                    · omega
                  · omega
                · omega
              have hzz := HTo.out.size
              refine ⟨m + 1, T2, by omega, by simp, hE1.trans hE2 (by omega), hz2, ?_, ?_, hO4.less, tcell hT2 hno k0, tcell hT2 hno k1, by have := hT2.size; omega⟩
              · exact HTUP.out T2 _ hE2.up hT2
              · rw [HSM.out.2]; rw [Nat.add_assoc] at hJ2; exact hJ2)
            gi_wp2_with fail
            go_roundw
            case rel => exact HEND.out
            case measure => simp [intOf]; omega
          · clear k0 k1
            gi_wp2_with fail
            subst hrr
            exact ⟨T2, (hE1.less (by omega)).trans hE2 (by have := HTo.out.size; omega), hz2, HTUP.out T2 _ hE2.up hT2, .inr ⟨by first | rfl | simp, j2, hj2, hJx⟩⟩
    · have hltI : ¬ (m : Int) < cnt := by omega
      gi_wp2_with fail
      subst hrr
      have hme : m = cnt := by omega
      refine ⟨T1, hE1.less (by omega), hz1, HT1.out, .inl ⟨rfl, ?_, HO1.out⟩⟩
      have := HJ1.out
      rw [List.take_of_length_le (by rw [HSL.out]; simp [hme])] at this
      exact this
end Go.Proofs.YtchgkfnodcbpiaaDoor
set_option linter.all false
namespace Go.Proofs.YtchgkfnodcbpiaaDoor
open Go.RowKit Go.Sort Go.Rg
set_option maxRecDepth 100000

/-- is a number of this kind forbidden by some trial? -/
def fbAt (boy : Int) (lt : List Trial) (which : Nat) (v : Int) : Bool := lt.any fun t => forbidsB boy v v t.boy t.week t.note t.sang which
theorem fbAt_eq (boy : Int) (lt : List Trial) (which : Nat) (v n0 n4 : Int) (h0 : which = 0 → n0 = v) (h4 : which = 4 → n4 = v) : (lt.any fun t => forbidsB boy n0 n4 t.boy t.week t.note t.sang which) = fbAt boy lt which v := by
  unfold fbAt
  congr 1
  funext t
  unfold forbidsB
  by_cases e0 : which = 0
  · subst e0; rw [h0 rfl]; simp
  · by_cases e4 : which = 4
    · subst e4; rw [h4 rfl]; simp
    · have a : ¬ (which : Int) = 0 := by omega
      have b : ¬ (which : Int) = 4 := by omega
      simp [a, b, e0, e4]
/-- all numbers behind these that no trial forbids and that keep all trials -/
def gen (lo hi : Nat → Int) (boy : Int) (lt : List Trial) (kp : List Int → Bool) : Nat → List Int → List (List Int)
  | 0, pre => if kp pre then [pre] else []
  | d + 1, pre => (((List.range (hi pre.length - lo pre.length + 1).toNat).map fun m : Nat => if fbAt boy lt pre.length (lo pre.length + (m : Int)) then [] else gen lo hi boy lt kp d (pre ++ [lo pre.length + (m : Int)]))).flatten

def Rng (lo hi : Nat → Int) (pre : List Int) : Prop := ∀ i v, pre[i]? = some v → lo i ≤ v ∧ v ≤ hi i
theorem Rng.snoc {lo hi : Nat → Int} {pre : List Int} {v : Int} (h : Rng lo hi pre) (h1 : lo pre.length ≤ v) (h2 : v ≤ hi pre.length) : Rng lo hi (pre ++ [v]) := fun i x hx => by
  by_cases e : i = pre.length
  · subst e
    have : x = v := by simpa using hx.symm
    subst this
    exact ⟨h1, h2⟩
  · have hl : i < (pre ++ [v]).length := (List.getElem?_eq_some_iff.1 hx).1
    have hi : i < pre.length := by simp at hl; omega
    rw [List.getElem?_append_left hi] at hx
    exact h i x hx

theorem choose_any (s : Spot) (Fx : World → Prop) (ok : s.Ok Fx) (xs : List (List Int)) (V : World) (J Jx : Nat → (Nat → Prop) → World → Prop) (T : Nat → Prop)
   (q : Option Addr) (capt : Nat) (lt : List Trial) (hk2 : s.k2 = .slice q lt.length capt) (hlt : lt.length ≤ 6)
   (hFT : ∀ W, Fx W → lt = [] ∨ ∃ bT oT, q = some ⟨bT, oT, none⟩ ∧ TrialsAt W bT oT lt)
   (hsp : ∀ i, i < 5 → 0 ≤ s.lo i ∧ s.lo i ≤ 100 ∧ s.lo i ≤ s.hi i ∧ s.hi i ≤ s.lo i + 3) (kp : List Int → Bool)
   (hkeep : ∀ x A, x.length = 5 → Rng s.lo s.hi x → Fx A → Calls Tryd.prog 68 #[s.enc x] A fun e B => e = .returned (.bool (kp x)) ∧ Kept A B)
   (hJ : ∀ k T' A B, J k T' A → Quiet V.heap.size T' A B → J k T' B)
   (hY : ∀ k x T' A, xs[k]? = some x → Good s V T T' A → J k T' A → RoundTold Tryd.prog s.l (s.enc x) k J Jx T' A) :
   ∀ (d : Nat) (pre : List Int) (k : Nat) (T' : Nat → Prop) (A : World), pre.length + d = 5 → Rng s.lo s.hi pre → OwnR s Fx A → OwnT s A pre → Good s V T T' A → J k T' A → (∃ rest, xs.drop k = gen s.lo s.hi s.boy lt kp d pre ++ rest) →
   CallsIn Fence.wide 0 Tryd.prog 67 #[.int .i64 (pre.length : Int), .pointer (some ⟨s.bt, 0, none⟩), .pointer (some ⟨s.byy, 0, none⟩), .pointer (some ⟨s.bs, 0, none⟩), .pointer (some ⟨s.bc, 0, none⟩), .pointer (some ⟨s.bh, 0, none⟩)] A
     (ChooseP s Fx pre (gen s.lo s.hi s.boy lt kp d pre).length k xs.length J Jx T' A)
  | 0, pre, k, T', A, hl, hr, hR, hO, g, h0, hs => by
    match pre, hl with
    | [n0, n1, n2, n3, n4], _ =>
      have := choose_end s Fx ok xs n0 n1 n2 n3 n4 (kp [n0, n1, n2, n3, n4]) V A k J Jx T T' hR hO g (hkeep _ _ rfl hr hR.fx) (by simpa [gen] using hs) hJ hY h0
      have e : (gen s.lo s.hi s.boy lt kp 0 [n0, n1, n2, n3, n4]).length = if kp [n0, n1, n2, n3, n4] then 1 else 0 := by
        unfold gen; split <;> rfl
      rw [e]
      exact this
  | d + 1, pre, k, T', A, hl, hr, hR, hO, g, h0, hs => by
    have hb := hsp pre.length (by omega)
    refine choose_step s Fx ok xs pre (s.hi pre.length - s.lo pre.length + 1).toNat V A k J Jx T T' (by omega) q capt lt hk2 hlt hFT (by omega) (by omega) ⟨hb.1, hb.2.1⟩
      (fun v => if fbAt s.boy lt pre.length v then [] else gen s.lo s.hi s.boy lt kp d (pre ++ [v])) (fbAt s.boy lt pre.length) (fun v n0 n4 h0 h4 => fbAt_eq _ _ _ _ _ _ h0 h4) (fun v hv => by simp [hv])
      (fun v k T' A h1 h2 hf hR hO g h0 hs => ?_) _ rfl hR hO g hs hJ h0
    have := choose_any s Fx ok xs V J Jx T q capt lt hk2 hlt hFT hsp kp hkeep hJ hY d (pre ++ [v]) k T' A (by simp; omega) (hr.snoc h1 h2) hR hO g h0 (by simpa [hf] using hs)
    simp only [hf, Bool.false_eq_true, if_false]
    have e : ((pre ++ [v]).length : Int) = (pre.length : Int) + 1 := by simp
    rw [e] at this
    exact this
end Go.Proofs.YtchgkfnodcbpiaaDoor
