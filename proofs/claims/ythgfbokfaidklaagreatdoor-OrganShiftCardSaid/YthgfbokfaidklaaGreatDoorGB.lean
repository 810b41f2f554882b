/- Ranges over a function: an iterator's contract by turned blocks, and the law for its caller. No conditions. -/
import Derived.Test.YthgfbokfaidklaaGreatDoorGA
import Derived.RangeFuncNested
import Derived.RangeFuncCalls
import Derived.RangeFuncLeaves
import Derived.WalkKit
import Derived.Test.YthgfbokfaidklaaGreatDoorAiL
import Derived.RangeFuncBound
import Derived.Shelf.Abstract
import Derived.Shelf.RegionOpen
import Derived.OwnWalkIn
import Derived.TacticsInMore
import Derived.LoopNIn
import Derived.LoopIn
import Derived.Laws.EntriesVeiled
import Derived.DeepKeys4
import Derived.WideKeyMaps2
import Derived.WideKeyElems
import Derived.WideKeyEntry
import Derived.Deep.AppendLies
set_option linter.all false
set_option linter.all false
namespace Go.Proofs.YthgfbokfaidklaaGreatDoor
open Go.RowKit Go.Sort
set_option maxRecDepth 100000

def ValidAll (lb : List Boy) (lt : List Trial) (wks : Nat) (r : Bool) : Prop := r = true ↔ lb.all Boy.okB = true ∧ lt.all (validTrialB lb.length wks) = true

set_option maxHeartbeats 2000000 in
theorem valid_loop (b o capb capt : Nat) (q : Option Addr) (lb : List Boy) (lt : List Trial) (wks : Nat) (w : World) (hL : Laid w) (hB : BoysAt w b o lb) (hb1 : 1 ≤ lb.length) (hb4 : lb.length ≤ 4) (hw1 : 1 ≤ wks) (hw6 : wks ≤ 6) (ht : lt.length ≤ 6)
   (hT : lt = [] ∨ ∃ bT oT, q = some ⟨bT, oT, none⟩ ∧ TrialsAt w bT oT lt) (h : inB lb.length 1 4 = true) (h2 : inB wks 1 6 = true) :
   Calls Tryz.prog 50 #[.agg #[Value.slice (some ⟨b, o, none⟩) lb.length capb, Value.int IntKind.i64 ↑wks, Value.slice q lt.length capt]] w (ToldB (ValidAll lb lt wks) w) := by
  have H := Lib.hid h; clear h
  have H2 := Lib.hid h2; clear h2
  have HT := Lib.hid hT; clear hT
  have hd : decide (6 < lt.length) = false := by simp; omega
  have hdi : decide ((6 : Int) < lt.length) = false := by simp; omega
  have hk0 : Kept w (w.alloc (Obj.cells #[Value.slice (some ⟨b, o, none⟩) lb.length capb, Value.int IntKind.i64 ↑wks, Value.slice q lt.length capt] 27)) := kept_alloc (kept_refl _) _
  have hzW : w.heap.size < (w.alloc (Obj.cells #[Value.slice (some ⟨b, o, none⟩) lb.length capb, Value.int IntKind.i64 ↑wks, Value.slice q lt.length capt] 27)).heap.size := by simp
  have d0 : (w.alloc (Obj.cells #[Value.slice (some ⟨b, o, none⟩) lb.length capb, Value.int IntKind.i64 ↑wks, Value.slice q lt.length capt] 27)).cell? ⟨w.heap.size, 0, none⟩ = some (Value.slice (some ⟨b, o, none⟩) lb.length capb) := by go_simp
  have d1 : (w.alloc (Obj.cells #[Value.slice (some ⟨b, o, none⟩) lb.length capb, Value.int IntKind.i64 ↑wks, Value.slice q lt.length capt] 27)).cell? ⟨w.heap.size, 1, none⟩ = some (Value.int IntKind.i64 ↑wks) := by go_simp
  have d2 : (w.alloc (Obj.cells #[Value.slice (some ⟨b, o, none⟩) lb.length capb, Value.int IntKind.i64 ↑wks, Value.slice q lt.length capt] 27)).cell? ⟨w.heap.size, 2, none⟩ = some (Value.slice q lt.length capt) := by go_simp
  go_enter Tryz.func50, Tryz.ntmps50
  go_wp2_with fail
  refine (isIn_any _ _ _ _).mono ?_
  rintro e w' ⟨rfl, rfl⟩
  rw [H.out]
  go_wp2_with fail
  refine (isIn_any _ _ _ _).mono ?_
  rintro e w' ⟨rfl, rfl⟩
  rw [H2.out]
  go_wp2_with fail
  generalize w.alloc (Obj.cells #[Value.slice (some ⟨b, o, none⟩) lb.length capb, Value.int IntKind.i64 ↑wks, Value.slice q lt.length capt] 27) = W0 at *
  go_loopw [27] (fun i W => ∃ k : Nat, k ≤ lb.length ∧ i = .int .i64 k ∧ (∀ j x, j < k → lb[j]? = some x → x.okB = true) ∧ Kept W0 W) (fun i W => lb.length - (intOf i).toNat)
  case atStart => exact ⟨0, by omega, rfl, fun j x hj => by omega, kept_refl _⟩
  case round =>
    obtain ⟨k, hk, rfl, hno, hkW⟩ := hrel
    have HNO := Lib.hid hno; clear hno
    by_cases hlt : k < lb.length
    · have hltI : (k : Int) < lb.length := by omega
      have hget : lb[k]? = some lb[k] := List.getElem?_eq_getElem hlt
      have hmem : lb[k] ∈ lb := List.getElem_mem hlt
      generalize lb[k] = x at *
      obtain ⟨c0, c1, c2, c3, c4, c5, c6, c7, c8, c9, c10⟩ := ((hB.kept hk0).kept hkW).2 k x hget
      have HG := Lib.hid hget; clear hget
      have D := Lib.hid (And.intro d0 (And.intro d1 d2)); clear d0 d1 d2
      go_wp2_with fail
      refine (validBoy_eq x _ (((hL.kept hk0).kept hkW).kept (kept_alloc (kept_refl _) _))).mono ?_
      rintro e w' ⟨rfl, hk2⟩
      have hkW2 := kept_trans hkW (kept_trans (kept_alloc (kept_refl _) _) hk2)
      clear c0 c1 c2 c3 c4 c5 c6 c7 c8 c9 c10
      rcases hv : x.okB with _ | _
      · have HP : Hid (¬ (lb.all Boy.okB = true)) := Lib.hid (by
          intro hall
          have := List.all_eq_true.1 hall x hmem
          rw [hv] at this; cases this)
        clear hv
        go_wp2_with fail
        go_ret
        exact ⟨false, (show ValidAll _ _ _ _ from ⟨(fun h => by cases h), (fun h => absurd h.1 HP.out)⟩), rfl, kept_trans hk0 hkW2⟩
      · have HNEW : Hid (∀ j x, j < k + 1 → lb[j]? = some x → x.okB = true) := Lib.hid (by
          intro j y hj hg
          by_cases e : j = k
          · subst e; rw [HG.out] at hg; cases hg; exact hv
          · exact HNO.out j y (by omega) hg)
        clear hv
        go_wp2_with fail
        go_roundw
        case rel => exact ⟨k + 1, by omega, by go_num, HNEW.out, hkW2⟩
        case measure => simp [intOf]; omega
    · have HP : Hid (lb.all Boy.okB = true) := Lib.hid (by
        rw [List.all_eq_true]
        intro x hx
        obtain ⟨j, hj, rfl⟩ := List.getElem_of_mem hx
        exact HNO.out j _ (by omega) (List.getElem?_eq_getElem hj))
      have hltI : ¬ (k : Int) < lb.length := by omega
      have e0 := ((bcell hkW).1 w.heap.size 0 hzW).trans d0
      have e1 := ((bcell hkW).1 w.heap.size 1 hzW).trans d1
      have e2 := ((bcell hkW).1 w.heap.size 2 hzW).trans d2
      have hzr := Nat.lt_of_lt_of_le hzW (bcell hkW).2.2
      clear d0 d1 d2
      have hkk0 := kept_trans hk0 hkW
      have HB := Lib.hid hB; clear hB
      go_wp2_with fail
      go_loopw [38] (fun i W => ∃ k : Nat, k ≤ lt.length ∧ i = .int .i64 k ∧ (∀ j t, j < k → lt[j]? = some t → validTrialB lb.length wks t = true) ∧ Kept wr W) (fun i W => lt.length - (intOf i).toNat)
      case atStart => exact ⟨0, by omega, rfl, fun j x hj => by omega, kept_refl _⟩
      case round =>
        obtain ⟨k2, hk2, rfl, hno2, hkW2⟩ := hrel
        have HNO2 := Lib.hid hno2; clear hno2
        rename_i wq
        have hkk2 := kept_trans hkk0 hkW2
        by_cases hlt2 : k2 < lt.length
        · have hltI2 : (k2 : Int) < lt.length := by omega
          have hget : lt[k2]? = some lt[k2] := List.getElem?_eq_getElem hlt2
          have hmem : lt[k2] ∈ lt := List.getElem_mem hlt2
          generalize lt[k2] = t at *
          rcases HT.out with h0 | ⟨bT, oT, rfl, hTT⟩
          · rw [h0] at hmem; cases hmem
          obtain ⟨c0, c1, c2, c3⟩ := (hTT.kept hkk2).2 k2 t hget
          have f0 := ((bcell hkW2).1 w.heap.size 0 hzr).trans e0
          have f1 := ((bcell hkW2).1 w.heap.size 1 hzr).trans e1
          have f2 := ((bcell hkW2).1 w.heap.size 2 hzr).trans e2
          have hzr2 := Nat.lt_of_lt_of_le hzr (bcell hkW2).2.2
          have HG := Lib.hid hget; clear hget
          have D := Lib.hid (And.intro e0 (And.intro e1 e2)); clear e0 e1 e2
          go_wp2_with fail
          refine (validTrial_any (some ⟨b, o, none⟩) lb.length capb wks (.slice (some ⟨bT, oT, none⟩) lt.length capt) t _ (by omega) (by omega)).mono ?_
          rintro e w' ⟨rfl, hk3⟩
          have hkW3 := kept_trans hkW2 (kept_trans (kept_alloc (kept_refl _) _) hk3)
          clear c0 c1 c2 c3 f0 f1 f2
          rcases hv : validTrialB lb.length wks t with _ | _
          · have HP2 : Hid (¬ (lt.all (validTrialB lb.length wks) = true)) := Lib.hid (by
              intro hall
              have := List.all_eq_true.1 hall t hmem
              rw [hv] at this; cases this)
            clear hv
            go_wp2_with fail
            go_ret
            exact ⟨false, (show ValidAll _ _ _ _ from ⟨(fun h => by cases h), (fun h => absurd h.2 HP2.out)⟩), rfl, kept_trans hkk0 hkW3⟩
          · have HNEW : Hid (∀ j t, j < k2 + 1 → lt[j]? = some t → validTrialB lb.length wks t = true) := Lib.hid (by
              intro j y hj hg
              by_cases e : j = k2
              · subst e; rw [HG.out] at hg; cases hg; exact hv
              · exact HNO2.out j y (by omega) hg)
            clear hv
            go_wp2_with fail
            go_roundw
            case rel => exact ⟨k2 + 1, by omega, by go_num, HNEW.out, hkW3⟩
            case measure => simp [intOf]; omega
        · have HP2 : Hid (lt.all (validTrialB lb.length wks) = true) := Lib.hid (by
            rw [List.all_eq_true]
            intro x hx
            obtain ⟨j, hj, rfl⟩ := List.getElem_of_mem hx
            exact HNO2.out j _ (by omega) (List.getElem?_eq_getElem hj))
          have hltI2 : ¬ (k2 : Int) < lt.length := by omega
          clear e0 e1 e2
          go_wp2_with fail
          go_ret
          exact ⟨true, (show ValidAll _ _ _ _ from ⟨(fun _ => ⟨HP.out, HP2.out⟩), (fun _ => rfl)⟩), rfl, hkk2⟩
end Go.Proofs.YthgfbokfaidklaaGreatDoor
set_option linter.all false
namespace Go.Proofs.YthgfbokfaidklaaGreatDoor
open Go.RowKit Go.Sort
set_option maxRecDepth 100000

structure Book where
  boys : List Boy
  weeks : Int
  trials : List Trial
  deriving Inhabited

/-- a value that reads as this book -/
structure BookAt (w : World) (p q : Option Addr) (cap capt : Nat) (B : Book) : Prop where
  laid : Laid w
  nb : B.boys.length ≤ 140737488355328
  nt : B.trials.length ≤ 140737488355328 ∧ B.trials.length ≤ capt
  boys : B.boys = [] ∨ ∃ b o, p = some ⟨b, o, none⟩ ∧ BoysAt w b o B.boys
  trials : B.trials = [] ∨ ∃ b o, q = some ⟨b, o, none⟩ ∧ TrialsAt w b o B.trials
theorem BookAt.kept {w W : World} {p q : Option Addr} {cap capt : Nat} {B : Book} (h : BookAt w p q cap capt B) (k : Kept w W) : BookAt W p q cap capt B where
  laid := h.laid.kept k
  nb := h.nb
  nt := h.nt
  boys := h.boys.imp id fun ⟨b, o, e, hb⟩ => ⟨b, o, e, hb.kept k⟩
  trials := h.trials.imp id fun ⟨b, o, e, hb⟩ => ⟨b, o, e, hb.kept k⟩

def Book.okB (B : Book) : Bool := inB B.boys.length 1 4 && inB B.weeks 1 6 && decide (B.trials.length ≤ 6) && B.boys.all Boy.okB && B.trials.all (validTrialB B.boys.length B.weeks.toNat)

theorem valid_any (p q : Option Addr) (cap capt : Nat) (B : Book) (w : World) (h : BookAt w p q cap capt B) :
   Calls Tryz.prog 50 #[.agg #[.slice p B.boys.length cap, .int .i64 B.weeks, .slice q B.trials.length capt]] w fun e w' => e = .returned (.bool B.okB) ∧ Kept w w' := by
  obtain ⟨boys, weeks, trials⟩ := B
  obtain ⟨hL, hnb, hnt, hB, hT⟩ := h
  simp only at hL hnb hnt hB hT ⊢
  rcases h1 : inB boys.length 1 4 with _ | _
  · simpa [Book.okB, h1] using valid_few p boys.length cap weeks (.slice q trials.length capt) w hnb h1
  rcases h2 : inB weeks 1 6 with _ | _
  · simpa [Book.okB, h1, h2] using valid_weeks p boys.length cap weeks (.slice q trials.length capt) w hnb h1 h2
  by_cases h3 : trials.length ≤ 6
  · have hb : 1 ≤ boys.length ∧ boys.length ≤ 4 := by simp [inB] at h1; omega
    have hw : 1 ≤ weeks ∧ weeks ≤ 6 := by simpa [inB] using h2
    obtain ⟨wk, rfl⟩ := Int.eq_ofNat_of_zero_le (show 0 ≤ weeks by omega)
    rcases hB with hB | ⟨b, o, rfl, hB⟩
    · rw [hB] at hb; simp at hb
    refine (valid_loop b o cap capt q boys trials wk w hL hB hb.1 hb.2 (by omega) (by omega) h3 hT h1 h2).mono ?_
    rintro e w' ⟨r, hr, rfl, hk⟩
    refine ⟨?_, hk⟩
    unfold ValidAll at hr
    have e1 : (Book.mk boys (wk : Int) trials).okB = r := by
      rw [Bool.eq_iff_iff, hr]
      simp only [Book.okB, h1, h2, decide_eq_true h3, Bool.true_and, Bool.and_eq_true, Int.toNat_natCast]
    rw [e1]
  · have e1 : (Book.mk boys weeks trials).okB = false := by
      simp only [Book.okB, decide_eq_false h3, Bool.and_false, Bool.false_and]
    rw [e1]
    exact valid_many p q boys.length cap trials.length capt weeks w hnb (by unfold maxLen; omega) h1 h2 (by omega)

theorem check_any (p q : Option Addr) (cap capt : Nat) (B : Book) (w : World) (h : BookAt w p q cap capt B) :
   Calls Tryz.prog 24 #[.agg #[.slice p B.boys.length cap, .int .i64 B.weeks, .slice q B.trials.length capt]] w fun e w' => e = .returned (.int .i64 (if B.okB then 0 else 20)) ∧ Kept w w' := by
  have hk0 : Kept w (w.alloc (Obj.cells #[.slice p B.boys.length cap, .int .i64 B.weeks, .slice q B.trials.length capt] 27)) := kept_alloc (kept_refl _) _
  have hb := h.kept hk0
  rcases hg : B.okB with _ | _
  all_goals
    have HG := Lib.hid hg; clear hg
    have HB := Lib.hid hb; clear hb
    have HH := Lib.hid h; clear h
    go_enter Tryz.func24, Tryz.ntmps24
    go_wp2_with fail
    refine (valid_any p q cap capt B _ HB.out).mono ?_
    rintro e w' ⟨rfl, hk⟩
    have hkk := kept_trans hk0 hk
    rw [HG.out]
    go_wp2_with fail
    go_ret
    exact ⟨rfl, hkk⟩
end Go.Proofs.YthgfbokfaidklaaGreatDoor
set_option linter.all false
namespace Go.Rg
open Go Go.RowKit

/-- From A to B blocks are made, and of those that were there only blocks of T turn. -/
structure Turns (T : Nat → Prop) (A B : World) : Prop where
  os : B.os = A.os
  tape : B.tape = A.tape
  output : B.output = A.output
  size : A.heap.size ≤ B.heap.size
  block : ∀ b, b < A.heap.size → ¬ T b → B.heap[b]? = A.heap[b]?

/-- T' is T and blocks that are made from n on. -/
structure Ext (n : Nat) (T T' : Nat → Prop) : Prop where
  up : ∀ b, T b → T' b
  out : ∀ b, T' b → T b ∨ n ≤ b
theorem Ext.refl (n : Nat) (T : Nat → Prop) : Ext n T T := ⟨fun _ h => h, fun _ h => .inl h⟩
theorem Ext.trans {n m : Nat} {T T' T'' : Nat → Prop} (h : Ext n T T') (k : Ext m T' T'') (hm : n ≤ m) : Ext n T T'' := ⟨fun b hb => k.up b (h.up b hb), fun b hb => by
  rcases k.out b hb with h1 | h1
  · exact h.out b h1
  · exact .inr (by omega)⟩
theorem Ext.less {n m : Nat} {T T' : Nat → Prop} (h : Ext m T T') (hm : n ≤ m) : Ext n T T' := ⟨h.up, fun b hb => (h.out b hb).imp id fun h => by omega⟩
theorem Turns.refl (T : Nat → Prop) (A : World) : Turns T A A := ⟨rfl, rfl, rfl, Nat.le_refl _, fun _ _ _ => rfl⟩
theorem Turns.trans {T T' : Nat → Prop} {A B C : World} (h : Turns T A B) (e : Ext A.heap.size T T') (k : Turns T' B C) : Turns T A C :=
  ⟨k.os.trans h.os, k.tape.trans h.tape, k.output.trans h.output, Nat.le_trans h.size k.size, fun b hb hn =>
    (k.block b (Nat.lt_of_lt_of_le hb h.size) fun hb' => by rcases e.out b hb' with h1 | h1; exact hn h1; omega).trans (h.block b hb hn)⟩
theorem Turns.mono {T T' : Nat → Prop} {A B : World} (h : Turns T A B) (e : ∀ b, b < A.heap.size → T b → T' b) : Turns T' A B :=
  ⟨h.os, h.tape, h.output, h.size, fun b hb hn => h.block b hb fun ht => hn (e b hb ht)⟩
theorem Turns.alloc {T : Nat → Prop} {A B : World} (h : Turns T A B) (o : Obj) : Turns T A (B.alloc o) :=
  ⟨h.os, h.tape, h.output, Nat.le_trans h.size (by simp), fun b hb hn => (Below.heap_alloc B o b (Nat.lt_of_lt_of_le hb h.size)).trans (h.block b hb hn)⟩
theorem Turns.drew {T : Nat → Prop} {A B : World} (h : Turns T A B) : Turns T A B.drew := ⟨h.os, h.tape, h.output, h.size, h.block⟩
theorem Turns.putObj {T : Nat → Prop} {A B : World} (h : Turns T A B) {l : Nat} (hl : T l ∨ A.heap.size ≤ l) (o : Obj) : Turns T A (B.putObj l o) :=
  ⟨h.os, h.tape, h.output, by simpa using h.size, fun b hb hn => (World.putObj_heap_other (r := l) (k := b) (by rintro rfl; rcases hl with h | h; exact hn h; omega)).trans (h.block b hb hn)⟩
theorem Turns.setCell {T : Nat → Prop} {A B : World} (h : Turns T A B) {b : Nat} (hb : T b) (o : Nat) (v : Value) : Turns T A (B.setCell ⟨b, o, none⟩ v) :=
  ⟨h.os, h.tape, h.output, by simpa [World.setCell] using h.size, fun k hk hn => by
    have e : (B.setCell ⟨b, o, none⟩ v).heap[k]? = B.heap[k]? := by
      have hne : ¬ b = k := by rintro rfl; exact hn hb
      simp [World.setCell, Array.getElem?_modify, hne]
    exact e.trans (h.block k hk hn)⟩
theorem Turns.below {T : Nat → Prop} {A B : World} (h : Below A.heap.size A B) : Turns T A B :=
  ⟨h.os, h.tape, h.output, h.size, fun b hb _ => h.block b hb⟩
theorem Turns.toBelow {T : Nat → Prop} {A B : World} (h : Turns T A B) {n : Nat} (hn : ∀ b, T b → n ≤ b) (hs : n ≤ A.heap.size) : Below n A B :=
  ⟨h.os, h.tape, h.output, h.size, fun b hb => h.block b (by omega) fun ht => by have := hn b ht; omega⟩
theorem Turns.cell {T : Nat → Prop} {A B : World} (h : Turns T A B) {b o : Nat} (hb : b < A.heap.size) (hn : ¬ T b) : B.cell? ⟨b, o, none⟩ = A.cell? ⟨b, o, none⟩ := by
  have := h.block b hb hn
  simp only [World.cell?, this]
theorem Turns.frozen {T : Nat → Prop} {A B : World} (h : Turns T A B) {b o : Nat} (hb : b < A.heap.size) (hn : ¬ T b) : B.frozen? ⟨b, o, none⟩ = A.frozen? ⟨b, o, none⟩ := by
  have := h.block b hb hn
  simp only [World.frozen?, this]

/-- What the iterator does between two rounds: blocks below lo and those of T lie as they lay. -/
structure Quiet (lo : Nat) (T : Nat → Prop) (A B : World) : Prop where
  os : B.os = A.os
  tape : B.tape = A.tape
  output : B.output = A.output
  size : A.heap.size ≤ B.heap.size
  block : ∀ b, b < A.heap.size → (b < lo ∨ T b) → B.heap[b]? = A.heap[b]?
theorem Quiet.refl (lo : Nat) (T : Nat → Prop) (A : World) : Quiet lo T A A := ⟨rfl, rfl, rfl, Nat.le_refl _, fun _ _ _ => rfl⟩
theorem Quiet.trans {lo : Nat} {T : Nat → Prop} {A B C : World} (h : Quiet lo T A B) (k : Quiet lo T B C) : Quiet lo T A C :=
  ⟨k.os.trans h.os, k.tape.trans h.tape, k.output.trans h.output, Nat.le_trans h.size k.size, fun b hb hn => (k.block b (Nat.lt_of_lt_of_le hb h.size) hn).trans (h.block b hb hn)⟩
theorem Quiet.below {lo : Nat} {T : Nat → Prop} {A B : World} (h : Below A.heap.size A B) : Quiet lo T A B := ⟨h.os, h.tape, h.output, h.size, fun b hb _ => h.block b hb⟩
theorem Quiet.alloc {lo : Nat} {T : Nat → Prop} {A B : World} (h : Quiet lo T A B) (o : Obj) : Quiet lo T A (B.alloc o) :=
  ⟨h.os, h.tape, h.output, Nat.le_trans h.size (by simp), fun b hb hn => (Below.heap_alloc B o b (Nat.lt_of_lt_of_le hb h.size)).trans (h.block b hb hn)⟩
theorem Quiet.drew {lo : Nat} {T : Nat → Prop} {A B : World} (h : Quiet lo T A B) : Quiet lo T A B.drew := ⟨h.os, h.tape, h.output, h.size, h.block⟩
theorem Quiet.putObj {lo : Nat} {T : Nat → Prop} {A B : World} (h : Quiet lo T A B) {l : Nat} (hl : lo ≤ l) (hn : ¬ T l) (o : Obj) : Quiet lo T A (B.putObj l o) :=
  ⟨h.os, h.tape, h.output, by simpa using h.size, fun b hb hb' => (World.putObj_heap_other (r := l) (k := b) (by rintro rfl; rcases hb' with h | h; omega; exact hn h)).trans (h.block b hb hb')⟩
theorem Quiet.cell {lo : Nat} {T : Nat → Prop} {A B : World} (h : Quiet lo T A B) {b o : Nat} (hb : b < A.heap.size) (hn : b < lo ∨ T b) : B.cell? ⟨b, o, none⟩ = A.cell? ⟨b, o, none⟩ := by
  have := h.block b hb hn
  simp only [World.cell?, this]
theorem Quiet.frozen {lo : Nat} {T : Nat → Prop} {A B : World} (h : Quiet lo T A B) {b o : Nat} (hb : b < A.heap.size) (hn : b < lo ∨ T b) : B.frozen? ⟨b, o, none⟩ = A.frozen? ⟨b, o, none⟩ := by
  have := h.block b hb hn
  simp only [World.frozen?, this]

/-- Nothing that was there has turned. -/
def Kept' (A B : World) : Prop := Turns (fun _ => False) A B
/-- What a round hands back. -/
def RoundTold (P : Program) (l : Nat) (arg : Value) (k : Nat) (J Jx : Nat → (Nat → Prop) → World → Prop) (T' : Nat → Prop) (A : World) : Prop :=
  YieldAt Fence.wide 0 P l #[arg] A fun e B => ∃ T'', Ext A.heap.size T' T'' ∧ (∀ b, T'' b → b < B.heap.size) ∧ Turns T'' A B ∧ ((e = .returned (.bool true) ∧ J (k + 1) T'' B) ∨ (e = .returned (.bool false) ∧ Jx (k + 1) T'' B))

/-- **The contract of an iterator's function**: it hands out the elements of xs in their order. D: what it reads, in the blocks of S. -/
def Gives {α : Type} (P : Program) (g : Nat) (lb : Array Value) (enc : α → Value) (xs : List α) (S : Nat → Prop) (D : World → Prop) : Prop :=
  ∀ (l : Nat) (T : Nat → Prop) (J Jx : Nat → (Nat → Prop) → World → Prop) (V : World), (∀ b, T b → b < V.heap.size) → (∀ b, S b → b < V.heap.size ∧ ¬ T b) → D V →
    (∀ k T' A B, J k T' A → Quiet V.heap.size T' A B → J k T' B) → (∀ k T' A B, Jx k T' A → Quiet V.heap.size T' A B → Jx k T' B) →
    (∀ k x T' A, xs[k]? = some x → Ext V.heap.size T T' → (∀ b, T' b → b < A.heap.size) → Turns T V A → J k T' A → RoundTold P l (enc x) k J Jx T' A) →
    J 0 T V →
    Calls P g (#[.func (.yield l) #[] #[]] ++ lb) V fun e B => (∃ v, e = .returned v) ∧ Turns T V B ∧ ∃ T', Ext V.heap.size T T' ∧ (J xs.length T' B ∨ ∃ k, k ≤ xs.length ∧ Jx k T' B)

def rangeBody (T1 : Nat → Prop) (I : Nat → (Nat → Prop) → World → Prop) (Ix : Code → Nat → (Nat → Prop) → World → Prop) (k : Nat) (A : World) : Exit → Act → World → Prop
  | .normal, _, B => ∃ T2 : Nat → Prop, Ext A.heap.size T1 T2 ∧ (∀ b, T2 b → b < B.heap.size) ∧ Turns T2 A B ∧ I (k + 1) T2 B
  | .ret, _, B => ∃ T2 : Nat → Prop, Ext A.heap.size T1 T2 ∧ (∀ b, T2 b → b < B.heap.size) ∧ Turns T2 A B ∧ Ix .ret (k + 1) T2 B
  | .exit id, _, B => ∃ T2 : Nat → Prop, Ext A.heap.size T1 T2 ∧ (∀ b, T2 b → b < B.heap.size) ∧ Turns T2 A B ∧ Ix (.exit id) (k + 1) T2 B
  | _, _, _ => False

theorem wpIn_range {P : Program} {α : Type} {g : Operand} {ps : Array Tmp} {assign body : Code} {Q : Exit → Act → World → Prop} {a : Act} {w : World}
    {gf : Nat} {lb : Array Value} (hg : a.eval g = .func (.func gf) #[] lb) (eg : ∀ args w, (callFunc gf args).run P w = .ok (.enter gf args) w)
    {enc : α → Value} {xs : List α} {S : Nat → Prop} {D : World → Prop} (hgives : Gives P gf lb enc xs S D) (hps : ps.size = 1)
    (T : Nat → Prop) (hT : ∀ b, T b → b < w.heap.size) (hS : ∀ b, S b → b < w.heap.size ∧ ¬ T b) (hD : ∀ B, Kept' w B → D B)
    (I : Nat → (Nat → Prop) → World → Prop) (Ix : Code → Nat → (Nat → Prop) → World → Prop)
    (hI : ∀ k T' A B, I k T' A → Quiet w.heap.size T' A B → I k T' B) (hIx : ∀ c k T' A B, Ix c k T' A → Quiet w.heap.size T' A B → Ix c k T' B)
    (h0 : I 0 T w)
    (hround : ∀ l k x T' A, xs[k]? = some x → Ext w.heap.size T T' → (∀ b, T' b → b < A.heap.size) → Turns T w A → l = w.heap.size + 1 → l < A.heap.size → ¬ T' l → I k T' A →
      assign.wpIn (Fence.wide.inRound l) 0 P (Exit.then (fun a₁ A₁ => ∃ T1, Ext A.heap.size T' T1 ∧ Turns T1 A A₁ ∧
          ∀ A₂, Turns (· = l) A₁ A₂ → A₂.heap.size = A₁.heap.size → (∃ r, A₂.heap[l]? = some (.loop r)) → body.wpIn (Fence.wide.inRound l) 0 P (rangeBody T1 I Ix k A₂) a₁ A₂) (fun _ _ _ => False))
        { tmps := (ps.zip #[enc x]).foldl (fun t (p, v) => t.setIfInBounds p v) a.tmps, defers := [] } A)
    (hdone : ∀ (Db : Nat) (T' : Nat → Prop) (B : World), w.heap.size ≤ Db → ¬ T' Db → Ext w.heap.size T T' → Turns T w B → I xs.length T' B → B.heap[Db]? = some (.deferred (some [])) → Q .normal { a with defers := { target := .collected Db, args := #[] } :: a.defers } B)
    (hstop : ∀ (Db : Nat) (c : Code) (k : Nat) (T' : Nat → Prop) (B : World), w.heap.size ≤ Db → ¬ T' Db → Ext w.heap.size T T' → Turns T w B → k ≤ xs.length → Ix c k T' B → B.heap[Db]? = some (.deferred (some [])) → c.wpIn Fence.wide 0 P Q { a with defers := { target := .collected Db, args := #[] } :: a.defers } B) :
    (Code.rangeFunc g ps assign body).wpIn Fence.wide 0 P Q a w := by
  refine wpIn_rangeFunc ?_
  intro fn hfn
  obtain ⟨rec, hrec⟩ : ∃ rec : LoopState → Option Code → Loop, rec = fun st pe => { state := st, pending := pe, fn, tmps := a.tmps, params := ps, assign, body, defers := w.heap.size } := ⟨_, rfl⟩
  obtain ⟨W1, hW1⟩ : ∃ W1, (w.alloc (.deferred (some []))).alloc (.loop (rec .ready none)) = W1 := ⟨_, rfl⟩
  have hs1 : W1.heap.size = w.heap.size + 2 := by rw [← hW1]; simp
  have hL1 : W1.heap[w.heap.size + 1]? = some (.loop (rec .ready none)) := by
    rw [← hW1]; have := World.alloc_heap_new (w.alloc (.deferred (some []))) (.loop (rec .ready none)); rwa [World.size_alloc] at this
  have hK1 : W1.heap[w.heap.size]? = some (.deferred (some [])) := by
    rw [← hW1]; exact (Below.heap_alloc _ _ _ (by simp)).trans (World.alloc_heap_new w _)
  have hw1 : ∀ T, Turns T w W1 := fun T => by rw [← hW1]; exact ((Turns.refl _ w).alloc _).alloc _
  have hq1 : ∀ T, Quiet w.heap.size T w W1 := fun T => by rw [← hW1]; exact ((Quiet.refl _ _ w).alloc _).alloc _
  refine ⟨w.heap.size + 1, [{ target := .collected w.heap.size, args := #[] }], W1, { target := .fn (.func gf) lb, args := #[.func (.yield (w.heap.size + 1)) #[] #[]] }, W1, gf,
    #[.func (.yield (w.heap.size + 1)) #[] #[]] ++ lb, W1, ?_, ?_, ?_, ?_, (by intro h; simp [Fence.wide] at h), ?_⟩
  · rw [← hW1, hrec]; exact run_enterLoop_outer _ _ _ _ _
  · simp only [resolve, hg]
    simp [go_sem]
  · intro f' hf'; trivial
  · simp [invoke, go_sem, eg]
  refine callsIn_wide.2 ?_
  -- what the law's own books say
  let BK : (Nat → Prop) → (Nat → Prop) → LoopState → Option Code → World → Prop := fun T0 T' st pe A =>
    (∀ b, T' b ↔ T0 b ∨ b = w.heap.size + 1) ∧ ¬ T0 (w.heap.size + 1) ∧ ¬ T0 w.heap.size ∧ Ext w.heap.size T T0 ∧ Turns T w A ∧ A.heap[w.heap.size + 1]? = some (.loop (rec st pe)) ∧ A.heap[w.heap.size]? = some (.deferred (some []))
  have hBK : ∀ T0 T' st pe A B, BK T0 T' st pe A → Quiet W1.heap.size T' A B → BK T0 T' st pe B := by
    rintro T0 T' st pe A B ⟨h1, h2, h3, h4, h5, h6, h7⟩ hq
    have hlt1 := (Array.getElem?_eq_some_iff.1 h6).1
    have hlt2 := (Array.getElem?_eq_some_iff.1 h7).1
    refine ⟨h1, h2, h3, h4, ?_, (hq.block _ hlt1 (.inl (by omega))).trans h6, (hq.block _ hlt2 (.inl (by omega))).trans h7⟩
    exact ⟨hq.os.trans h5.os, hq.tape.trans h5.tape, hq.output.trans h5.output, Nat.le_trans h5.size hq.size, fun b hb hn => (hq.block b (Nat.lt_of_lt_of_le hb h5.size) (.inl (by omega))).trans (h5.block b hb hn)⟩
  have weak : ∀ {T0 T' : Nat → Prop} {A B : World}, (∀ b, T' b ↔ T0 b ∨ b = w.heap.size + 1) → Quiet W1.heap.size T' A B → Quiet w.heap.size T0 A B := fun h1 hq =>
    ⟨hq.os, hq.tape, hq.output, hq.size, fun b hb h => hq.block b hb (h.elim (fun h => .inl (by omega)) fun h => .inr ((h1 b).2 (.inl h)))⟩
  have key := hgives (w.heap.size + 1) (fun b => T b ∨ b = w.heap.size + 1)
    (fun k T' A => ∃ T0, BK T0 T' .ready none A ∧ I k T0 A)
    (fun k T' A => ∃ T0 c, BK T0 T' .done (some c) A ∧ Ix c k T0 A) W1
    (by rintro b (h | rfl); have := hT b h; omega; omega)
    (fun b hb => ⟨by have := (hS b hb).1; omega, by rintro (h | h); exact (hS b hb).2 h; have := (hS b hb).1; omega⟩)
    (hD _ (hw1 _))
    (fun k T' A B ⟨T0, hb, hi⟩ hq => ⟨T0, hBK _ _ _ _ _ _ hb hq, hI _ _ _ _ hi (weak hb.1 hq)⟩)
    (fun k T' A B ⟨T0, c, hb, hi⟩ hq => ⟨T0, c, hBK _ _ _ _ _ _ hb hq, hIx _ _ _ _ _ hi (weak hb.1 hq)⟩)
    ?_ ⟨T, ⟨fun b => Iff.rfl, fun h => by have := hT _ h; omega, fun h => by have := hT _ h; omega, Ext.refl _ _, hw1 T, hL1, hK1⟩, hI _ _ _ _ h0 (hq1 T)⟩
  · refine key.mono ?_
    rintro e W2 ⟨⟨v, rfl⟩, hT2, T', hE', (⟨T0, ⟨b1, b2, b3, b4, b5, b6, b7⟩, hi⟩ | ⟨k, hk, T0, c, ⟨b1, b2, b3, b4, b5, b6, b7⟩, hi⟩)⟩
    · refine ⟨none, _, by have := run_endLoop (P := P) b6 (by rw [hrec]; simp); rw [hrec] at this; exact this, ?_⟩
      refine hdone _ T0 _ (Nat.le_refl _) b3 b4 (b5.putObj (.inr (by omega)) _) (hI _ _ _ _ hi ((Quiet.refl _ _ _).putObj (by omega) b2 _)) ((World.putObj_heap_other (by omega)).trans b7)
    · refine ⟨some c, _, by have := run_endLoop (P := P) b6 (by rw [hrec]; simp); rw [hrec] at this; exact this, ?_⟩
      refine hstop _ c k T0 _ (Nat.le_refl _) b3 b4 (b5.putObj (.inr (by omega)) _) hk (hIx _ _ _ _ _ hi ((Quiet.refl _ _ _).putObj (by omega) b2 _)) ((World.putObj_heap_other (by omega)).trans b7)
  · rintro k x T' A hx hE hTs hTA ⟨T0, ⟨b1, b2, b3, b4, b5, b6, b7⟩, hi⟩
    have hlt : w.heap.size + 1 < A.heap.size := (Array.getElem?_eq_some_iff.1 b6).1
    have hy := run_yield (P := P) (args := #[enc x]) b6 (by rw [hrec]; simp [hps])
    rw [hrec] at hy
    refine ⟨fn, _, assign, body, hy, roundIn_of_wpIn hfn (wpIn_mono (hround _ k x T0 A hx b4 (fun b hb => hTs b ((b1 b).2 (.inl hb))) b5 rfl hlt b2 hi) ?_)⟩
    clear hy
    rintro e a1 A1 hp
    cases e <;> try exact hp.elim
    obtain ⟨T1, hE1, hT1, hb⟩ := hp
    have n1 : ∀ {T2 : Nat → Prop} {B : World}, Ext A.heap.size T0 T2 → A.heap.size ≤ B.heap.size → ¬ T2 (w.heap.size + 1) ∧ ¬ T2 w.heap.size := fun h _ =>
      ⟨fun hh => by rcases h.out _ hh with h1 | h1; exact b2 h1; omega, fun hh => by rcases h.out _ hh with h1 | h1; exact b3 h1; omega⟩
    obtain ⟨n1a, n1b⟩ := n1 hE1 hT1.size
    have l1 := (hT1.block _ hlt n1a).trans b6
    have d1 := (hT1.block _ (by omega) n1b).trans b7
    have hlt1 := (Array.getElem?_eq_some_iff.1 l1).1
    refine ⟨_, run_beginRound l1 (by rw [hrec]), ?_⟩
    have l2 : (A1.putObj (w.heap.size + 1) (.loop { rec .ready none with state := .busy })).heap[w.heap.size + 1]? = some (.loop { rec .ready none with state := .busy }) := World.putObj_heap_same hlt1
    have d2 : (A1.putObj (w.heap.size + 1) (.loop { rec .ready none with state := .busy })).heap[w.heap.size]? = some (.deferred (some [])) := (World.putObj_heap_other (by omega)).trans d1
    have t2 : Turns (· = w.heap.size + 1) A1 (A1.putObj (w.heap.size + 1) (.loop { rec .ready none with state := .busy })) := Turns.putObj (T := fun x => x = w.heap.size + 1) (Turns.refl _ _) (.inl rfl) _
    have s2 : (A1.putObj (w.heap.size + 1) (.loop { rec .ready none with state := .busy })).heap.size = A1.heap.size := by simp
    refine wpIn_mono (hb _ t2 s2 ⟨_, l2⟩) ?_
    generalize A1.putObj (w.heap.size + 1) (.loop { rec .ready none with state := .busy }) = A2 at *
    have fin : ∀ (jump : Option Code) (T2 : Nat → Prop) (B : World), Ext A2.heap.size T1 T2 → Turns T2 A2 B →
        (Instr.endRound (w.heap.size + 1) jump).run P B = .ok (.bool jump.isNone) (B.putObj (w.heap.size + 1) (.loop (rec (if jump.isNone then .ready else .done) jump))) ∧
        BK T2 (fun b => T2 b ∨ b = w.heap.size + 1) (if jump.isNone then .ready else .done) jump (B.putObj (w.heap.size + 1) (.loop (rec (if jump.isNone then .ready else .done) jump))) ∧
        Ext A.heap.size T' (fun b => T2 b ∨ b = w.heap.size + 1) ∧ Turns (fun b => T2 b ∨ b = w.heap.size + 1) A (B.putObj (w.heap.size + 1) (.loop (rec (if jump.isNone then .ready else .done) jump))) ∧
        Quiet w.heap.size T2 B (B.putObj (w.heap.size + 1) (.loop (rec (if jump.isNone then .ready else .done) jump))) := fun jump T2 B hE2 hT2 => by
      have hA12 : A.heap.size ≤ A2.heap.size := by have := hT1.size; omega
      have hE02 : Ext A.heap.size T0 T2 := hE1.trans hE2 hA12
      obtain ⟨n2a, n2b⟩ := n1 (B := A) hE02 (Nat.le_refl _)
      have hl3 := (hT2.block _ (by omega) n2a).trans l2
      have hd3 := (hT2.block _ (by omega) n2b).trans d2
      have h := run_endRound (P := P) jump hl3
      have u1 : Turns (fun b => T2 b ∨ b = w.heap.size + 1) A A2 := (hT1.mono fun _ _ h => .inl (hE2.up _ h)).trans (Ext.refl _ _) (t2.mono fun _ _ h => .inr h)
      have hTA2 : Turns (fun b => T2 b ∨ b = w.heap.size + 1) A B := u1.trans (Ext.refl _ _) (hT2.mono fun _ _ h => .inl h)
      have hTw : Turns T w B := b5.trans (T' := fun b => T2 b ∨ b = w.heap.size + 1) ⟨fun b hb => .inl (hE02.up _ (b4.up _ hb)), fun b hb => by
        rcases hb with hb | rfl
        · rcases hE02.out b hb with h1 | h1
          · exact b4.out b h1
          · exact .inr (Nat.le_trans b5.size h1)
        · exact .inr (by omega)⟩ hTA2
      have hlB := (Array.getElem?_eq_some_iff.1 hl3).1
      refine ⟨?_, ⟨fun b => Iff.rfl, n2a, n2b, ?_, hTw.putObj (.inr (by omega)) _, World.putObj_heap_same hlB, (World.putObj_heap_other (by omega)).trans hd3⟩, ?_, hTA2.putObj (.inl (.inr rfl)) _, (Quiet.refl _ _ _).putObj (by omega) n2a _⟩
      · rw [hrec] at h ⊢; exact h
      · exact b4.trans hE02 b5.size
      · refine ⟨fun b hb => ?_, ?_⟩
        · rcases (b1 b).1 hb with h | h
          · exact .inl (hE02.up _ h)
          · exact .inr h
        · rintro b (hb | rfl)
          · rcases hE02.out b hb with h1 | h1
            · exact .inl ((b1 b).2 (.inl h1))
            · exact .inr h1
          · exact .inl ((b1 _).2 (.inr rfl))
    have zz : ∀ {T2 : Nat → Prop} {B : World} {o : Obj}, Turns T2 A2 B → (∀ b, T2 b → b < B.heap.size) → ∀ b, (T2 b ∨ b = w.heap.size + 1) → b < (B.putObj (w.heap.size + 1) o).heap.size := fun {T2 B o} h1 h2 b hb => by
      have := h1.size; have := hT1.size
      rw [World.putObj_size]
      rcases hb with hb | rfl
      · exact h2 b hb
      · omega
    rintro e a3 B hp
    cases e with
    | normal =>
      obtain ⟨T2, hE2, hz2, hT2, hi2⟩ := hp
      obtain ⟨hr, hbk, hx2, ht2, hq2⟩ := fin none T2 B hE2 hT2
      exact ⟨_, _, hr, _, hx2, zz hT2 hz2, ht2, .inl ⟨rfl, T2, hbk, hI _ _ _ _ hi2 hq2⟩⟩
    | ret =>
      obtain ⟨T2, hE2, hz2, hT2, hi2⟩ := hp
      obtain ⟨hr, hbk, hx2, ht2, hq2⟩ := fin (some .ret) T2 B hE2 hT2
      exact ⟨_, _, hr, _, hx2, zz hT2 hz2, ht2, .inr ⟨rfl, T2, _, hbk, hIx _ _ _ _ _ hi2 hq2⟩⟩
    | exit id =>
      obtain ⟨T2, hE2, hz2, hT2, hi2⟩ := hp
      obtain ⟨hr, hbk, hx2, ht2, hq2⟩ := fin (some (.exit id)) T2 B hE2 hT2
      exact ⟨_, _, hr, _, hx2, zz hT2 hz2, ht2, .inr ⟨rfl, T2, _, hbk, hIx _ _ _ _ _ hi2 hq2⟩⟩
    | goto t => exact hp.elim
    | panic ch => exact hp.elim
    | outgrown => exact hp.elim
end Go.Rg
set_option linter.all false
namespace Go.Proofs.YthgfbokfaidklaaGreatDoor
open Go.RowKit Go.Sort Go.Rg
set_option maxRecDepth 100000
attribute [local go_sem] Oper.semAt_some

theorem wpIn_scope_calm {F : Fence} {n : Nat} {P : Program} {c : Code} {Q : Exit → Act → World → Prop} {a : Act} {w : World} (hg : ∀ l a w, ¬ Q (.goto l) a w) (h : c.wpIn F n P Q a w) : (Code.scope c).wpIn F n P Q a w :=
  Go.Ai.wpIn_scope (wpIn_mono h fun e a w q => ⟨fun l hl => hg l a w (hl ▸ q), q⟩)
theorem kcell {A B : World} (hk : Kept A B) {b o : Nat} {v : Value} (h : A.cell? ⟨b, o, none⟩ = some v) : B.cell? ⟨b, o, none⟩ = some v := ((bcell hk).1 b o (Go.Ai.lt_of_cell h)).trans h
theorem tcell {A B : World} {U : Nat → Prop} (hk : Turns U A B) {b o : Nat} {v : Value} (hu : ¬ U b) (h : A.cell? ⟨b, o, none⟩ = some v) : B.cell? ⟨b, o, none⟩ = some v := (hk.cell (Go.Ai.lt_of_cell h) hu).trans h
theorem kturns {A B : World} (hk : Kept A B) (U : Nat → Prop) : Turns U A B := Turns.below hk

/-- what the iterator of truths works with -/
structure Spot where
  l : Nat
  bt : Nat
  byy : Nat
  bs : Nat
  bc : Nat
  bh : Nat
  k0 : Value
  k1 : Value
  k2 : Value
  k3 : Value
  boy : Int
  lo : Nat → Int
  hi : Nat → Int
  S : Nat → Prop
def Spot.enc (s : Spot) (x : List Int) : Value := .agg (#[s.k0, s.k1, s.k2, s.k3, .int .i64 s.boy] ++ (x.map (Value.int .i64)).toArray)

structure OwnT (s : Spot) (W : World) (pre : List Int) : Prop where
  t0 : W.cell? ⟨s.bt, 0, none⟩ = some s.k0
  t1 : W.cell? ⟨s.bt, 1, none⟩ = some s.k1
  t2 : W.cell? ⟨s.bt, 2, none⟩ = some s.k2
  t3 : W.cell? ⟨s.bt, 3, none⟩ = some s.k3
  t4 : W.cell? ⟨s.bt, 4, none⟩ = some (.int .i64 s.boy)
  num : ∀ i, i < 5 → ∃ v, W.cell? ⟨s.bt, 5 + i, none⟩ = some (.int .i64 v)
  pre : ∀ i v, pre[i]? = some v → W.cell? ⟨s.bt, 5 + i, none⟩ = some (.int .i64 v)
  free : ∀ i, W.frozen? ⟨s.bt, i, none⟩ = false
structure OwnR (s : Spot) (Fx : World → Prop) (W : World) : Prop where
  y : W.cell? ⟨s.byy, 0, none⟩ = some (.func (.yield s.l) #[] #[])
  sp : ∀ i, i < 5 → W.cell? ⟨s.bs, i * 2, none⟩ = some (.int .i64 (s.lo i)) ∧ W.cell? ⟨s.bs, i * 2 + 1, none⟩ = some (.int .i64 (s.hi i))
  c2 : W.cell? ⟨s.bc, 2, none⟩ = some s.k2
  h : W.cell? ⟨s.bh, 0, none⟩ = some (.func (.func 113) #[] #[.pointer (some ⟨s.bt, 0, none⟩), .pointer (some ⟨s.byy, 0, none⟩), .pointer (some ⟨s.bs, 0, none⟩), .pointer (some ⟨s.bc, 0, none⟩), .pointer (some ⟨s.bh, 0, none⟩)])
  fx : Fx W
/-- the spot's blocks are apart, and Fx speaks of them alone -/
structure Spot.Ok (s : Spot) (Fx : World → Prop) : Prop where
  y1 : s.S s.byy
  s1 : s.S s.bs
  c1 : s.S s.bc
  h1 : s.S s.bh
  t1 : ¬ s.S s.bt
  fx : ∀ A B U, Fx A → Turns U A B → (∀ b, s.S b → ¬ U b) → Fx B

theorem OwnT.turns {s : Spot} {A B : World} {pre : List Int} {U : Nat → Prop} (h : OwnT s A pre) (k : Turns U A B) (hu : ¬ U s.bt) : OwnT s B pre where
  t0 := tcell k hu h.t0
  t1 := tcell k hu h.t1
  t2 := tcell k hu h.t2
  t3 := tcell k hu h.t3
  t4 := tcell k hu h.t4
  num := fun i hi => (h.num i hi).imp fun v hv => tcell k hu hv
  pre := fun i v hi => tcell k hu (h.pre i v hi)
  free := fun i => (k.frozen (Go.Ai.lt_of_cell h.t0) hu).trans (h.free i)
theorem OwnR.turns {s : Spot} {Fx : World → Prop} {A B : World} {U : Nat → Prop} (h : OwnR s Fx A) (ok : s.Ok Fx) (k : Turns U A B) (hu : ∀ b, s.S b → ¬ U b) : OwnR s Fx B where
  y := tcell k (hu _ ok.y1) h.y
  sp := fun i hi => ⟨tcell k (hu _ ok.s1) (h.sp i hi).1, tcell k (hu _ ok.s1) (h.sp i hi).2⟩
  c2 := tcell k (hu _ ok.c1) h.c2
  h := tcell k (hu _ ok.h1) h.h
  fx := ok.fx _ _ _ h.fx k hu
theorem OwnT.less {s : Spot} {W : World} {pre : List Int} {x : List Int} (h : OwnT s W (pre ++ x)) : OwnT s W pre :=
  { h with pre := fun i v hv => h.pre i v (by
      have := (List.getElem?_eq_some_iff.1 hv).1
      rw [List.getElem?_append_left this]; exact hv) }

/-- where the iterator stands -/
structure Good (s : Spot) (V : World) (T T' : Nat → Prop) (A : World) : Prop where
  ext : Ext V.heap.size T T'
  small : ∀ b, T' b → b < A.heap.size
  base : Turns T V A
  offS : ∀ b, s.S b → ¬ T' b
  offt : ¬ T' s.bt
  zs : ∀ b, s.S b → b < A.heap.size
  zt : s.bt < A.heap.size
  lot : V.heap.size ≤ s.bt
theorem Good.step {s : Spot} {V A B : World} {T T' T'' : Nat → Prop} (g : Good s V T T' A) (e : Ext A.heap.size T' T'') (z : ∀ b, T'' b → b < B.heap.size) (k : Turns (fun b => T'' b ∨ b = s.bt) A B) : Good s V T T'' B where
  ext := g.ext.trans e g.base.size
  small := z
  base := g.base.trans (T' := fun b => T'' b ∨ b = s.bt) ⟨fun b hb => .inl (e.up _ (g.ext.up _ hb)), fun b hb => by
    rcases hb with hb | rfl
    · rcases e.out b hb with h | h
      · exact g.ext.out b h
      · exact .inr (Nat.le_trans g.base.size h)
    · exact .inr g.lot⟩ k
  offS := fun b hb ht => by
    rcases e.out b ht with h | h
    · exact g.offS b hb h
    · have := g.zs b hb; omega
  offt := fun ht => by
    rcases e.out _ ht with h | h
    · exact g.offt h
    · have := g.zt; omega
  zs := fun b hb => Nat.lt_of_lt_of_le (g.zs b hb) k.size
  zt := Nat.lt_of_lt_of_le g.zt k.size
  lot := g.lot
theorem Good.kept {s : Spot} {V A B : World} {T T' : Nat → Prop} (g : Good s V T T' A) (k : Kept A B) : Good s V T T' B :=
  g.step (Ext.refl _ _) (fun b hb => Nat.lt_of_lt_of_le (g.small b hb) (bcell k).2.2) (kturns k _)
theorem Good.quiet {s : Spot} {V A B : World} {T T' : Nat → Prop} (g : Good s V T T' A) (k : Turns (fun b => b = s.bt) A B) : Quiet V.heap.size T' A B :=
  ⟨k.os, k.tape, k.output, k.size, fun b hb h => k.block b hb (by rintro rfl; rcases h with h | h; have := g.lot; omega; exact g.offt h)⟩

/-- what a call of the chooser leaves -/
def ChooseP (s : Spot) (Fx : World → Prop) (pre : List Int) (len k N : Nat) (J Jx : Nat → (Nat → Prop) → World → Prop) (T' : Nat → Prop) (A : World) (e : Ending) (B : World) : Prop :=
  ∃ T'', Ext A.heap.size T' T'' ∧ (∀ b, T'' b → b < B.heap.size) ∧ Turns (fun b => T'' b ∨ b = s.bt) A B ∧
    ((e = .returned (.bool true) ∧ J (k + len) T'' B ∧ OwnT s B pre) ∨ (e = .returned (.bool false) ∧ ∃ j, j ≤ N ∧ Jx j T'' B))

theorem choose_end (s : Spot) (Fx : World → Prop) (ok : s.Ok Fx) (xs : List (List Int)) (n0 n1 n2 n3 n4 : Int) (r : Bool) (V A : World) (k : Nat) (J Jx : Nat → (Nat → Prop) → World → Prop) (T T' : Nat → Prop)
   (hR : OwnR s Fx A) (hO : OwnT s A [n0, n1, n2, n3, n4]) (g : Good s V T T' A)
   (hkeep : Calls Tryz.prog 114 #[s.enc [n0, n1, n2, n3, n4]] A fun e B => e = .returned (.bool r) ∧ Kept A B)
   (hseg : ∃ rest, xs.drop k = (if r then [[n0, n1, n2, n3, n4]] else []) ++ rest)
   (hJ : ∀ k T' A B, J k T' A → Quiet V.heap.size T' A B → J k T' B)
   (hY : ∀ k x T' A, xs[k]? = some x → Good s V T T' A → J k T' A → RoundTold Tryz.prog s.l (s.enc x) k J Jx T' A)
   (h0 : J k T' A) :
   CallsIn Fence.wide 0 Tryz.prog 113 #[.int .i64 5, .pointer (some ⟨s.bt, 0, none⟩), .pointer (some ⟨s.byy, 0, none⟩), .pointer (some ⟨s.bs, 0, none⟩), .pointer (some ⟨s.bc, 0, none⟩), .pointer (some ⟨s.bh, 0, none⟩)] A (ChooseP s Fx [n0, n1, n2, n3, n4] (if r then 1 else 0) k xs.length J Jx T' A) := by
  have ⟨t0, t1, t2, t3, t4, num, pre, free⟩ := hO
  have y := hR.y
  have p0 := pre 0 n0 rfl
  have p1 := pre 1 n1 rfl
  have p2 := pre 2 n2 rfl
  have p3 := pre 3 n3 rfl
  have p4 := pre 4 n4 rfl
  simp only [Nat.add_zero, Nat.reduceAdd] at p0 p1 p2 p3 p4
  clear pre num free
  simp only [Spot.enc, List.map_cons, List.map_nil, List.append_toArray, List.cons_append, List.nil_append] at hkeep
  cases r with
  | false =>
    have H0 := Lib.hid h0; clear h0
    have HJ := Lib.hid hJ; clear hJ
    clear hY hseg
    simp only [Bool.false_eq_true, if_false]
    refine callsIn_of_wp Tryz.func113 rfl trivial ?_ rfl
    simp only [Tryz.ntmps113, List.size_toArray, List.length_cons, List.length_nil, Nat.reduceAdd, Nat.reduceSub, Array.replicate_succ, Array.replicate_zero, List.push_toArray, List.append_toArray, List.nil_append, List.cons_append]
    gi_wp2
    refine wpIn_scope_calm (fun _ _ _ h => h.elim) ?_
    gi_wp2_with (refine ⟨trivial, rfl, ?_⟩; refine (callsIn_wide.2 hkeep).mono ?_; rintro e w' ⟨rfl, hk⟩)
    refine ⟨fun _ h => (by cases h), ?_⟩
    gi_wp2
    go_ret
    exact ⟨T', Ext.refl _ _, fun b hb => Nat.lt_of_lt_of_le (g.small b hb) (bcell hk).2.2, kturns hk _, .inl ⟨rfl, HJ.out _ _ _ _ H0.out (g.quiet (kturns hk _)), hO.turns (kturns hk (fun _ => False)) (fun h => h)⟩⟩
  | true =>
    have hx : xs[k]? = some [n0, n1, n2, n3, n4] := by
      obtain ⟨rest, hr⟩ := hseg
      have := congrArg (fun z => z[0]?) hr
      simpa using this
    have hy := fun B (hk : Kept A B) => hY k _ T' B hx (g.kept hk) (hJ _ _ _ _ h0 (g.quiet (kturns hk _)))
    simp only [Spot.enc, List.map_cons, List.map_nil, List.append_toArray, List.cons_append, List.nil_append] at hy
    have HO := Lib.hid hO; clear hO
    have hJn : xs.length = xs.length := rfl
    have hlt : k + 1 ≤ xs.length := (List.getElem?_eq_some_iff.1 hx).1
    clear hseg hY hJ h0 hx
    simp only [if_true]
    refine callsIn_of_wp Tryz.func113 rfl trivial ?_ rfl
    simp only [Tryz.ntmps113, List.size_toArray, List.length_cons, List.length_nil, Nat.reduceAdd, Nat.reduceSub, Array.replicate_succ, Array.replicate_zero, List.push_toArray, List.append_toArray, List.nil_append, List.cons_append]
    gi_wp2
    refine wpIn_scope_calm (fun _ _ _ h => h.elim) ?_
    gi_wp2_with (refine ⟨trivial, rfl, ?_⟩; refine (callsIn_wide.2 hkeep).mono ?_; rintro e w' ⟨rfl, hk⟩; clear hkeep; replace t0 := kcell hk t0; replace t1 := kcell hk t1; replace t2 := kcell hk t2; replace t3 := kcell hk t3; replace t4 := kcell hk t4; replace p0 := kcell hk p0; replace p1 := kcell hk p1; replace p2 := kcell hk p2; replace p3 := kcell hk p3; replace p4 := kcell hk p4; replace y := kcell hk y; obtain ⟨fn, tmps, assign, body, hyy, hRR⟩ := hy _ hk; clear hy)
    refine ⟨rfl, hRR.mono ?_⟩
    rintro e W' ⟨T'', hE, hz, hT, (⟨rfl, hJ'⟩ | ⟨rfl, hJx'⟩)⟩
    · clear hRR
      gi_wp2
      go_ret
      exact ⟨T'', hE.less (bcell hk).2.2, hz, (kturns hk _).trans (Ext.refl _ _) (hT.mono fun _ _ h => .inl h), .inl ⟨rfl, hJ', (HO.out.turns (kturns hk (fun _ => False)) (fun h => h)).turns hT (fun h => by rcases hE.out _ h with h | h; exact g.offt h; have := g.zt; have := (bcell hk).2.2; omega)⟩⟩
    · clear hRR
      gi_wp2
      go_ret
      exact ⟨T'', hE.less (bcell hk).2.2, hz, (kturns hk _).trans (Ext.refl _ _) (hT.mono fun _ _ h => .inl h), .inr ⟨rfl, _, hlt, hJx'⟩⟩
end Go.Proofs.YthgfbokfaidklaaGreatDoor
set_option linter.all false
namespace Go.Proofs.YthgfbokfaidklaaGreatDoor
open Go.RowKit Go.Sort Go.Rg
set_option maxRecDepth 100000
attribute [local go_sem] Oper.semAt_some

theorem cell_set_ne {W : World} {b o o' : Nat} {v : Value} (h : o ≠ o') : (W.setCell ⟨b, o, none⟩ v).cell? ⟨b, o', none⟩ = W.cell? ⟨b, o', none⟩ := by
  simp only [World.cell?, World.setCell, Array.getElem?_modify, if_pos]
  cases hc : W.heap[b]? with
  | none => simp
  | some x =>
    cases x with
    | cells c e f => simp [Array.getElem?_setIfInBounds_ne h]
    | _ => simp
theorem cell_set_eq {W : World} {b o : Nat} {v u : Value} (h : W.cell? ⟨b, o, none⟩ = some u) : (W.setCell ⟨b, o, none⟩ v).cell? ⟨b, o, none⟩ = some v := World.cell?_setCell_same' _ _ _ (by rw [h]; rfl)
theorem OwnT.set {s : Spot} {W : World} {pre : List Int} (h : OwnT s W pre) (hw : pre.length < 5) (v : Int) : OwnT s (W.setCell ⟨s.bt, 5 + pre.length, none⟩ (.int .i64 v)) (pre ++ [v]) := by
  obtain ⟨u, hu⟩ := h.num _ hw
  refine ⟨(cell_set_ne (by omega)).trans h.t0, (cell_set_ne (by omega)).trans h.t1, (cell_set_ne (by omega)).trans h.t2, (cell_set_ne (by omega)).trans h.t3, (cell_set_ne (by omega)).trans h.t4, fun i hi => ?_, fun i x hx => ?_, fun i => ?_⟩
  · by_cases e : i = pre.length
    · subst e; exact ⟨v, cell_set_eq hu⟩
    · obtain ⟨x, hx⟩ := h.num i hi
      exact ⟨x, (cell_set_ne (by omega)).trans hx⟩
  · by_cases e : i = pre.length
    · subst e
      have : x = v := by simpa using hx.symm
      subst this
      exact cell_set_eq hu
    · have hl : i < (pre ++ [v]).length := (List.getElem?_eq_some_iff.1 hx).1
      have hi : i < pre.length := by simp at hl; omega
      rw [List.getElem?_append_left hi] at hx
      exact (cell_set_ne (by omega)).trans (h.pre i x hx)
  · rw [World.frozen?_setCell]; exact h.free i

theorem seg_at {α : Type} {xs rest : List α} {k m : Nat} {segL : List (List α)} (h : xs.drop k = segL.flatten ++ rest) (hm : m < segL.length) :
    (∃ r, xs.drop (k + (segL.take m).flatten.length) = segL[m] ++ r) ∧ (segL.take (m + 1)).flatten.length = (segL.take m).flatten.length + segL[m].length := by
  have e : segL = segL.take m ++ segL[m] :: segL.drop (m + 1) := by rw [List.getElem_cons_drop, List.take_append_drop]
  constructor
  · refine ⟨(segL.drop (m + 1)).flatten ++ rest, ?_⟩
    rw [← List.drop_drop, h]
    conv => lhs; rw [e]
    simp only [List.flatten_append, List.flatten_cons, List.append_assoc]
    rw [List.drop_left' (by simp [List.take_append, List.take_take])]
  · rw [List.take_succ_eq_append_getElem hm, List.flatten_append, List.length_append, List.flatten_singleton]

set_option maxHeartbeats 4000000 in
theorem choose_step (s : Spot) (Fx : World → Prop) (ok : s.Ok Fx) (xs : List (List Int)) (pre : List Int) (cnt : Nat) (V A : World) (k : Nat) (J Jx : Nat → (Nat → Prop) → World → Prop) (T T' : Nat → Prop)
   (hw : pre.length < 5) (q : Option Addr) (capt : Nat) (lt : List Trial) (hk2 : s.k2 = .slice q lt.length capt) (hlt : lt.length ≤ 6)
   (hFT : ∀ W, Fx W → lt = [] ∨ ∃ bT oT, q = some ⟨bT, oT, none⟩ ∧ TrialsAt W bT oT lt)
   (hc : s.hi pre.length - s.lo pre.length + 1 = cnt) (hc4 : cnt ≤ 4) (hlo : 0 ≤ s.lo pre.length ∧ s.lo pre.length ≤ 100)
   (segf : Int → List (List Int)) (fbB : Int → Bool)
   (hfb : ∀ v n0 n4 : Int, (pre.length = 0 → n0 = v) → (pre.length = 4 → n4 = v) → (lt.any fun t => forbidsB s.boy n0 n4 t.boy t.week t.note t.sang pre.length) = fbB v)
   (hsf : ∀ v, fbB v = true → segf v = [])
   (IH : ∀ v k T' A, s.lo pre.length ≤ v → v ≤ s.hi pre.length → fbB v = false → OwnR s Fx A → OwnT s A (pre ++ [v]) → Good s V T T' A → J k T' A → (∃ rest, xs.drop k = segf v ++ rest) →
      CallsIn Fence.wide 0 Tryz.prog 113 #[.int .i64 ((pre.length : Int) + 1), .pointer (some ⟨s.bt, 0, none⟩), .pointer (some ⟨s.byy, 0, none⟩), .pointer (some ⟨s.bs, 0, none⟩), .pointer (some ⟨s.bc, 0, none⟩), .pointer (some ⟨s.bh, 0, none⟩)] A (ChooseP s Fx (pre ++ [v]) (segf v).length k xs.length J Jx T' A))
   (segL : List (List (List Int))) (hsegL : segL = (List.range cnt).map fun m : Nat => segf (s.lo pre.length + (m : Int)))
   (hR : OwnR s Fx A) (hO : OwnT s A pre) (g : Good s V T T' A)
   (hseg : ∃ rest, xs.drop k = segL.flatten ++ rest)
   (hJ : ∀ k T' A B, J k T' A → Quiet V.heap.size T' A B → J k T' B)
   (h0 : J k T' A) :
   CallsIn Fence.wide 0 Tryz.prog 113 #[.int .i64 (pre.length : Int), .pointer (some ⟨s.bt, 0, none⟩), .pointer (some ⟨s.byy, 0, none⟩), .pointer (some ⟨s.bs, 0, none⟩), .pointer (some ⟨s.bc, 0, none⟩), .pointer (some ⟨s.bh, 0, none⟩)] A (ChooseP s Fx pre segL.flatten.length k xs.length J Jx T' A) := by
  have H0 := Lib.hid h0; clear h0
  have HJ := Lib.hid hJ; clear hJ
  have HIH := Lib.hid IH; clear IH
  have HFB := Lib.hid hfb; clear hfb
  have HSF := Lib.hid hsf; clear hsf
  have HSL := Lib.hid hsegL; clear hsegL
  have HSEG := Lib.hid hseg; clear hseg
  have HFT := Lib.hid hFT; clear hFT
  have HO := Lib.hid hO; clear hO
  have HR := Lib.hid hR; clear hR
  have HG := Lib.hid g; clear g
  have HP : Hid (pre.length = pre.length) := Lib.hid rfl
  generalize hwe : pre.length = which at *
  have hne : decide ((which : Int) = 5) = false := by simp; omega
  have hne2 : ¬ ((which : Int) = 5) := by omega
  have hne3 : ((which : Int) == 5) = false := by simpa using hne2
  obtain ⟨s1, s2⟩ := HR.out.sp which hw
  generalize hrr : ChooseP s Fx pre segL.flatten.length k xs.length J Jx T' A = RR
  refine callsIn_of_wp Tryz.func113 rfl trivial ?_ rfl
  simp only [Tryz.ntmps113, List.size_toArray, List.length_cons, List.length_nil, Nat.reduceAdd, Nat.reduceSub, Array.replicate_succ, Array.replicate_zero, List.push_toArray, List.append_toArray, List.nil_append, List.cons_append]
  gi_wp2
  refine wpIn_scope_calm (fun _ _ _ h => h.elim) ?_
  gi_wp2_with fail
  refine wpIn_label ?_
  have b0 : (A.alloc (Obj.cells #[Value.int IntKind.i64 (s.lo which), Value.int IntKind.i64 (s.hi which)] 35)).cell? ⟨A.heap.size, 0, none⟩ = some (.int .i64 (s.lo which)) := by go_simp
  have b1 : (A.alloc (Obj.cells #[Value.int IntKind.i64 (s.lo which), Value.int IntKind.i64 (s.hi which)] 35)).cell? ⟨A.heap.size, 1, none⟩ = some (.int .i64 (s.hi which)) := by go_simp
  have hkA : Kept A (A.alloc (Obj.cells #[Value.int IntKind.i64 (s.lo which), Value.int IntKind.i64 (s.hi which)] 35)) := kept_alloc (kept_refl _) _
  have hzA : A.heap.size < (A.alloc (Obj.cells #[Value.int IntKind.i64 (s.lo which), Value.int IntKind.i64 (s.hi which)] 35)).heap.size := by simp
  generalize A.alloc (Obj.cells #[Value.int IntKind.i64 (s.lo which), Value.int IntKind.i64 (s.hi which)] 35) = W0 at *
  gi_wp2_with fail
  gi_loopw [31] (fun i W => ∃ (m : Nat) (T1 : Nat → Prop), m ≤ cnt ∧ i = .int .i64 m ∧ Ext (A.heap.size + 1) T' T1 ∧ (∀ b, T1 b → b < W.heap.size) ∧ Turns (fun b => T1 b ∨ b = s.bt) A W ∧ J (k + (segL.take m).flatten.length) T1 W ∧ OwnT s W pre ∧
      W.cell? ⟨A.heap.size, 0, none⟩ = some (.int .i64 (s.lo which)) ∧ W.cell? ⟨A.heap.size, 1, none⟩ = some (.int .i64 (s.hi which)) ∧ A.heap.size < W.heap.size) (fun i W => cnt - (intOf i).toNat)
  case atStart =>
    refine ⟨0, T', by omega, rfl, Ext.refl _ _, fun b hb => Nat.lt_of_lt_of_le (HG.out.small b hb) (bcell hkA).2.2, kturns hkA _, ?_, HO.out.turns (kturns hkA (fun _ => False)) (fun h => h), b0, b1, hzA⟩
    exact HJ.out _ _ _ _ H0.out (HG.out.quiet (kturns hkA _))
  case round =>
    obtain ⟨m, T1, hm, rfl, hE1, hz1, hT1, hJ1, hO1, d0, d1, hzw⟩ := hrel
    obtain ⟨Wo, hWo⟩ : ∃ W, W = wr := ⟨_, rfl⟩
    subst hWo
    have HG1 := Lib.hid (HG.out.step (hE1.less (by omega)) hz1 hT1)
    clear b0 b1
    have HJ1 := Lib.hid hJ1; clear hJ1
    have HO1 := Lib.hid hO1; clear hO1
    have HT1 := Lib.hid hT1; clear hT1
    by_cases hlt2 : m < cnt
    · have hml : m < segL.length := by rw [HSL.out]; simpa using hlt2
      have hsm : (∃ r, xs.drop (k + (segL.take m).flatten.length) = segf (s.lo which + m) ++ r) ∧ (segL.take (m + 1)).flatten.length = (segL.take m).flatten.length + (segf (s.lo which + m)).length := by
        obtain ⟨rest, hr⟩ := HSEG.out
        have := seg_at hr hml
        have e : segL[m] = segf (s.lo which + m) := by simp [HSL.out]
        rwa [e] at this
      have HSM := Lib.hid hsm; clear hsm
      have HIDEND : Hid (∀ (B : World) , Turns (fun b => b = s.bt) Wo B → fbB (s.lo which + m) = true → OwnT s B pre → B.cell? ⟨A.heap.size, 0, none⟩ = some (.int .i64 (s.lo which)) → B.cell? ⟨A.heap.size, 1, none⟩ = some (.int .i64 (s.hi which)) →
          ∃ (m' : Nat) (T1 : Nat → Prop), m' ≤ cnt ∧ Value.int .i64 ((m : Int) + 1) = .int .i64 m' ∧ Ext (A.heap.size + 1) T' T1 ∧ (∀ b, T1 b → b < B.heap.size) ∧ Turns (fun b => T1 b ∨ b = s.bt) A B ∧ J (k + (segL.take m').flatten.length) T1 B ∧ OwnT s B pre ∧
                B.cell? ⟨A.heap.size, 0, none⟩ = some (.int .i64 (s.lo which)) ∧ B.cell? ⟨A.heap.size, 1, none⟩ = some (.int .i64 (s.hi which)) ∧ A.heap.size < B.heap.size) := Lib.hid (by
        intro B hB hf ho h0 h1
        refine ⟨m + 1, T1, by omega, by simp, hE1, fun b hb => Nat.lt_of_lt_of_le (hz1 b hb) hB.size, HT1.out.trans (Ext.refl _ _) (hB.mono fun _ _ h => .inr h), ?_, ho, h0, h1, by have := hB.size; omega⟩
        have := HJ.out _ _ _ _ HJ1.out (HG1.out.quiet hB)
        rw [HSM.out.2, HSF.out _ hf]
        simpa using this)
      have hltI : (m : Int) < cnt := by omega
      obtain ⟨vo, hvo⟩ := HO1.out.num which hw
      have hfr := HO1.out.free (5 + which)
      have hcb : s.bc ≠ s.bt := fun h => ok.t1 (h ▸ ok.c1)
      have hgS : ∀ b, s.S b → ¬ (T1 b ∨ b = s.bt) := fun b hb h => by
        rcases h with h | rfl
        · rcases hE1.out b h with h | h
          · exact HG.out.offS b hb h
          · have := HG.out.zs b hb; omega
        · exact ok.t1 hb
      have HRw := Lib.hid (HR.out.turns ok HT1.out hgS)
      have c2r : Wo.cell? ⟨s.bc, 2, none⟩ = some (.slice q lt.length capt) := hk2 ▸ HRw.out.c2
      have ht12 : Turns (fun b => b = s.bt) Wo (Wo.setCell ⟨s.bt, 5 + which, none⟩ (.int .i64 (s.lo which + m))) := Turns.setCell (T := fun b => b = s.bt) (Turns.refl _ _) rfl _ _
      have HT12 := Lib.hid ht12; clear ht12
      have HO2 : Hid (OwnT s (Wo.setCell ⟨s.bt, 5 + which, none⟩ (.int .i64 (s.lo which + m))) (pre ++ [s.lo which + m])) := Lib.hid (by rw [← hwe]; exact HO1.out.set (by omega) _)
      gi_wp2_with fail
      generalize Wo.setCell ⟨s.bt, 5 + which, none⟩ (.int .i64 (s.lo which + m)) = W1 at *
      have HR2 := Lib.hid (HRw.out.turns ok HT12.out (fun b hb h => ok.t1 (h ▸ hb)))
      have e0 := tcell HT12.out (fun h => by have := HG.out.zt; omega) d0
      have e1 := tcell HT12.out (fun h => by have := HG.out.zt; omega) d1
      obtain ⟨n0, q0⟩ := HO2.out.num 0 (by omega)
      obtain ⟨n1, q1⟩ := HO2.out.num 1 (by omega)
      obtain ⟨n2, q2⟩ := HO2.out.num 2 (by omega)
      obtain ⟨n3, q3⟩ := HO2.out.num 3 (by omega)
      obtain ⟨n4, q4⟩ := HO2.out.num 4 (by omega)
      have HQ : Hid ((lt.any fun t => forbidsB s.boy n0 n4 t.boy t.week t.note t.sang which) = fbB (s.lo which + m)) := Lib.hid (HFB.out _ _ _ (fun h => by
        have := HO2.out.pre 0 (s.lo which + m) (by rw [h] at hwe; simp [List.eq_nil_of_length_eq_zero hwe])
        rw [q0] at this; cases this; rfl) (fun h => by
        have := HO2.out.pre 4 (s.lo which + m) (by rw [List.getElem?_append_right (by omega)]; simp [hwe, h])
        rw [q4] at this; cases this; rfl))
      simp only [Nat.add_zero, Nat.reduceAdd] at q0 q1 q2 q3 q4
      clear d0 d1 hvo hfr c2r vo
      gi_loopw [45] (fun i W => ∃ j : Nat, j ≤ lt.length ∧ i = .int .i64 j ∧ (∀ j' t, j' < j → lt[j']? = some t → forbidsB s.boy n0 n4 t.boy t.week t.note t.sang which = false) ∧ Kept W1 W) (fun i W => lt.length - (intOf i).toNat)
      case atStart => exact ⟨0, by omega, rfl, fun j' t h => by omega, kept_refl _⟩
      case round =>
        obtain ⟨j, hj, rfl, hno, hk3⟩ := hrel
        rename_i wq
        have HNO := Lib.hid hno; clear hno
        by_cases hlt3 : j < lt.length
        · have hltI3 : (j : Int) < lt.length := by omega
          have hget : lt[j]? = some lt[j] := List.getElem?_eq_getElem hlt3
          have hmem : lt[j] ∈ lt := List.getElem_mem hlt3
          generalize lt[j] = t at *
          have HR3 := Lib.hid (HR2.out.turns ok (kturns hk3 (fun _ => False)) (fun _ _ h => h))
          have HO3 := Lib.hid (HO2.out.turns (kturns hk3 (fun _ => False)) (fun h => h))
          rcases HFT.out _ HR3.out.fx with h00 | ⟨bT, oT, rfl, hTT⟩
          · rw [h00] at hmem; cases hmem
          obtain ⟨c0, c1, c2, c3⟩ := hTT.2 j t hget
          have HG3 := Lib.hid hget; clear hget hTT
          have f0 := kcell hk3 q0
          have f1 := kcell hk3 q1
          have f2 := kcell hk3 q2
          have f3 := kcell hk3 q3
          have f4 := kcell hk3 q4
          obtain ⟨g0, g1, g2, g3, g4, _, _, _⟩ := HO3.out
          have hbtz := Go.Ai.lt_of_cell g0
          gi_wp2_with fail
          refine ⟨trivial, rfl, (callsIn_wide.2 (forbids_any _ _ _ _ _ _ _ _ _ _ _ _ _ _ _ _)).mono ?_⟩
          rintro e w' ⟨rfl, hk4⟩
          have hk5 := kept_trans hk3 (kept_trans (kept_alloc (kept_refl _) _) hk4)
          clear f0 f1 f2 f3 f4 g0 g1 g2 g3 g4 c0 c1 c2 c3 hk4
          rcases hv : forbidsB s.boy n0 n4 t.boy t.week t.note t.sang which with _ | _
          · have HNEW : Hid (∀ j' t, j' < j + 1 → lt[j']? = some t → forbidsB s.boy n0 n4 t.boy t.week t.note t.sang which = false) := Lib.hid (by
              intro j' y hj hg
              by_cases e : j' = j
              · subst e; rw [HG3.out] at hg; cases hg; exact hv
              · exact HNO.out j' y (by omega) hg)
            clear hv
            gi_wp2_with fail
            go_roundw
            case rel => exact ⟨j + 1, by omega, by go_num, HNEW.out, hk5⟩
            case measure => simp [intOf]; omega
          · have HF : Hid (fbB (s.lo which + m) = true) := Lib.hid (by
              rw [← HQ.out, List.any_eq_true]
              exact ⟨t, hmem, hv⟩)
            clear hv
            have HEND := Lib.hid (HIDEND.out w' (HT12.out.trans (Ext.refl _ _) (kturns hk5 _)) HF.out (HO2.out.less.turns (kturns hk5 (fun _ => False)) (fun h => h)) (kcell hk5 e0) (kcell hk5 e1))
            gi_wp2_with fail
            go_roundw
            case rel => exact HEND.out
            case measure => simp [intOf]; omega
        · have hltI3 : ¬ (j : Int) < lt.length := by omega
          have HF : Hid (fbB (s.lo which + m) = false) := Lib.hid (by
              rw [← HQ.out, List.any_eq_false]
              intro t ht
              obtain ⟨j', hj', rfl⟩ := List.getElem_of_mem ht
              simp [HNO.out j' _ (by omega) (List.getElem?_eq_getElem hj')])
          have HR3 := Lib.hid (HR2.out.turns ok (kturns hk3 (fun _ => False)) (fun _ _ h => h))
          have HO3 := Lib.hid (HO2.out.turns (kturns hk3 (fun _ => False)) (fun h => h))
          have hh := HR3.out.h
          have HTo : Hid (Turns (fun b => b = s.bt) Wo wr) := Lib.hid (HT12.out.trans (Ext.refl _ _) (kturns hk3 _))
          have HJ3 := Lib.hid (HJ.out _ _ _ _ HJ1.out (HG1.out.quiet HTo.out))
          have HG3 := Lib.hid (HG1.out.step (Ext.refl _ _) (fun b hb => Nat.lt_of_lt_of_le (hz1 b hb) HTo.out.size) (HTo.out.mono fun _ _ h => .inr h))
          have HTUP : Hid (∀ (T2 : Nat → Prop) (B : World), (∀ b, T1 b → T2 b) → Turns (fun b => T2 b ∨ b = s.bt) wr B → Turns (fun b => T2 b ∨ b = s.bt) A B) := Lib.hid (fun T2 B hu hB =>
            ((HT1.out.mono (T' := fun b => T2 b ∨ b = s.bt) fun b _ h => h.imp (hu b) id).trans (Ext.refl _ _) (HTo.out.mono fun _ _ h => .inr h)).trans (Ext.refl _ _) hB)
          have k0 := kcell hk3 e0
          have k1 := kcell hk3 e1
          gi_wp2_with fail
          refine ⟨trivial, rfl, (HIH.out (s.lo which + m) _ _ _ (by omega) (by omega) HF.out HR3.out HO3.out HG3.out HJ3.out HSM.out.1).mono ?_⟩
          rintro e w' ⟨T2, hE2, hz2, hT2, (⟨rfl, hJ2, hO4⟩ | ⟨rfl, j2, hj2, hJx⟩)⟩
          · have HEND : Hid (∃ (m' : Nat) (T1 : Nat → Prop), m' ≤ cnt ∧ Value.int .i64 ((m : Int) + 1) = .int .i64 m' ∧ Ext (A.heap.size + 1) T' T1 ∧ (∀ b, T1 b → b < w'.heap.size) ∧ Turns (fun b => T1 b ∨ b = s.bt) A w' ∧ J (k + (segL.take m').flatten.length) T1 w' ∧ OwnT s w' pre ∧
                w'.cell? ⟨A.heap.size, 0, none⟩ = some (.int .i64 (s.lo which)) ∧ w'.cell? ⟨A.heap.size, 1, none⟩ = some (.int .i64 (s.hi which)) ∧ A.heap.size < w'.heap.size) := Lib.hid (by
              have hno : ¬ (T2 A.heap.size ∨ A.heap.size = s.bt) := by
                have := HG.out.zt
                have := HTo.out.size
                rintro (h | h)
                · rcases hE2.out _ h with h | h
                  · rcases hE1.out _ h with h | h
                    · have := HG.out.small _ h; omega
                    · omega
                  · omega
                · omega
              have hzz := HTo.out.size
              refine ⟨m + 1, T2, by omega, by simp, hE1.trans hE2 (by omega), hz2, ?_, ?_, hO4.less, tcell hT2 hno k0, tcell hT2 hno k1, by have := hT2.size; omega⟩
              · exact HTUP.out T2 _ hE2.up hT2
              · rw [HSM.out.2]; rw [Nat.add_assoc] at hJ2; exact hJ2)
            gi_wp2_with fail
            go_roundw
            case rel => exact HEND.out
            case measure => simp [intOf]; omega
          · clear k0 k1
            gi_wp2_with fail
            subst hrr
            exact ⟨T2, (hE1.less (by omega)).trans hE2 (by have := HTo.out.size; omega), hz2, HTUP.out T2 _ hE2.up hT2, .inr ⟨by first | rfl | simp, j2, hj2, hJx⟩⟩
    · have hltI : ¬ (m : Int) < cnt := by omega
      gi_wp2_with fail
      subst hrr
      have hme : m = cnt := by omega
      refine ⟨T1, hE1.less (by omega), hz1, HT1.out, .inl ⟨rfl, ?_, HO1.out⟩⟩
      have := HJ1.out
      rw [List.take_of_length_le (by rw [HSL.out]; simp [hme])] at this
      exact this
end Go.Proofs.YthgfbokfaidklaaGreatDoor
set_option linter.all false
namespace Go.Proofs.YthgfbokfaidklaaGreatDoor
open Go.RowKit Go.Sort Go.Rg
set_option maxRecDepth 100000

/-- is a number of this kind forbidden by some trial? -/
def fbAt (boy : Int) (lt : List Trial) (which : Nat) (v : Int) : Bool := lt.any fun t => forbidsB boy v v t.boy t.week t.note t.sang which
theorem fbAt_eq (boy : Int) (lt : List Trial) (which : Nat) (v n0 n4 : Int) (h0 : which = 0 → n0 = v) (h4 : which = 4 → n4 = v) : (lt.any fun t => forbidsB boy n0 n4 t.boy t.week t.note t.sang which) = fbAt boy lt which v := by
  unfold fbAt
  congr 1
  funext t
  unfold forbidsB
  by_cases e0 : which = 0
  · subst e0; rw [h0 rfl]; simp
  · by_cases e4 : which = 4
    · subst e4; rw [h4 rfl]; simp
    · have a : ¬ (which : Int) = 0 := by omega
      have b : ¬ (which : Int) = 4 := by omega
      simp [a, b, e0, e4]
/-- all numbers behind these that no trial forbids and that keep all trials -/
def gen (lo hi : Nat → Int) (boy : Int) (lt : List Trial) (kp : List Int → Bool) : Nat → List Int → List (List Int)
  | 0, pre => if kp pre then [pre] else []
  | d + 1, pre => (((List.range (hi pre.length - lo pre.length + 1).toNat).map fun m : Nat => if fbAt boy lt pre.length (lo pre.length + (m : Int)) then [] else gen lo hi boy lt kp d (pre ++ [lo pre.length + (m : Int)]))).flatten

def Rng (lo hi : Nat → Int) (pre : List Int) : Prop := ∀ i v, pre[i]? = some v → lo i ≤ v ∧ v ≤ hi i
theorem Rng.snoc {lo hi : Nat → Int} {pre : List Int} {v : Int} (h : Rng lo hi pre) (h1 : lo pre.length ≤ v) (h2 : v ≤ hi pre.length) : Rng lo hi (pre ++ [v]) := fun i x hx => by
  by_cases e : i = pre.length
  · subst e
    have : x = v := by simpa using hx.symm
    subst this
    exact ⟨h1, h2⟩
  · have hl : i < (pre ++ [v]).length := (List.getElem?_eq_some_iff.1 hx).1
    have hi : i < pre.length := by simp at hl; omega
    rw [List.getElem?_append_left hi] at hx
    exact h i x hx

theorem choose_any (s : Spot) (Fx : World → Prop) (ok : s.Ok Fx) (xs : List (List Int)) (V : World) (J Jx : Nat → (Nat → Prop) → World → Prop) (T : Nat → Prop)
   (q : Option Addr) (capt : Nat) (lt : List Trial) (hk2 : s.k2 = .slice q lt.length capt) (hlt : lt.length ≤ 6)
   (hFT : ∀ W, Fx W → lt = [] ∨ ∃ bT oT, q = some ⟨bT, oT, none⟩ ∧ TrialsAt W bT oT lt)
   (hsp : ∀ i, i < 5 → 0 ≤ s.lo i ∧ s.lo i ≤ 100 ∧ s.lo i ≤ s.hi i ∧ s.hi i ≤ s.lo i + 3) (kp : List Int → Bool)
   (hkeep : ∀ x A, x.length = 5 → Rng s.lo s.hi x → Fx A → Calls Tryz.prog 114 #[s.enc x] A fun e B => e = .returned (.bool (kp x)) ∧ Kept A B)
   (hJ : ∀ k T' A B, J k T' A → Quiet V.heap.size T' A B → J k T' B)
   (hY : ∀ k x T' A, xs[k]? = some x → Good s V T T' A → J k T' A → RoundTold Tryz.prog s.l (s.enc x) k J Jx T' A) :
   ∀ (d : Nat) (pre : List Int) (k : Nat) (T' : Nat → Prop) (A : World), pre.length + d = 5 → Rng s.lo s.hi pre → OwnR s Fx A → OwnT s A pre → Good s V T T' A → J k T' A → (∃ rest, xs.drop k = gen s.lo s.hi s.boy lt kp d pre ++ rest) →
   CallsIn Fence.wide 0 Tryz.prog 113 #[.int .i64 (pre.length : Int), .pointer (some ⟨s.bt, 0, none⟩), .pointer (some ⟨s.byy, 0, none⟩), .pointer (some ⟨s.bs, 0, none⟩), .pointer (some ⟨s.bc, 0, none⟩), .pointer (some ⟨s.bh, 0, none⟩)] A
     (ChooseP s Fx pre (gen s.lo s.hi s.boy lt kp d pre).length k xs.length J Jx T' A)
  | 0, pre, k, T', A, hl, hr, hR, hO, g, h0, hs => by
    match pre, hl with
    | [n0, n1, n2, n3, n4], _ =>
      have := choose_end s Fx ok xs n0 n1 n2 n3 n4 (kp [n0, n1, n2, n3, n4]) V A k J Jx T T' hR hO g (hkeep _ _ rfl hr hR.fx) (by simpa [gen] using hs) hJ hY h0
      have e : (gen s.lo s.hi s.boy lt kp 0 [n0, n1, n2, n3, n4]).length = if kp [n0, n1, n2, n3, n4] then 1 else 0 := by
        unfold gen; split <;> rfl
      rw [e]
      exact this
  | d + 1, pre, k, T', A, hl, hr, hR, hO, g, h0, hs => by
    have hb := hsp pre.length (by omega)
    refine choose_step s Fx ok xs pre (s.hi pre.length - s.lo pre.length + 1).toNat V A k J Jx T T' (by omega) q capt lt hk2 hlt hFT (by omega) (by omega) ⟨hb.1, hb.2.1⟩
      (fun v => if fbAt s.boy lt pre.length v then [] else gen s.lo s.hi s.boy lt kp d (pre ++ [v])) (fbAt s.boy lt pre.length) (fun v n0 n4 h0 h4 => fbAt_eq _ _ _ _ _ _ h0 h4) (fun v hv => by simp [hv])
      (fun v k T' A h1 h2 hf hR hO g h0 hs => ?_) _ rfl hR hO g hs hJ h0
    have := choose_any s Fx ok xs V J Jx T q capt lt hk2 hlt hFT hsp kp hkeep hJ hY d (pre ++ [v]) k T' A (by simp; omega) (hr.snoc h1 h2) hR hO g h0 (by simpa [hf] using hs)
    simp only [hf, Bool.false_eq_true, if_false]
    have e : ((pre ++ [v]).length : Int) = (pre.length : Int) + 1 := by simp
    rw [e] at this
    exact this
end Go.Proofs.YthgfbokfaidklaaGreatDoor
set_option linter.all false
namespace Go.Proofs.YthgfbokfaidklaaGreatDoor
open Go.RowKit Go.Sort Go.Rg
set_option maxRecDepth 100000
attribute [local go_sem] Oper.semAt_some

structure Choir where
  bb : Nat
  ob : Nat
  capb : Nat
  capt : Nat
  q : Option Addr
  bm : Nat
  B : Book
def Choir.k0 (c : Choir) : Value := .slice (some ⟨c.bb, c.ob, none⟩) c.B.boys.length c.capb
def Choir.m (c : Choir) : Value := .map (some c.bm)
def Choir.k2 (c : Choir) : Value := .slice c.q c.B.trials.length c.capt

/-- a map of trials tells these at a key; S: the blocks that it reads -/
def Look2 (S : Nat → Prop) (W : World) (bm : Nat) (boy wk : Nat) (l : List Trial) : Prop :=
  ∃ v, S bm ∧ bm < W.heap.size ∧ (∀ W', W'.heap[bm]? = W.heap[bm]? → (Instr.lookup 90 (.map (some bm)) (.agg #[.int .i64 boy, .int .i64 wk]) false).run Tryz.prog W' = .ok v W') ∧
    ((v = .slice none 0 0 ∧ l = []) ∨ ∃ b o cap, v = .slice (some ⟨b, o, none⟩) l.length cap ∧ S b ∧ TrialsAt W b o l)
theorem TrialsAt.turns {A B : World} {U : Nat → Prop} {b o : Nat} {l : List Trial} (h : TrialsAt A b o l) (k : Turns U A B) (hu : ¬ U b) : TrialsAt B b o l :=
  ⟨Nat.lt_of_lt_of_le h.1 k.size, fun i t hi => by
    obtain ⟨c0, c1, c2, c3⟩ := h.2 i t hi
    exact ⟨tcell k hu c0, tcell k hu c1, tcell k hu c2, tcell k hu c3⟩⟩
theorem BoysAt.turns {A B : World} {U : Nat → Prop} {b o : Nat} {l : List Boy} (h : BoysAt A b o l) (k : Turns U A B) (hu : ¬ U b) : BoysAt B b o l :=
  ⟨Nat.lt_of_lt_of_le h.1 k.size, fun i x hi => by
    obtain ⟨c0, c1, c2, c3, c4, c5, c6, c7, c8, c9, c10⟩ := h.2 i x hi
    exact ⟨tcell k hu c0, tcell k hu c1, tcell k hu c2, tcell k hu c3, tcell k hu c4, tcell k hu c5, tcell k hu c6, tcell k hu c7, tcell k hu c8, tcell k hu c9, tcell k hu c10⟩⟩
theorem Look2.turns {S : Nat → Prop} {A B : World} {U : Nat → Prop} {bm : Nat} {boy wk : Nat} {l : List Trial} (h : Look2 S A bm boy wk l) (k : Turns U A B) (hu : ∀ b, S b → ¬ U b) : Look2 S B bm boy wk l := by
  obtain ⟨v, hs, hz, hl, hv⟩ := h
  have hb := k.block bm hz (hu _ hs)
  refine ⟨v, hs, Nat.lt_of_lt_of_le hz k.size, fun W' hW' => hl W' (hW'.trans hb), ?_⟩
  rcases hv with hv | ⟨b, o, cap, e2, hs2, ht⟩
  · exact .inl hv
  · exact .inr ⟨b, o, cap, e2, hs2, ht.turns k (hu _ hs2)⟩
theorem Look2.looks {S : Nat → Prop} {W : World} {bm : Nat} {boy wk : Nat} {l : List Trial} (h : Look2 S W bm boy wk l) : LooksAt W (.map (some bm)) boy wk l := by
  obtain ⟨v, hs, hz, hl, hv⟩ := h
  refine ⟨v, fun W' hk => hl W' (hk.block bm hz), ?_⟩
  rcases hv with hv | ⟨b, o, cap, e2, hs2, ht⟩
  · exact .inl hv
  · exact .inr ⟨b, o, cap, e2, ht⟩

def Book.told (B : Book) (boy wk : Nat) : List Trial := B.trials.filter fun t => decide (t.boy = (boy : Int)) && decide (t.week = (wk : Int))
structure ChoirAt (S : Nat → Prop) (W : World) (c : Choir) : Prop where
  ok : c.B.okB = true
  sb : S c.bb
  boys : BoysAt W c.bb c.ob c.B.boys
  trials : c.B.trials = [] ∨ ∃ b o, c.q = some ⟨b, o, none⟩ ∧ S b ∧ TrialsAt W b o c.B.trials
  looks : ∀ boy wk : Nat, boy < c.B.boys.length → (wk : Int) < c.B.weeks → Look2 S W c.bm boy wk (c.B.told boy wk)
  room : c.B.trials.length ≤ c.capt
theorem ChoirAt.turns {S : Nat → Prop} {A B : World} {U : Nat → Prop} {c : Choir} (h : ChoirAt S A c) (k : Turns U A B) (hu : ∀ b, S b → ¬ U b) : ChoirAt S B c where
  ok := h.ok
  sb := h.sb
  boys := h.boys.turns k (hu _ h.sb)
  trials := h.trials.imp id fun ⟨b, o, e, hs, ht⟩ => ⟨b, o, e, hs, ht.turns k (hu _ hs)⟩
  looks := fun boy wk hb hw => (h.looks boy wk hb hw).turns k hu
  room := h.room

theorem Look2.mono {S S' : Nat → Prop} {A : World} {bm : Nat} {boy wk : Nat} {l : List Trial} (h : Look2 S A bm boy wk l) (hs : ∀ b, S b → S' b) : Look2 S' A bm boy wk l := by
  obtain ⟨v, h1, h2, h3, h4⟩ := h
  exact ⟨v, hs _ h1, h2, h3, h4.imp id fun ⟨b, o, cap, e, h5, h6⟩ => ⟨b, o, cap, e, hs _ h5, h6⟩⟩
theorem ChoirAt.mono {S S' : Nat → Prop} {A : World} {c : Choir} (h : ChoirAt S A c) (hs : ∀ b, S b → S' b) : ChoirAt S' A c where
  ok := h.ok
  sb := hs _ h.sb
  boys := h.boys
  trials := h.trials.imp id fun ⟨b, o, e, h5, h6⟩ => ⟨b, o, e, hs _ h5, h6⟩
  looks := fun boy wk hb hw => (h.looks boy wk hb hw).mono hs
  room := h.room
def Boy.lo (x : Boy) : Nat → Int
  | 0 => x.l0
  | 1 => x.h0
  | 2 => x.g0
  | 3 => x.t0
  | _ => x.b0
def Boy.hi (x : Boy) : Nat → Int
  | 0 => x.l1
  | 1 => x.h1
  | 2 => x.g1
  | 3 => x.t1
  | _ => x.b1
def kpOf (B : Book) (boy : Nat) (x : Boy) (n : List Int) : Bool :=
  (List.range B.weeks.toNat).all fun wk => !((B.told boy wk).any (TB (n.getD 0 0) (n.getD 1 0) (n.getD 2 0) (n.getD 3 0) (n.getD 4 0) x.ls))
def Book.truths (B : Book) (boy : Nat) (x : Boy) : List (List Int) := gen x.lo x.hi boy B.trials (kpOf B boy x) 5 []
theorem spanAt_ok (x : Boy) (h : x.okB = true) : (∀ i, i < 5 → 0 ≤ x.lo i ∧ x.lo i ≤ 40 ∧ x.lo i ≤ x.hi i ∧ x.hi i ≤ x.lo i + 3 ∧ x.hi i ≤ 40) ∧ 0 ≤ x.ls ∧ x.ls ≤ 2 := by
  simp only [Boy.okB, spanAt, spanB, inB, Bool.and_eq_true, decide_eq_true_eq, Bool.not_eq_true', decide_eq_false_iff_not] at h
  refine ⟨fun i hi => ?_, by omega⟩
  match i, hi with
  | 0, _ => simp only [Boy.lo, Boy.hi]; omega
  | 1, _ => simp only [Boy.lo, Boy.hi]; omega
  | 2, _ => simp only [Boy.lo, Boy.hi]; omega
  | 3, _ => simp only [Boy.lo, Boy.hi]; omega
  | 4, _ => simp only [Boy.lo, Boy.hi]; omega

theorem keeps_at (S : Nat → Prop) (c : Choir) (boy : Nat) (x : Boy) (hx : c.B.boys[boy]? = some x) (A : World) (h : ChoirAt S A c) (n0 n1 n2 n3 n4 : Int) (hr : Rng x.lo x.hi [n0, n1, n2, n3, n4]) :
    Calls Tryz.prog 114 #[.agg #[c.k0, .int .i64 c.B.weeks, c.k2, c.m, .int .i64 (boy : Int), .int .i64 n0, .int .i64 n1, .int .i64 n2, .int .i64 n3, .int .i64 n4]] A fun e B => e = .returned (.bool (kpOf c.B boy x [n0, n1, n2, n3, n4])) ∧ Kept A B := by
  have hbl : boy < c.B.boys.length := (List.getElem?_eq_some_iff.1 hx).1
  have hok := h.ok
  simp only [Book.okB, inB, Bool.and_eq_true, decide_eq_true_eq, List.all_eq_true] at hok
  obtain ⟨⟨⟨⟨⟨hb1, hb4⟩, hw1, hw6⟩, ht6⟩, hbo⟩, hto⟩ := hok
  have hxo := hbo x (List.mem_of_getElem? hx)
  obtain ⟨hsp, hls⟩ := spanAt_ok x hxo
  obtain ⟨wk, hwk⟩ := Int.eq_ofNat_of_zero_le (show 0 ≤ c.B.weeks by omega)
  have r1 := hr 1 n1 rfl
  have r2 := hr 2 n2 rfl
  have r3 := hr 3 n3 rfl
  have s1 := hsp 1 (by omega)
  have s2 := hsp 2 (by omega)
  have s3 := hsp 3 (by omega)
  have := keeps_any c.bb c.ob c.B.boys.length c.capb c.k2 c.m wk boy n0 n1 n2 n3 n4 x.ls (c.B.told boy) A hbl (by omega) (h.boys.2 boy x hx).2.2.2.2.2.2.2.2.1 h.boys.1 (by omega) (by omega) (by omega) (by omega) (by omega)
    (fun k hk => (h.looks boy k hbl (by omega)).looks) (fun k hk => Nat.le_trans (List.length_filter_le _ _) ht6) (fun k hk t ht => by
      have := (List.mem_filter.1 ht).2
      simp only [Bool.and_eq_true, decide_eq_true_eq] at this
      omega)
  rw [hwk]
  refine this.mono ?_
  rintro e B ⟨r, hr, rfl, hk⟩
  refine ⟨?_, hk⟩
  have : r = kpOf c.B boy x [n0, n1, n2, n3, n4] := by
    rw [Bool.eq_iff_iff]
    unfold KeepsP at hr
    rw [hr, kpOf, List.all_eq_true, hwk]
    simp
  rw [this]
end Go.Proofs.YthgfbokfaidklaaGreatDoor
set_option linter.all false
namespace Go.Proofs.YthgfbokfaidklaaGreatDoor
open Go.RowKit Go.Sort Go.Rg
set_option maxRecDepth 100000
attribute [local go_sem] Oper.semAt_some

def encT (c : Choir) (boy : Nat) (n : List Int) : Value := .agg (#[c.k0, .int .i64 c.B.weeks, c.k2, c.m, .int .i64 (boy : Int)] ++ (n.map (Value.int .i64)).toArray)
/-- the boxes of an iterator of truths -/
structure TruthsAt (S : Nat → Prop) (c : Choir) (boy bc by' : Nat) (W : World) : Prop where
  at' : ChoirAt S W c
  c0 : W.cell? ⟨bc, 0, none⟩ = some c.k0
  c1 : W.cell? ⟨bc, 1, none⟩ = some (.int .i64 c.B.weeks)
  c2 : W.cell? ⟨bc, 2, none⟩ = some c.k2
  c3 : W.cell? ⟨bc, 3, none⟩ = some c.m
  b0 : W.cell? ⟨by', 0, none⟩ = some (.int .i64 (boy : Int))

set_option maxHeartbeats 4000000 in
theorem truths1_gives (S : Nat → Prop) (c : Choir) (boy : Nat) (x : Boy) (hx : c.B.boys[boy]? = some x) (bc by' : Nat) :
    Gives Tryz.prog 112 #[.pointer (some ⟨bc, 0, none⟩), .pointer (some ⟨by', 0, none⟩)] (encT c boy) (c.B.truths boy x) (fun b => S b ∨ b = bc ∨ b = by') (TruthsAt S c boy bc by') := by
  intro l T J Jx V hT hS hD hJ hJx hY h0
  obtain ⟨hat, c0, c1, c2, c3, b0⟩ := hD
  have hbl : boy < c.B.boys.length := (List.getElem?_eq_some_iff.1 hx).1
  obtain ⟨x0, x1, x2, x3, x4, x5, x6, x7, x8, x9, x10⟩ := hat.boys.2 boy x hx
  have hok := hat.ok
  simp only [Book.okB, inB, Bool.and_eq_true, decide_eq_true_eq, List.all_eq_true] at hok
  obtain ⟨⟨⟨⟨⟨hb1, hb4⟩, hw1, hw6⟩, ht6⟩, hbo⟩, hto⟩ := hok
  have hzb := hat.boys.1
  have hzc := Go.Ai.lt_of_cell c0
  have hzy := Go.Ai.lt_of_cell b0
  have hxo := hbo x (List.mem_of_getElem? hx)
  have HX := Lib.hid hxo; clear hxo hbo hto
  have HJ := Lib.hid hJ; clear hJ
  have HJX := Lib.hid hJx; clear hJx
  have HY := Lib.hid hY; clear hY
  have H0 := Lib.hid h0; clear h0
  have HT := Lib.hid hT; clear hT
  have HS := Lib.hid hS; clear hS
  have HA := Lib.hid hat; clear hat
  have HXX := Lib.hid hx; clear hx
  unfold Choir.k0 at c0
  unfold Choir.k2 at c2
  unfold Choir.m at c3
  refine (callsIn_wide (n := 0)).1 (callsIn_of_wp Tryz.func112 rfl trivial ?_ rfl)
  simp only [Tryz.ntmps112, List.size_toArray, List.length_cons, List.length_nil, Nat.reduceAdd, Nat.reduceSub, Array.replicate_succ, Array.replicate_zero, List.push_toArray, List.append_toArray, List.nil_append, List.cons_append]
  gi_wp2_with fail
  have y0 : ((V.alloc (Obj.cells #[Value.func (Fn.yield l) #[] #[]] 103)).alloc (Obj.cells #[.slice (some ⟨c.bb, c.ob, none⟩) c.B.boys.length c.capb, .int .i64 c.B.weeks, .slice c.q c.B.trials.length c.capt, .map (some c.bm), .int .i64 (boy : Int), .int .i64 0, .int .i64 0, .int .i64 0, .int .i64 0, .int .i64 0] 100)).cell? ⟨V.heap.size, 0, none⟩ = some (Value.func (Fn.yield l) #[] #[]) := by go_simp
  have hkV : Kept V ((V.alloc (Obj.cells #[Value.func (Fn.yield l) #[] #[]] 103)).alloc (Obj.cells #[.slice (some ⟨c.bb, c.ob, none⟩) c.B.boys.length c.capb, .int .i64 c.B.weeks, .slice c.q c.B.trials.length c.capt, .map (some c.bm), .int .i64 (boy : Int), .int .i64 0, .int .i64 0, .int .i64 0, .int .i64 0, .int .i64 0] 100)) := kept_alloc (kept_alloc (kept_refl _) _) _
  have hzV : ((V.alloc (Obj.cells #[Value.func (Fn.yield l) #[] #[]] 103)).alloc (Obj.cells #[.slice (some ⟨c.bb, c.ob, none⟩) c.B.boys.length c.capb, .int .i64 c.B.weeks, .slice c.q c.B.trials.length c.capt, .map (some c.bm), .int .i64 (boy : Int), .int .i64 0, .int .i64 0, .int .i64 0, .int .i64 0, .int .i64 0] 100)).heap.size = V.heap.size + 2 := by simp
  have hOT : ∀ s : Spot, s.bt = V.heap.size + 1 → s.k0 = c.k0 → s.k1 = .int .i64 c.B.weeks → s.k2 = c.k2 → s.k3 = c.m → s.boy = boy → OwnT s ((V.alloc (Obj.cells #[Value.func (Fn.yield l) #[] #[]] 103)).alloc (Obj.cells #[.slice (some ⟨c.bb, c.ob, none⟩) c.B.boys.length c.capb, .int .i64 c.B.weeks, .slice c.q c.B.trials.length c.capt, .map (some c.bm), .int .i64 (boy : Int), .int .i64 0, .int .i64 0, .int .i64 0, .int .i64 0, .int .i64 0] 100)) [] := by
    intro s e0 e1 e2 e3 e4 e5
    refine ⟨?_, ?_, ?_, ?_, ?_, fun i hi => ?_, fun i v hv => by simp at hv, fun i => ?_⟩
    · rw [e0, e1]; go_simp; rfl
    · rw [e0, e2]; go_simp
    · rw [e0, e3]; go_simp; rfl
    · rw [e0, e4]; go_simp; rfl
    · rw [e0, e5]; go_simp
    · refine ⟨0, ?_⟩
      rw [e0]
      match i, hi with
      | 0, _ => go_simp
      | 1, _ => go_simp
      | 2, _ => go_simp
      | 3, _ => go_simp
      | 4, _ => go_simp
    · rw [e0]; go_simp
  generalize (V.alloc (Obj.cells #[Value.func (Fn.yield l) #[] #[]] 103)).alloc (Obj.cells #[.slice (some ⟨c.bb, c.ob, none⟩) c.B.boys.length c.capb, .int .i64 c.B.weeks, .slice c.q c.B.trials.length c.capt, .map (some c.bm), .int .i64 (boy : Int), .int .i64 0, .int .i64 0, .int .i64 0, .int .i64 0, .int .i64 0] 100) = W1 at *
  have HOT := Lib.hid hOT; clear hOT
  refine ⟨trivial, rfl, (callsIn_wide.2 (known_any _ _ _ _ _ _ _ _ _ _ _ _)).mono ?_⟩
  rintro e w' ⟨rfl, hk1⟩
  gi_wp2_with fail
  have hsp : ∀ i, i < 5 → ((w'.alloc (Obj.cells #[Value.int IntKind.i64 x.l0, Value.int IntKind.i64 x.l1, Value.int IntKind.i64 x.h0, Value.int IntKind.i64 x.h1, Value.int IntKind.i64 x.g0, Value.int IntKind.i64 x.g1, Value.int IntKind.i64 x.t0, Value.int IntKind.i64 x.t1, Value.int IntKind.i64 x.b0, Value.int IntKind.i64 x.b1] 162)).alloc (Obj.cells #[Value.func (Fn.func 113) #[] #[Value.pointer (some ⟨V.heap.size + 1, 0, none⟩), Value.pointer (some ⟨V.heap.size, 0, none⟩), Value.pointer (some ⟨w'.heap.size, 0, none⟩), Value.pointer (some ⟨bc, 0, none⟩), Value.pointer (some ⟨w'.heap.size + 1, 0, none⟩)]] 96)).cell? ⟨w'.heap.size, i * 2, none⟩ = some (.int .i64 (x.lo i)) ∧ ((w'.alloc (Obj.cells #[Value.int IntKind.i64 x.l0, Value.int IntKind.i64 x.l1, Value.int IntKind.i64 x.h0, Value.int IntKind.i64 x.h1, Value.int IntKind.i64 x.g0, Value.int IntKind.i64 x.g1, Value.int IntKind.i64 x.t0, Value.int IntKind.i64 x.t1, Value.int IntKind.i64 x.b0, Value.int IntKind.i64 x.b1] 162)).alloc (Obj.cells #[Value.func (Fn.func 113) #[] #[Value.pointer (some ⟨V.heap.size + 1, 0, none⟩), Value.pointer (some ⟨V.heap.size, 0, none⟩), Value.pointer (some ⟨w'.heap.size, 0, none⟩), Value.pointer (some ⟨bc, 0, none⟩), Value.pointer (some ⟨w'.heap.size + 1, 0, none⟩)]] 96)).cell? ⟨w'.heap.size, i * 2 + 1, none⟩ = some (.int .i64 (x.hi i)) := by
    intro i hi
    match i, hi with
    | 0, _ => exact ⟨by go_simp; rfl, by go_simp; rfl⟩
    | 1, _ => exact ⟨by go_simp; rfl, by go_simp; rfl⟩
    | 2, _ => exact ⟨by go_simp; rfl, by go_simp; rfl⟩
    | 3, _ => exact ⟨by go_simp; rfl, by go_simp; rfl⟩
    | 4, _ => exact ⟨by go_simp; rfl, by go_simp; rfl⟩
  have hfn : ((w'.alloc (Obj.cells #[Value.int IntKind.i64 x.l0, Value.int IntKind.i64 x.l1, Value.int IntKind.i64 x.h0, Value.int IntKind.i64 x.h1, Value.int IntKind.i64 x.g0, Value.int IntKind.i64 x.g1, Value.int IntKind.i64 x.t0, Value.int IntKind.i64 x.t1, Value.int IntKind.i64 x.b0, Value.int IntKind.i64 x.b1] 162)).alloc (Obj.cells #[Value.func (Fn.func 113) #[] #[Value.pointer (some ⟨V.heap.size + 1, 0, none⟩), Value.pointer (some ⟨V.heap.size, 0, none⟩), Value.pointer (some ⟨w'.heap.size, 0, none⟩), Value.pointer (some ⟨bc, 0, none⟩), Value.pointer (some ⟨w'.heap.size + 1, 0, none⟩)]] 96)).cell? ⟨w'.heap.size + 1, 0, none⟩ = some (Value.func (Fn.func 113) #[] #[Value.pointer (some ⟨V.heap.size + 1, 0, none⟩), Value.pointer (some ⟨V.heap.size, 0, none⟩), Value.pointer (some ⟨w'.heap.size, 0, none⟩), Value.pointer (some ⟨bc, 0, none⟩), Value.pointer (some ⟨w'.heap.size + 1, 0, none⟩)]) := by go_simp
  have hkw : Kept w' ((w'.alloc (Obj.cells #[Value.int IntKind.i64 x.l0, Value.int IntKind.i64 x.l1, Value.int IntKind.i64 x.h0, Value.int IntKind.i64 x.h1, Value.int IntKind.i64 x.g0, Value.int IntKind.i64 x.g1, Value.int IntKind.i64 x.t0, Value.int IntKind.i64 x.t1, Value.int IntKind.i64 x.b0, Value.int IntKind.i64 x.b1] 162)).alloc (Obj.cells #[Value.func (Fn.func 113) #[] #[Value.pointer (some ⟨V.heap.size + 1, 0, none⟩), Value.pointer (some ⟨V.heap.size, 0, none⟩), Value.pointer (some ⟨w'.heap.size, 0, none⟩), Value.pointer (some ⟨bc, 0, none⟩), Value.pointer (some ⟨w'.heap.size + 1, 0, none⟩)]] 96)) := kept_alloc (kept_alloc (kept_refl _) _) _
  have hzw : ((w'.alloc (Obj.cells #[Value.int IntKind.i64 x.l0, Value.int IntKind.i64 x.l1, Value.int IntKind.i64 x.h0, Value.int IntKind.i64 x.h1, Value.int IntKind.i64 x.g0, Value.int IntKind.i64 x.g1, Value.int IntKind.i64 x.t0, Value.int IntKind.i64 x.t1, Value.int IntKind.i64 x.b0, Value.int IntKind.i64 x.b1] 162)).alloc (Obj.cells #[Value.func (Fn.func 113) #[] #[Value.pointer (some ⟨V.heap.size + 1, 0, none⟩), Value.pointer (some ⟨V.heap.size, 0, none⟩), Value.pointer (some ⟨w'.heap.size, 0, none⟩), Value.pointer (some ⟨bc, 0, none⟩), Value.pointer (some ⟨w'.heap.size + 1, 0, none⟩)]] 96)).heap.size = w'.heap.size + 2 := by simp
  generalize ((w'.alloc (Obj.cells #[Value.int IntKind.i64 x.l0, Value.int IntKind.i64 x.l1, Value.int IntKind.i64 x.h0, Value.int IntKind.i64 x.h1, Value.int IntKind.i64 x.g0, Value.int IntKind.i64 x.g1, Value.int IntKind.i64 x.t0, Value.int IntKind.i64 x.t1, Value.int IntKind.i64 x.b0, Value.int IntKind.i64 x.b1] 162)).alloc (Obj.cells #[Value.func (Fn.func 113) #[] #[Value.pointer (some ⟨V.heap.size + 1, 0, none⟩), Value.pointer (some ⟨V.heap.size, 0, none⟩), Value.pointer (some ⟨w'.heap.size, 0, none⟩), Value.pointer (some ⟨bc, 0, none⟩), Value.pointer (some ⟨w'.heap.size + 1, 0, none⟩)]] 96)) = A at *
  have hkA : Kept W1 A := kept_trans hk1 hkw
  have hkVA : Kept V A := kept_trans hkV hkA
  have hz1 := (bcell hk1).2.2
  obtain ⟨s, hs⟩ : ∃ s : Spot, s = ⟨l, V.heap.size + 1, V.heap.size, w'.heap.size, bc, w'.heap.size + 1, c.k0, .int .i64 c.B.weeks, c.k2, c.m, (boy : Int), x.lo, x.hi, fun b => S b ∨ b = bc ∨ b = by' ∨ b = V.heap.size ∨ b = w'.heap.size ∨ b = w'.heap.size + 1⟩ := ⟨_, rfl⟩
  have hSV : ∀ b, S b → b < V.heap.size := fun b hb => (HS.out b (.inl hb)).1
  have ok : s.Ok (fun W => ChoirAt S W c) := by
    subst hs
    exact ⟨by simp, by simp, by simp, by simp, by
      rintro (h | h | h | h | h | h)
      · have h2 : V.heap.size + 1 < V.heap.size := hSV _ h
        omega
      · have h2 : V.heap.size + 1 = bc := h
        omega
      · have h2 : V.heap.size + 1 = by' := h
        omega
      · have h2 : V.heap.size + 1 = V.heap.size := h
        omega
      · have h2 : V.heap.size + 1 = w'.heap.size := h
        omega
      · have h2 : V.heap.size + 1 = w'.heap.size + 1 := h
        omega, fun A B U h k hu => h.turns k (fun b hb => hu b (.inl hb))⟩
  have own : OwnR s (fun W => ChoirAt S W c) A := by
    subst hs
    exact ⟨kcell hkA y0, hsp, kcell hkVA c2, hfn, HA.out.turns (kturns hkVA (fun _ => False)) (fun _ _ h => h)⟩
  have ownT : OwnT s A [] := (HOT.out s (by rw [hs]) (by rw [hs]) (by rw [hs]) (by rw [hs]) (by rw [hs]) (by rw [hs])).turns (kturns hkA (fun _ => False)) (fun h => h)
  have good : Good s V T T A := by
    subst hs
    refine ⟨Ext.refl _ _, fun b hb => Nat.lt_of_lt_of_le (HT.out b hb) (bcell hkVA).2.2, kturns hkVA _, ?_, ?_, ?_, ?_, ?_⟩
    · rintro b (h | h | h | h | h | h) ht
      · exact (HS.out b (.inl h)).2 ht
      · exact (HS.out b (.inr (.inl h))).2 ht
      · exact (HS.out b (.inr (.inr h))).2 ht
      all_goals (have := HT.out b ht; omega)
    · intro ht; have := HT.out _ ht; simp at this; omega
    · rintro b (h | h | h | h | h | h)
      · have := hSV _ h; omega
      all_goals omega
    · show V.heap.size + 1 < _; omega
    · show V.heap.size ≤ V.heap.size + 1; omega
  have hspans := (spanAt_ok x HX.out).1
  have key := choose_any s (fun W => ChoirAt S W c) ok (c.B.truths boy x) V J Jx T c.q c.capt c.B.trials (by rw [hs]; rfl) ht6
    (fun W h => h.trials.imp id fun ⟨b, o, e, _, ht⟩ => ⟨b, o, e, ht⟩) (fun i hi => by have := hspans i hi; subst hs; exact ⟨this.1, Int.le_trans this.2.1 (by omega), this.2.2.1, this.2.2.2.1⟩)
    (kpOf c.B boy x) (fun n A hn hr h => by
      match n, hn with
      | [n0, n1, n2, n3, n4], _ => subst hs; exact keeps_at S c boy x HXX.out A h n0 n1 n2 n3 n4 hr)
    HJ.out (fun k n T' A hk g hj => by
      have := HY.out k n T' A hk g.ext g.small g.base hj
      subst hs; exact this)
    5 [] 0 T A rfl (fun i v h => by simp at h) own ownT good (HJ.out _ _ _ _ H0.out (Quiet.below hkVA)) ⟨[], by rw [hs]; simp [Book.truths]⟩
  have key2 : CallsIn Fence.wide 0 Tryz.prog 113 #[.int .i64 0, .pointer (some ⟨V.heap.size + 1, 0, none⟩), .pointer (some ⟨V.heap.size, 0, none⟩), .pointer (some ⟨w'.heap.size, 0, none⟩), .pointer (some ⟨bc, 0, none⟩), .pointer (some ⟨w'.heap.size + 1, 0, none⟩)] A (ChooseP s (fun W => ChoirAt S W c) [] (c.B.truths boy x).length 0 (c.B.truths boy x).length J Jx T A) := by
    subst hs; exact key
  clear key
  refine ⟨trivial, rfl, key2.mono ?_⟩
  rintro e B ⟨T2, hE2, hz2, hT2, (⟨rfl, hJ2, _⟩ | ⟨rfl, j2, hj2, hJx⟩)⟩
  · have g2 := good.step hE2 hz2 hT2
    clear key2 hsp own ownT ok
    gi_wp2_with fail
    go_end0
    exact ⟨⟨_, rfl⟩, g2.base, T2, g2.ext, .inl (by simpa using hJ2)⟩
  · have g2 := good.step hE2 hz2 hT2
    clear key2 hsp own ownT ok
    gi_wp2_with fail
    go_end0
    exact ⟨⟨_, rfl⟩, g2.base, T2, g2.ext, .inr ⟨j2, hj2, hJx⟩⟩
end Go.Proofs.YthgfbokfaidklaaGreatDoor
set_option linter.all false
namespace Go.Proofs.YthgfbokfaidklaaGreatDoor
open Go.RowKit Go.Sort Go.Rg
set_option maxRecDepth 100000
attribute [local go_sem] Oper.semAt_some

def Choir.val (c : Choir) : Value := .agg #[.slice (some ⟨c.bb, c.ob, none⟩) c.B.boys.length c.capb, .int .i64 c.B.weeks, .slice c.q c.B.trials.length c.capt, .map (some c.bm)]
theorem truths_any (c : Choir) (boy : Nat) (W : World) :
    Calls Tryz.prog 101 #[c.val, .int .i64 (boy : Int)] W fun e B => e = .returned (.func (.func 112) #[] #[.pointer (some ⟨W.heap.size, 0, none⟩), .pointer (some ⟨W.heap.size + 1, 0, none⟩)]) ∧ Kept W B ∧ B.heap.size = W.heap.size + 2 ∧
      B.cell? ⟨W.heap.size, 0, none⟩ = some c.k0 ∧ B.cell? ⟨W.heap.size, 1, none⟩ = some (.int .i64 c.B.weeks) ∧ B.cell? ⟨W.heap.size, 2, none⟩ = some c.k2 ∧ B.cell? ⟨W.heap.size, 3, none⟩ = some c.m ∧ B.cell? ⟨W.heap.size + 1, 0, none⟩ = some (.int .i64 (boy : Int)) := by
  unfold Choir.val
  go_enter Tryz.func101, Tryz.ntmps101
  go_wp2
  go_ret
  refine ⟨rfl, kept_alloc (kept_alloc (kept_refl _) _) _, by simp, ?_, ?_, ?_, ?_, ?_⟩
  · go_simp; rfl
  · go_simp
  · go_simp; rfl
  · go_simp; rfl
  · go_simp

theorem gen_len {lo hi : Nat → Int} {boy : Int} {lt : List Trial} {kp : List Int → Bool} : ∀ (d : Nat) (pre x : List Int), x ∈ gen lo hi boy lt kp d pre → x.length = pre.length + d
  | 0, pre, x, h => by
    unfold gen at h
    split at h
    · simp at h; rw [h]; rfl
    · cases h
  | d + 1, pre, x, h => by
    unfold gen at h
    simp only [List.mem_flatten, List.mem_map] at h
    obtain ⟨l, ⟨m, _, rfl⟩, hx⟩ := h
    split at hx
    · cases hx
    · have := gen_len d _ x hx
      simp at this; omega
theorem truths_len {B : Book} {boy : Nat} {x : Boy} {n : List Int} (h : n ∈ B.truths boy x) : ∃ n0 n1 n2 n3 n4, n = [n0, n1, n2, n3, n4] := by
  have := gen_len 5 [] n h
  match n, this with
  | [n0, n1, n2, n3, n4], _ => exact ⟨n0, n1, n2, n3, n4, rfl⟩

/-- the truths of a boy, from the boxes that the maker lays -/
theorem truthsAt_of {S : Nat → Prop} {c : Choir} {boy : Nat} {W B : World} {n : Nat} (h : ChoirAt S W c) (hk : Kept W B) (hn : (n : Nat) = n)
    (c0 : B.cell? ⟨n, 0, none⟩ = some c.k0) (c1 : B.cell? ⟨n, 1, none⟩ = some (.int .i64 c.B.weeks)) (c2 : B.cell? ⟨n, 2, none⟩ = some c.k2) (c3 : B.cell? ⟨n, 3, none⟩ = some c.m) (b0 : B.cell? ⟨n + 1, 0, none⟩ = some (.int .i64 (boy : Int))) :
    TruthsAt S c boy n (n + 1) B := ⟨h.turns (kturns hk (fun _ => False)) (fun _ _ h => h), c0, c1, c2, c3, b0⟩
theorem TruthsAt.kept {S : Nat → Prop} {c : Choir} {boy bc by' : Nat} {A B : World} (h : TruthsAt S c boy bc by' A) (k : Kept' A B) : TruthsAt S c boy bc by' B :=
  ⟨h.at'.turns k (fun _ _ h => h), tcell k (fun h => h) h.c0, tcell k (fun h => h) h.c1, tcell k (fun h => h) h.c2, tcell k (fun h => h) h.c3, tcell k (fun h => h) h.b0⟩

theorem leave_mark {P : Program} {fn : Func} {R : Ending → World → Prop} {tmps : Array Value} {Db : Nat} {B : World} {v : Value} (hK : B.heap[Db]? = some (.deferred (some [])))
    (h : ∀ C, C = B.putObj Db (.deferred none) → Turns (fun b => b = Db) B C → (results fn tmps).run P C = .ok v C ∧ R (.returned v) C) :
    bodyPostM Fence.wide 0 P fn R .ret { tmps := tmps, defers := [{ target := .collected Db, args := #[] }] } B := by
  obtain ⟨h1, h2⟩ := h _ rfl (Turns.putObj (T := fun b => b = Db) (Turns.refl _ _) (.inl rfl) _)
  exact ⟨by simp, .inl ⟨_, _, rfl, run_takeDeferred hK, _, h1, h2⟩⟩
def numsV (n : List Int) : Value := .agg (n.map (Value.int .i64)).toArray
def firstOf (l : List (List Int)) : List Int := l.headD [-1, -1, -1, -1, -1]

set_option maxHeartbeats 4000000 in
theorem first_any (S : Nat → Prop) (c : Choir) (boy : Nat) (x : Boy) (hx : c.B.boys[boy]? = some x) (W : World) (h : ChoirAt S W c) (hS : ∀ b, S b → b < W.heap.size)
    (hg : ∀ i, i < 5 → W.cell? ⟨1, i, none⟩ = some (.int .i64 (-1))) :
    Calls Tryz.prog 100 #[c.val, .int .i64 (boy : Int)] W fun e B => e = .returned (numsV (firstOf (c.B.truths boy x))) ∧ Kept W B := by
  refine callsIn_wide.1 (callsIn_of_wp_marks (n := 0) Tryz.func100 rfl trivial ?_ rfl)
  simp only [Tryz.ntmps100, List.size_toArray, List.length_cons, List.length_nil, Nat.reduceAdd, Nat.reduceSub, Array.replicate_succ, Array.replicate_zero, List.push_toArray, List.append_toArray, List.nil_append, List.cons_append]
  unfold Choir.val
  gi_wp2_with fail
  have hk0 : Kept W ((W.alloc (Obj.cells #[.slice (some ⟨c.bb, c.ob, none⟩) c.B.boys.length c.capb, .int .i64 c.B.weeks, .slice c.q c.B.trials.length c.capt, .map (some c.bm)] 92)).alloc (Obj.cells #[.int .i64 0, .int .i64 0, .int .i64 0, .int .i64 0, .int .i64 0] 98)) := kept_alloc (kept_alloc (kept_refl _) _) _
  have hz0 : ((W.alloc (Obj.cells #[.slice (some ⟨c.bb, c.ob, none⟩) c.B.boys.length c.capb, .int .i64 c.B.weeks, .slice c.q c.B.trials.length c.capt, .map (some c.bm)] 92)).alloc (Obj.cells #[.int .i64 0, .int .i64 0, .int .i64 0, .int .i64 0, .int .i64 0] 98)).heap.size = W.heap.size + 2 := by simp
  have r0 : ∀ i, i < 5 → ((W.alloc (Obj.cells #[.slice (some ⟨c.bb, c.ob, none⟩) c.B.boys.length c.capb, .int .i64 c.B.weeks, .slice c.q c.B.trials.length c.capt, .map (some c.bm)] 92)).alloc (Obj.cells #[.int .i64 0, .int .i64 0, .int .i64 0, .int .i64 0, .int .i64 0] 98)).cell? ⟨W.heap.size + 1, i, none⟩ = some (.int .i64 0) := by
    intro i hi
    match i, hi with
    | 0, _ => go_simp
    | 1, _ => go_simp
    | 2, _ => go_simp
    | 3, _ => go_simp
    | 4, _ => go_simp
  have rf : ∀ i, ((W.alloc (Obj.cells #[.slice (some ⟨c.bb, c.ob, none⟩) c.B.boys.length c.capb, .int .i64 c.B.weeks, .slice c.q c.B.trials.length c.capt, .map (some c.bm)] 92)).alloc (Obj.cells #[.int .i64 0, .int .i64 0, .int .i64 0, .int .i64 0, .int .i64 0] 98)).frozen? ⟨W.heap.size + 1, i, none⟩ = false := by intro i; go_simp
  generalize ((W.alloc (Obj.cells #[.slice (some ⟨c.bb, c.ob, none⟩) c.B.boys.length c.capb, .int .i64 c.B.weeks, .slice c.q c.B.trials.length c.capt, .map (some c.bm)] 92)).alloc (Obj.cells #[.int .i64 0, .int .i64 0, .int .i64 0, .int .i64 0, .int .i64 0] 98)) = W1 at *
  have hcall := truths_any c boy W1
  unfold Choir.val at hcall
  refine ⟨trivial, rfl, (callsIn_wide.2 hcall).mono ?_⟩
  rintro e W2 ⟨rfl, hk2, hz2, d0, d1, d2, d3, d4⟩
  rw [hz0] at d0 d1 d2 d3 d4 hz2
  gi_wp2_with fail
  have hat := truthsAt_of (h.turns (kturns hk0 (fun _ => False)) (fun _ _ h => h)) hk2 rfl d0 d1 d2 d3 d4
  have q0 : ∀ i, i < 5 → W2.cell? ⟨W.heap.size + 1, i, none⟩ = some (.int .i64 0) := fun i hi => kcell hk2 (r0 i hi)
  have qf : ∀ i, W2.frozen? ⟨W.heap.size + 1, i, none⟩ = false := fun i => ((kturns hk2 (fun _ => False)).frozen (by omega) (fun h => h)).trans (rf i)
  refine wpIn_range (gf := 112) (lb := #[.pointer (some ⟨W.heap.size + 2, 0, none⟩), .pointer (some ⟨W.heap.size + 2 + 1, 0, none⟩)]) rfl (enters_of Tryz.func112 (by kernel_rfl) rfl)
    (truths1_gives S c boy x hx (W.heap.size + 2) (W.heap.size + 2 + 1)) rfl (fun b => b = W.heap.size + 1) (by rintro b rfl; omega) ?hS (fun B hB => hat.kept hB)
    (fun k T' A => k = 0 ∧ T' = (fun b => b = W.heap.size + 1) ∧ (∀ i, i < 5 → A.cell? ⟨W.heap.size + 1, i, none⟩ = some (.int .i64 0)) ∧ (∀ i, A.frozen? ⟨W.heap.size + 1, i, none⟩ = false))
    (fun e k T' A => e = .ret ∧ T' = (fun b => b = W.heap.size + 1) ∧ ∃ n, n = firstOf (c.B.truths boy x) ∧ ∀ i v, n[i]? = some v → A.cell? ⟨W.heap.size + 1, i, none⟩ = some (.int .i64 v))
    ?hI ?hIx ⟨rfl, rfl, q0, qf⟩ ?round ?done ?stop
  case hS =>
    rintro b (hb | rfl | rfl)
    · have := hS b hb
      exact ⟨by omega, by omega⟩
    · exact ⟨by omega, by omega⟩
    · exact ⟨by omega, by omega⟩
  case hI =>
    rintro k T' A B ⟨rfl, rfl, h1, h2⟩ hq
    have hb : W.heap.size + 1 < A.heap.size := Go.Ai.lt_of_cell (h1 0 (by omega))
    exact ⟨rfl, rfl, fun i hi => (hq.cell hb (.inr rfl)).trans (h1 i hi), fun i => (hq.frozen hb (.inr rfl)).trans (h2 i)⟩
  case hIx =>
    rintro e k T' A B ⟨rfl, rfl, n, hn, h1⟩ hq
    exact ⟨rfl, rfl, n, hn, fun i v hv => (hq.cell (Go.Ai.lt_of_cell (h1 i v hv)) (.inr rfl)).trans (h1 i v hv)⟩
  case round =>
    rintro l k n T' A hn hE hz hTA hl hlA hnl ⟨rfl, rfl, h1, h2⟩
    obtain ⟨n0, n1, n2, n3, n4, rfl⟩ := truths_len (List.mem_of_getElem? hn)
    simp only [encT, List.map_cons, List.map_nil, List.append_toArray, List.cons_append, List.nil_append, Choir.k0, Choir.k2, Choir.m]
    gi_wp2_with fail
    refine ⟨_, Ext.refl _ _, (Turns.refl _ _).alloc _, ?_⟩
    intro A2 hA2 hs2 r hr
    have z1 : W.heap.size + 1 < A.heap.size := Go.Ai.lt_of_cell (h1 0 (by omega))
    have e5 := tcell hA2 (by omega) (show (A.alloc (Obj.cells #[.slice (some ⟨c.bb, c.ob, none⟩) c.B.boys.length c.capb, .int .i64 c.B.weeks, .slice c.q c.B.trials.length c.capt, .map (some c.bm), .int .i64 (boy : Int), .int .i64 n0, .int .i64 n1, .int .i64 n2, .int .i64 n3, .int .i64 n4] 100)).cell? ⟨A.heap.size, 5, none⟩ = some (.int .i64 n0) by go_simp)
    have e6 := tcell hA2 (by omega) (show (A.alloc (Obj.cells #[.slice (some ⟨c.bb, c.ob, none⟩) c.B.boys.length c.capb, .int .i64 c.B.weeks, .slice c.q c.B.trials.length c.capt, .map (some c.bm), .int .i64 (boy : Int), .int .i64 n0, .int .i64 n1, .int .i64 n2, .int .i64 n3, .int .i64 n4] 100)).cell? ⟨A.heap.size, 6, none⟩ = some (.int .i64 n1) by go_simp)
    have e7 := tcell hA2 (by omega) (show (A.alloc (Obj.cells #[.slice (some ⟨c.bb, c.ob, none⟩) c.B.boys.length c.capb, .int .i64 c.B.weeks, .slice c.q c.B.trials.length c.capt, .map (some c.bm), .int .i64 (boy : Int), .int .i64 n0, .int .i64 n1, .int .i64 n2, .int .i64 n3, .int .i64 n4] 100)).cell? ⟨A.heap.size, 7, none⟩ = some (.int .i64 n2) by go_simp)
    have e8 := tcell hA2 (by omega) (show (A.alloc (Obj.cells #[.slice (some ⟨c.bb, c.ob, none⟩) c.B.boys.length c.capb, .int .i64 c.B.weeks, .slice c.q c.B.trials.length c.capt, .map (some c.bm), .int .i64 (boy : Int), .int .i64 n0, .int .i64 n1, .int .i64 n2, .int .i64 n3, .int .i64 n4] 100)).cell? ⟨A.heap.size, 8, none⟩ = some (.int .i64 n3) by go_simp)
    have e9 := tcell hA2 (by omega) (show (A.alloc (Obj.cells #[.slice (some ⟨c.bb, c.ob, none⟩) c.B.boys.length c.capb, .int .i64 c.B.weeks, .slice c.q c.B.trials.length c.capt, .map (some c.bm), .int .i64 (boy : Int), .int .i64 n0, .int .i64 n1, .int .i64 n2, .int .i64 n3, .int .i64 n4] 100)).cell? ⟨A.heap.size, 9, none⟩ = some (.int .i64 n4) by go_simp)
    have hk1 : Kept A (A.alloc (Obj.cells #[.slice (some ⟨c.bb, c.ob, none⟩) c.B.boys.length c.capb, .int .i64 c.B.weeks, .slice c.q c.B.trials.length c.capt, .map (some c.bm), .int .i64 (boy : Int), .int .i64 n0, .int .i64 n1, .int .i64 n2, .int .i64 n3, .int .i64 n4] 100)) := kept_alloc (kept_refl _) _
    have p0 := tcell hA2 (by omega) (kcell hk1 (h1 0 (by omega)))
    have p1 := tcell hA2 (by omega) (kcell hk1 (h1 1 (by omega)))
    have p2 := tcell hA2 (by omega) (kcell hk1 (h1 2 (by omega)))
    have p3 := tcell hA2 (by omega) (kcell hk1 (h1 3 (by omega)))
    have p4 := tcell hA2 (by omega) (kcell hk1 (h1 4 (by omega)))
    have pf : ∀ i, A2.frozen? ⟨W.heap.size + 1, i, none⟩ = false := fun i => (hA2.frozen (by simp; omega) (by omega)).trans (((kturns hk1 (fun _ => False)).frozen z1 (fun h => h)).trans (h2 i))
    have f0 := pf 0
    have f1 := pf 1
    have f2 := pf 2
    have f3 := pf 3
    have f4 := pf 4
    clear hA2 hr hk1 pf h1 h2
    gi_wp2_with fail
    have hf : firstOf (c.B.truths boy x) = [n0, n1, n2, n3, n4] := by
      unfold firstOf
      rw [List.headD_eq_head?_getD, List.head?_eq_getElem?, hn]; rfl
    refine ⟨fun b => b = W.heap.size + 1, Ext.refl _ _, ?_, ?_, rfl, rfl, ?_⟩
    · rintro b rfl
      simp; omega
    · exact ((((((Turns.refl (fun b => b = W.heap.size + 1) A2).setCell rfl _ _).setCell rfl _ _).setCell rfl _ _).setCell rfl _ _).setCell rfl _ _)
    · rw [hf]
      intro i v hv
      have z2 : W.heap.size + 1 < A2.heap.size := by omega
      match i, hv with
      | 0, hv => cases hv; go_simp
      | 1, hv => cases hv; go_simp
      | 2, hv => cases hv; go_simp
      | 3, hv => cases hv; go_simp
      | 4, hv => cases hv; go_simp
  case done =>
    rintro Db T' B hDb hnD hE hTB ⟨hl, rfl, h1, h2⟩ hK
    have hnil : c.B.truths boy x = [] := List.eq_nil_of_length_eq_zero hl
    have hkB : Below W.heap.size W B := Below.trans (kept_trans hk0 hk2) (hTB.toBelow (n := W.heap.size) (by rintro b rfl; omega) (by omega))
    have hzR := Go.Ai.lt_of_cell (h1 0 (by omega))
    have p0 := h1 0 (by omega)
    have p1 := h1 1 (by omega)
    have p2 := h1 2 (by omega)
    have p3 := h1 3 (by omega)
    have p4 := h1 4 (by omega)
    have f0 := h2 0
    have f1 := h2 1
    have f2 := h2 2
    have f3 := h2 3
    have f4 := h2 4
    have z0 := Go.Ai.lt_of_cell (hg 0 (by omega))
    have gl : ∀ i, i < 5 → B.cell? ⟨1, i, none⟩ = some (.int .i64 (-1)) := fun i hi => tcell hTB (by omega) (kcell hk2 (kcell hk0 (hg i hi)))
    have g0 := gl 0 (by omega)
    have g1 := gl 1 (by omega)
    have g2 := gl 2 (by omega)
    have g3 := gl 3 (by omega)
    have g4 := gl 4 (by omega)
    clear hg gl h1 h2 r0 rf q0 qf
    gi_wp2_with fail
    have hT5 : Turns (fun b => b = W.heap.size + 1) B (((((B.setCell ⟨W.heap.size + 1, 0, none⟩ (.int .i64 (-1))).setCell ⟨W.heap.size + 1, 1, none⟩ (.int .i64 (-1))).setCell ⟨W.heap.size + 1, 2, none⟩ (.int .i64 (-1))).setCell ⟨W.heap.size + 1, 3, none⟩ (.int .i64 (-1))).setCell ⟨W.heap.size + 1, 4, none⟩ (.int .i64 (-1))) := ((((((Turns.refl (fun b => b = W.heap.size + 1) B).setCell rfl _ _).setCell rfl _ _).setCell rfl _ _).setCell rfl _ _).setCell rfl _ _)
    have hc5 : ∀ i, i < 5 → (((((B.setCell ⟨W.heap.size + 1, 0, none⟩ (.int .i64 (-1))).setCell ⟨W.heap.size + 1, 1, none⟩ (.int .i64 (-1))).setCell ⟨W.heap.size + 1, 2, none⟩ (.int .i64 (-1))).setCell ⟨W.heap.size + 1, 3, none⟩ (.int .i64 (-1))).setCell ⟨W.heap.size + 1, 4, none⟩ (.int .i64 (-1))).cell? ⟨W.heap.size + 1, i, none⟩ = some (.int .i64 (-1)) := by
      intro i hi
      match i, hi with
      | 0, _ => go_simp
      | 1, _ => go_simp
      | 2, _ => go_simp
      | 3, _ => go_simp
      | 4, _ => go_simp
    generalize (((((B.setCell ⟨W.heap.size + 1, 0, none⟩ (.int .i64 (-1))).setCell ⟨W.heap.size + 1, 1, none⟩ (.int .i64 (-1))).setCell ⟨W.heap.size + 1, 2, none⟩ (.int .i64 (-1))).setCell ⟨W.heap.size + 1, 3, none⟩ (.int .i64 (-1))).setCell ⟨W.heap.size + 1, 4, none⟩ (.int .i64 (-1))) = B5 at *
    have hK5 := (hT5.block Db (Array.getElem?_eq_some_iff.1 hK).1 hnD).trans hK
    refine leave_mark (v := numsV [-1, -1, -1, -1, -1]) hK5 fun C hC hCT => ?_
    have q0 := tcell hCT (Ne.symm hnD) (hc5 0 (by omega))
    have q1 := tcell hCT (Ne.symm hnD) (hc5 1 (by omega))
    have q2 := tcell hCT (Ne.symm hnD) (hc5 2 (by omega))
    have q3 := tcell hCT (Ne.symm hnD) (hc5 3 (by omega))
    have q4 := tcell hCT (Ne.symm hnD) (hc5 4 (by omega))
    refine ⟨by simp [results, Tryz.results100, go_sem, numsV, q0, q1, q2, q3, q4], rfl, ?_⟩
    exact Below.trans (Below.trans hkB (hT5.toBelow (by rintro b rfl; omega) (by have := hkB.size; omega))) (hCT.toBelow (by rintro b rfl; omega) (by have := hkB.size; have := hT5.size; omega))
  case stop =>
    rintro Db e k T' B hDb hnD hE hTB hk ⟨rfl, rfl, n, hn, h1⟩ hK
    gi_wp2_with fail
    obtain ⟨n0, n1, n2, n3, n4, hne⟩ : ∃ n0 n1 n2 n3 n4, firstOf (c.B.truths boy x) = [n0, n1, n2, n3, n4] := by
      unfold firstOf
      cases ht : c.B.truths boy x with
      | nil => exact ⟨_, _, _, _, _, rfl⟩
      | cons y ys => exact truths_len (by rw [ht]; exact List.mem_cons_self)
    have hkB : Below W.heap.size W B := Below.trans (kept_trans hk0 hk2) (hTB.toBelow (n := W.heap.size) (by rintro b rfl; omega) (by omega))
    rw [hn, hne] at h1
    rw [hne]
    refine leave_mark (v := numsV [n0, n1, n2, n3, n4]) hK fun C hC hCT => ?_
    have q0 := tcell hCT (Ne.symm hnD) (h1 0 _ rfl)
    have q1 := tcell hCT (Ne.symm hnD) (h1 1 _ rfl)
    have q2 := tcell hCT (Ne.symm hnD) (h1 2 _ rfl)
    have q3 := tcell hCT (Ne.symm hnD) (h1 3 _ rfl)
    have q4 := tcell hCT (Ne.symm hnD) (h1 4 _ rfl)
    refine ⟨by simp [results, Tryz.results100, go_sem, numsV, q0, q1, q2, q3, q4], rfl, ?_⟩
    exact Below.trans hkB (hCT.toBelow (by rintro b rfl; omega) (by have := hkB.size; omega))
end Go.Proofs.YthgfbokfaidklaaGreatDoor
set_option linter.all false
namespace Go.Proofs.YthgfbokfaidklaaGreatDoor
open Go.RowKit Go.Sort Go.Rg
set_option maxRecDepth 100000

theorem laidOut : laidOutB Tryz.prog = true := by kernel_rfl
theorem klaw : WideMaps.KeyLaw Tryz.prog 157 := deep_law_laid laidOut (m := 2) (by omega) (by decide +kernel) (by kernel_rfl) (by kernel_rfl)
def keyV (b w : Nat) : Value := .agg #[.int .i64 (b : Int), .int .i64 (w : Int)]
theorem keys_some : ((List.range 4).all fun a => (List.range 6).all fun b => (keyOf Tryz.prog 157 (keyV a b)).isSome) = true := by kernel_rfl
theorem key_some {a b : Nat} (ha : a < 4) (hb : b < 6) : ∃ l, keyOf Tryz.prog 157 (keyV a b) = some l := by
  have := keys_some
  rw [List.all_eq_true] at this
  have := this a (List.mem_range.2 ha)
  rw [List.all_eq_true] at this
  have := this b (List.mem_range.2 hb)
  exact Option.isSome_iff_exists.1 this
end Go.Proofs.YthgfbokfaidklaaGreatDoor
set_option linter.all false
namespace Go.Proofs.YthgfbokfaidklaaGreatDoor
open Go.RowKit Go.Sort Go.Rg
open Go.ChangeMaps (setBlock)
set_option maxRecDepth 100000

/-- an entry of a map of trials -/
structure Slot where
  b : Nat
  w : Nat
  v : Value
  ts : List Trial
def Slot.key (s : Slot) : Value := keyV s.b s.w
def entriesFrom : Nat → List Slot → List MapEntry
  | _, [] => []
  | i, s :: l => ⟨s.key, s.v, i⟩ :: entriesFrom (i + 1) l
def entries (l : List Slot) : Array MapEntry := (entriesFrom 0 l).toArray
theorem entriesFrom_get : ∀ (i j : Nat) (l : List Slot), (entriesFrom i l)[j]? = (l[j]?).map fun s => ⟨s.key, s.v, i + j⟩
  | _, _, [] => by simp [entriesFrom]
  | i, 0, s :: l => by simp [entriesFrom]
  | i, j + 1, s :: l => by
    simp only [entriesFrom, List.getElem?_cons_succ, entriesFrom_get (i + 1) j l]
    congr 1; funext s; simp; omega
theorem entriesFrom_mem {i : Nat} {l : List Slot} {e : MapEntry} (h : e ∈ entriesFrom i l) : ∃ s ∈ l, e.key = s.key := by
  obtain ⟨j, hj, rfl⟩ := List.getElem_of_mem h
  have := entriesFrom_get i j l
  rw [List.getElem?_eq_getElem hj] at this
  cases hs : l[j]? with
  | none => rw [hs] at this; cases this
  | some s =>
    rw [hs] at this
    simp only [Option.map_some, Option.some.injEq] at this
    exact ⟨s, List.mem_of_getElem? hs, by rw [this]⟩
theorem entriesFrom_snoc : ∀ (i : Nat) (l : List Slot) (s : Slot), entriesFrom i (l ++ [s]) = entriesFrom i l ++ [⟨s.key, s.v, i + l.length⟩]
  | i, [], s => by simp [entriesFrom]
  | i, t :: l, s => by simp [entriesFrom, entriesFrom_snoc (i + 1) l s]; omega
theorem keyV_inj {a b c d : Nat} (h : keyV a b = keyV c d) : a = c ∧ b = d := by
  simp only [keyV, Value.agg.injEq] at h
  have h1 := congrArg (fun x => x.toList) h
  simp at h1
  omega
def SlotOk (l : List Slot) : Prop := ∀ s ∈ l, s.b < 4 ∧ s.w < 6

theorem find_slot (w : World) (l : List Slot) (hl : SlotOk l) {b k : Nat} (hb : b < 4) (hk : k < 6) :
    ((Instr.findKey 157 (keyV b k) (entries l).toList).run Tryz.prog w = .ok none w ∧ ∀ s ∈ l, ¬ (s.b = b ∧ s.w = k)) ∨
    ∃ j s, (Instr.findKey 157 (keyV b k) (entries l).toList).run Tryz.prog w = .ok (some (j, s.v)) w ∧ l[j]? = some s ∧ s.b = b ∧ s.w = k := by
  obtain ⟨lx, hlx⟩ := key_some hb hk
  rcases klaw.find w hlx (entries l).toList (fun e he => by
    obtain ⟨s, hs, e2⟩ := entriesFrom_mem (by simpa [entries] using he)
    obtain ⟨h1, h2⟩ := hl s hs
    rw [e2]; exact key_some h1 h2) with ⟨h1, h2⟩ | ⟨j, e, h1, h2, h3⟩
  · refine .inl ⟨h1, fun s hs ⟨e1, e2⟩ => ?_⟩
    obtain ⟨j, hj, rfl⟩ := List.getElem_of_mem hs
    have := entriesFrom_get 0 j l
    rw [List.getElem?_eq_getElem hj] at this
    refine h2 _ (by simpa [entries] using List.mem_of_getElem? this) ?_
    simp [Slot.key, e1, e2]
  · have := entriesFrom_get 0 j l
    rw [show (entriesFrom 0 l)[j]? = some e by simpa [entries] using h2] at this
    cases hs : l[j]? with
    | none => rw [hs] at this; cases this
    | some s =>
      rw [hs] at this
      simp only [Option.map_some, Option.some.injEq] at this
      subst this
      obtain ⟨e1, e2⟩ := keyV_inj h3
      exact .inr ⟨j, s, h1, hs, e1, e2⟩

theorem setBlock_self {w : World} {b : Nat} {o : Obj} (h : w.heap[b]? = some o) : setBlock w b o = w := by
  unfold setBlock
  have hl := (Array.getElem?_eq_some_iff.1 h)
  obtain ⟨hl, he⟩ := hl
  have : w.heap.setIfInBounds b o = w.heap := by
    apply Array.ext
    · simp
    · intro i h1 h2
      by_cases e : b = i
      · subst e; rw [Array.getElem_setIfInBounds_self]; exact he.symm
      · exact Array.getElem_setIfInBounds_ne (by simpa using h2) e
  rw [this]
theorem und : Tryz.prog.underlying 90 = some (.map 157 25) := by kernel_rfl
theorem zero_sl (w : World) : (zeroValue 25).run Tryz.prog w = .ok (.slice none 0 0) w := by kernel_rfl

theorem lookup_slot (w w2 : World) (bm : Nat) (l : List Slot) (n : Nat) (hl : SlotOk l) {b k : Nat} (hb : b < 4) (hk : k < 6) (hm : w.heap[bm]? = some (.map (entries l) n)) (h2 : w2.heap[bm]? = w.heap[bm]?) (v : Value)
    (hv : (v = .slice none 0 0 ∧ ∀ s ∈ l, ¬ (s.b = b ∧ s.w = k)) ∨ ∃ s ∈ l, s.b = b ∧ s.w = k ∧ s.v = v) (hn : ∀ s ∈ l, ∀ t ∈ l, s.b = t.b → s.w = t.w → s.v = t.v) :
    (Instr.lookup 90 (.map (some bm)) (keyV b k) false).run Tryz.prog w2 = .ok v w2 := by
  obtain ⟨lx, hlx⟩ := key_some hb hk
  have hg := MapKept.run_getObj_map (P := Tryz.prog) (h2.trans hm)
  rcases find_slot w2 l hl hb hk with ⟨h1, h3⟩ | ⟨j, s, h1, h3, h4, h5⟩
  · rcases hv with ⟨rfl, _⟩ | ⟨s, hs, e1, e2, _⟩
    · simp [Instr.lookup, run_underlying und, hg, klaw.check w2 _ hlx, h1, zero_sl, Result.andThen]
    · exact absurd ⟨e1, e2⟩ (h3 s hs)
  · rcases hv with ⟨_, hno⟩ | ⟨s', hs', e1, e2, rfl⟩
    · exact absurd ⟨h4, h5⟩ (hno s (List.mem_of_getElem? h3))
    · have : s.v = s'.v := hn s (List.mem_of_getElem? h3) s' hs' (by omega) (by omega)
      simp [Instr.lookup, run_underlying und, hg, klaw.check w2 _ hlx, h1, Result.andThen, this]

theorem mapEntry_old (w : World) (bm : Nat) (l : List Slot) (n : Nat) {b k j : Nat} {s : Slot} (hb : b < 4) (hk : k < 6) (hm : w.heap[bm]? = some (.map (entries l) n))
    (h1 : (Instr.findKey 157 (keyV b k) (entries l).toList).run Tryz.prog w = .ok (some (j, s.v)) w) (hs : l[j]? = some s) (e1 : s.b = b) (e2 : s.w = k) :
    (Instr.mapEntry 90 (.map (some bm)) (keyV b k)).run Tryz.prog w = .ok (.tuple #[s.v, .int .i64 (j : Int)]) w := by
  obtain ⟨lx, hlx⟩ := key_some hb hk
  have hg := MapKept.run_getObj_map (P := Tryz.prog) hm
  have hj : (entries l)[j]? = some ⟨keyV b k, s.v, j⟩ := by
    have := entriesFrom_get 0 j l
    rw [hs] at this
    simp only [Option.map_some, Nat.zero_add, Slot.key, e1, e2] at this
    simpa [entries] using this
  have hmod : (entries l).modify j (fun e => { e with key := keyV b k }) = entries l := by
    apply Array.ext'
    rw [Array.toList_modify]
    apply List.ext_getElem?
    intro i
    rw [List.getElem?_modify]
    by_cases e : j = i
    · subst e
      have : (entries l).toList[j]? = some ⟨keyV b k, s.v, j⟩ := by simpa using hj
      rw [this]; simp
    · simp [e]
  have hset := MapKept.run_setObj_map (P := Tryz.prog) (.map (entries l) n) hm
  have hself := setBlock_self hm
  unfold setBlock at hself
  rw [hself] at hset
  simp [Instr.mapEntry, run_underlying und, hg, klaw.check w _ hlx, h1, Result.andThen, hj, klaw.stays w hlx, hmod, hset, goInt]

theorem mapEntry_new (w : World) (bm : Nat) (l : List Slot) {b k : Nat} (hb : b < 4) (hk : k < 6) (hm : w.heap[bm]? = some (.map (entries l) l.length))
    (h1 : (Instr.findKey 157 (keyV b k) (entries l).toList).run Tryz.prog w = .ok none w) :
    (Instr.mapEntry 90 (.map (some bm)) (keyV b k)).run Tryz.prog w = .ok (.tuple #[.slice none 0 0, .int .i64 (l.length : Int)]) (setBlock w bm (.map (entries (l ++ [⟨b, k, .slice none 0 0, []⟩])) (l.length + 1))) := by
  obtain ⟨lx, hlx⟩ := key_some hb hk
  have hg := MapKept.run_getObj_map (P := Tryz.prog) hm
  have hpush : (entries l).push ⟨keyV b k, .slice none 0 0, l.length⟩ = entries (l ++ [⟨b, k, .slice none 0 0, []⟩]) := by
    apply Array.ext'
    simp [entries, entriesFrom_snoc, Slot.key]
  have hset := MapKept.run_setObj_map (P := Tryz.prog) (.map (entries (l ++ [⟨b, k, .slice none 0 0, []⟩])) (l.length + 1)) hm
  simp [Instr.mapEntry, run_underlying und, hg, klaw.check w _ hlx, h1, Result.andThen, zero_sl, hpush, hset, goInt, setBlock]

theorem entryStore_at (w : World) (bm : Nat) (l : List Slot) (n j : Nat) (s : Slot) (v : Value) (ts : List Trial) (hm : w.heap[bm]? = some (.map (entries l) n)) (hs : l[j]? = some s) :
    (Instr.entryStore 90 (.map (some bm)) (.int .i64 (j : Int)) v).run Tryz.prog w = .ok () (setBlock w bm (.map (entries (l.set j { s with v := v, ts := ts })) n)) := by
  have hg := MapKept.run_getObj_map (P := Tryz.prog) hm
  have hf : (entries l).findIdx? (fun e => (e.born : Int) == (j : Int)) = some j := by
    have hj : (entries l).toList[j]? = some ⟨s.key, s.v, j⟩ := by
      have := entriesFrom_get 0 j l
      rw [hs] at this
      simpa [entries] using this
    rw [WideElems.findIdx_arr]
    refine WideElems.findIdx_born ?_ hj
    have : ∀ (i : Nat) (l : List Slot), ((entriesFrom i l).map (·.born)) = List.range' i l.length := by
      intro i l
      induction l generalizing i with
      | nil => rfl
      | cons s l ih => simp [entriesFrom, ih, List.range'_succ]
    show ((entries l).toList.map (·.born)).Nodup
    simp only [entries, this]
    exact List.nodup_range'
  have hmod : (entries l).modify j (fun e => { e with val := v }) = entries (l.set j { s with v := v, ts := ts }) := by
    apply Array.ext'
    rw [Array.toList_modify]
    apply List.ext_getElem?
    intro i
    rw [List.getElem?_modify]
    simp only [entries]
    rw [entriesFrom_get, entriesFrom_get, List.getElem?_set]
    by_cases e : j = i
    · subst e
      have hjl := (List.getElem?_eq_some_iff.1 hs).1
      rw [hs]; simp [hjl, Slot.key]
    · simp [e]
  have hset := MapKept.run_setObj_map (P := Tryz.prog) (.map (entries (l.set j { s with v := v, ts := ts })) n) hm
  simp [Instr.entryStore, hg, Result.andThen, asInt, asIntOf, hf, hmod, hset, setBlock]
end Go.Proofs.YthgfbokfaidklaaGreatDoor
