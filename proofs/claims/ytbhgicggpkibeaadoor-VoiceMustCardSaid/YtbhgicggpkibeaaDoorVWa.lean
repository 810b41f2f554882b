import Derived.Test.YtbhgicggpkibeaaDoorVW12
set_option linter.all false
set_option linter.all false
namespace Go.Proofs.YtbhgicggpkibeaaDoor
open Go.RowKit Go.Sort
set_option maxRecDepth 100000

structure Boy where
  l0 : Int
  l1 : Int
  h0 : Int
  h1 : Int
  g0 : Int
  g1 : Int
  t0 : Int
  t1 : Int
  ls : Int
  b0 : Int
  b1 : Int
  deriving Inhabited

/-- the bounds of the program's own table lie in their variable -/
def Laid (w : World) : Prop := 3 < w.heap.size ∧ w.cell? ⟨3, 0, none⟩ = some (.int .i64 40) ∧ w.cell? ⟨3, 1, none⟩ = some (.int .i64 2) ∧ w.cell? ⟨3, 2, none⟩ = some (.int .i64 40) ∧ w.cell? ⟨3, 3, none⟩ = some (.int .i64 2) ∧ w.cell? ⟨3, 4, none⟩ = some (.int .i64 2) ∧ w.cell? ⟨3, 5, none⟩ = some (.int .i64 1) ∧ w.cell? ⟨3, 6, none⟩ = some (.int .i64 6) ∧ w.cell? ⟨3, 7, none⟩ = some (.int .i64 2) ∧ w.cell? ⟨3, 8, none⟩ = some (.int .i64 9) ∧ w.cell? ⟨3, 9, none⟩ = some (.int .i64 3)
theorem Laid.kept {w W : World} (h : Laid w) (k : Kept w W) : Laid W := by
  obtain ⟨hc, _, hz⟩ := bcell k
  obtain ⟨h5, h⟩ := h
  refine ⟨Nat.lt_of_lt_of_le h5 hz, ?_⟩
  rw [hc 3 0 (by omega), hc 3 1 (by omega), hc 3 2 (by omega), hc 3 3 (by omega), hc 3 4 (by omega), hc 3 5 (by omega), hc 3 6 (by omega), hc 3 7 (by omega), hc 3 8 (by omega), hc 3 9 (by omega)]
  exact h

def BoysAt (w : World) (b o : Nat) (l : List Boy) : Prop := b < w.heap.size ∧ ∀ i x, l[i]? = some x → w.cell? ⟨b, o + i * 11, none⟩ = some (.int .i64 x.l0) ∧ w.cell? ⟨b, o + i * 11 + 1, none⟩ = some (.int .i64 x.l1) ∧ w.cell? ⟨b, o + i * 11 + 2, none⟩ = some (.int .i64 x.h0) ∧ w.cell? ⟨b, o + i * 11 + 3, none⟩ = some (.int .i64 x.h1) ∧ w.cell? ⟨b, o + i * 11 + 4, none⟩ = some (.int .i64 x.g0) ∧ w.cell? ⟨b, o + i * 11 + 5, none⟩ = some (.int .i64 x.g1) ∧ w.cell? ⟨b, o + i * 11 + 6, none⟩ = some (.int .i64 x.t0) ∧ w.cell? ⟨b, o + i * 11 + 7, none⟩ = some (.int .i64 x.t1) ∧ w.cell? ⟨b, o + i * 11 + 8, none⟩ = some (.int .i64 x.ls) ∧ w.cell? ⟨b, o + i * 11 + 9, none⟩ = some (.int .i64 x.b0) ∧ w.cell? ⟨b, o + i * 11 + 10, none⟩ = some (.int .i64 x.b1)
theorem BoysAt.kept {w W : World} {b o : Nat} {l : List Boy} (h : BoysAt w b o l) (k : Kept w W) : BoysAt W b o l := by
  obtain ⟨hc, _, hz⟩ := bcell k
  refine ⟨Nat.lt_of_lt_of_le h.1 hz, fun i x hi => ?_⟩
  have := h.2 i x hi
  rw [hc _ _ h.1, hc _ _ h.1, hc _ _ h.1, hc _ _ h.1, hc _ _ h.1, hc _ _ h.1, hc _ _ h.1, hc _ _ h.1, hc _ _ h.1, hc _ _ h.1, hc _ _ h.1]
  exact this

def Boy.okB (x : Boy) : Bool := spanAt x.l0 x.l1 x.h0 x.h1 x.g0 x.g1 x.t0 x.t1 x.ls x.b0 x.b1 0 && spanAt x.l0 x.l1 x.h0 x.h1 x.g0 x.g1 x.t0 x.t1 x.ls x.b0 x.b1 1 && spanAt x.l0 x.l1 x.h0 x.h1 x.g0 x.g1 x.t0 x.t1 x.ls x.b0 x.b1 2 && spanAt x.l0 x.l1 x.h0 x.h1 x.g0 x.g1 x.t0 x.t1 x.ls x.b0 x.b1 3 && spanAt x.l0 x.l1 x.h0 x.h1 x.g0 x.g1 x.t0 x.t1 x.ls x.b0 x.b1 4 && inB x.ls 0 2

theorem validP_eq (x : Boy) (r : Bool) (h : ValidP (spanAt x.l0 x.l1 x.h0 x.h1 x.g0 x.g1 x.t0 x.t1 x.ls x.b0 x.b1) (inB x.ls 0 2) r) : r = x.okB := by
  unfold ValidP at h
  rw [Bool.eq_iff_iff, h]
  simp only [Boy.okB, Bool.and_eq_true]
  constructor
  · intro ⟨a, b⟩
    exact ⟨⟨⟨⟨⟨a 0 (by omega), a 1 (by omega)⟩, a 2 (by omega)⟩, a 3 (by omega)⟩, a 4 (by omega)⟩, b⟩
  · rintro ⟨⟨⟨⟨⟨a0, a1⟩, a2⟩, a3⟩, a4⟩, b⟩
    refine ⟨fun j hj => ?_, b⟩
    rcases (show j = 0 ∨ j = 1 ∨ j = 2 ∨ j = 3 ∨ j = 4 by omega) with rfl | rfl | rfl | rfl | rfl <;> assumption

theorem validBoy_eq (x : Boy) (w : World) (hL : Laid w) : Calls Tryd.prog 119 #[.agg #[.int .i64 x.l0, .int .i64 x.l1, .int .i64 x.h0, .int .i64 x.h1, .int .i64 x.g0, .int .i64 x.g1, .int .i64 x.t0, .int .i64 x.t1, .int .i64 x.ls, .int .i64 x.b0, .int .i64 x.b1]] w fun e w' => e = .returned (.bool x.okB) ∧ Kept w w' :=
  (validBoy_any x.l0 x.l1 x.h0 x.h1 x.g0 x.g1 x.t0 x.t1 x.ls x.b0 x.b1 w hL.1 hL.2).mono fun e w' ⟨r, hp, he, hk⟩ => ⟨by rw [he, validP_eq x r hp], hk⟩

theorem valid_few (p : Option Addr) (nb cap : Nat) (wks : Int) (ts : Value) (w : World) (hl : nb ≤ 140737488355328) (h : inB nb 1 4 = false) :
   Calls Tryd.prog 82 #[.agg #[.slice p nb cap, .int .i64 wks, ts]] w fun e w' => e = .returned (.bool false) ∧ Kept w w' := by
  have H := Lib.hid h; clear h
  go_enter Tryd.func82, Tryd.ntmps82
  go_wp2_with fail
  refine (isIn_any _ _ _ _).mono ?_
  rintro e w' ⟨rfl, rfl⟩
  rw [H.out]
  go_wp2_with fail
  go_ret
  exact ⟨rfl, kept_alloc (kept_refl _) _⟩

theorem valid_weeks (p : Option Addr) (nb cap : Nat) (wks : Int) (ts : Value) (w : World) (hl : nb ≤ 140737488355328) (h : inB nb 1 4 = true) (h2 : inB wks 1 6 = false) :
   Calls Tryd.prog 82 #[.agg #[.slice p nb cap, .int .i64 wks, ts]] w fun e w' => e = .returned (.bool false) ∧ Kept w w' := by
  have H := Lib.hid h; clear h
  have H2 := Lib.hid h2; clear h2
  go_enter Tryd.func82, Tryd.ntmps82
  go_wp2_with fail
  refine (isIn_any _ _ _ _).mono ?_
  rintro e w' ⟨rfl, rfl⟩
  rw [H.out]
  go_wp2_with fail
  refine (isIn_any _ _ _ _).mono ?_
  rintro e w' ⟨rfl, rfl⟩
  rw [H2.out]
  go_wp2_with fail
  go_ret
  exact ⟨rfl, kept_alloc (kept_refl _) _⟩

theorem valid_many (p q : Option Addr) (nb cap nt capt : Nat) (wks : Int) (w : World) (hl : nb ≤ 140737488355328) (ht : nt ≤ maxLen) (h : inB nb 1 4 = true) (h2 : inB wks 1 6 = true) (h3 : 6 < nt) :
   Calls Tryd.prog 82 #[.agg #[.slice p nb cap, .int .i64 wks, .slice q nt capt]] w fun e w' => e = .returned (.bool false) ∧ Kept w w' := by
  unfold maxLen at ht
  have H := Lib.hid h; clear h
  have H2 := Lib.hid h2; clear h2
  have hd : decide (6 < nt) = true := by simpa using h3
  have hdi : decide ((6 : Int) < nt) = true := by simp; omega
  go_enter Tryd.func82, Tryd.ntmps82
  go_wp2_with fail
  refine (isIn_any _ _ _ _).mono ?_
  rintro e w' ⟨rfl, rfl⟩
  rw [H.out]
  go_wp2_with fail
  refine (isIn_any _ _ _ _).mono ?_
  rintro e w' ⟨rfl, rfl⟩
  rw [H2.out]
  go_wp2_with fail
  go_ret
  exact ⟨rfl, kept_alloc (kept_refl _) _⟩
end Go.Proofs.YtbhgicggpkibeaaDoor
set_option linter.all false
namespace Go.Proofs.YtbhgicggpkibeaaDoor
open Go.RowKit Go.Sort
set_option maxRecDepth 100000

def ValidAll (lb : List Boy) (lt : List Trial) (wks : Nat) (r : Bool) : Prop := r = true ↔ lb.all Boy.okB = true ∧ lt.all (validTrialB lb.length wks) = true

set_option maxHeartbeats 2000000 in
theorem valid_loop (b o capb capt : Nat) (q : Option Addr) (lb : List Boy) (lt : List Trial) (wks : Nat) (w : World) (hL : Laid w) (hB : BoysAt w b o lb) (hb1 : 1 ≤ lb.length) (hb4 : lb.length ≤ 4) (hw1 : 1 ≤ wks) (hw6 : wks ≤ 6) (ht : lt.length ≤ 6)
   (hT : lt = [] ∨ ∃ bT oT, q = some ⟨bT, oT, none⟩ ∧ TrialsAt w bT oT lt) (h : inB lb.length 1 4 = true) (h2 : inB wks 1 6 = true) :
   Calls Tryd.prog 82 #[.agg #[Value.slice (some ⟨b, o, none⟩) lb.length capb, Value.int IntKind.i64 ↑wks, Value.slice q lt.length capt]] w (ToldB (ValidAll lb lt wks) w) := by
  have H := Lib.hid h; clear h
  have H2 := Lib.hid h2; clear h2
  have HT := Lib.hid hT; clear hT
  have hd : decide (6 < lt.length) = false := by simp; omega
  have hdi : decide ((6 : Int) < lt.length) = false := by simp; omega
  have hk0 : Kept w (w.alloc (Obj.cells #[Value.slice (some ⟨b, o, none⟩) lb.length capb, Value.int IntKind.i64 ↑wks, Value.slice q lt.length capt] 25)) := kept_alloc (kept_refl _) _
  have hzW : w.heap.size < (w.alloc (Obj.cells #[Value.slice (some ⟨b, o, none⟩) lb.length capb, Value.int IntKind.i64 ↑wks, Value.slice q lt.length capt] 25)).heap.size := by simp
  have d0 : (w.alloc (Obj.cells #[Value.slice (some ⟨b, o, none⟩) lb.length capb, Value.int IntKind.i64 ↑wks, Value.slice q lt.length capt] 25)).cell? ⟨w.heap.size, 0, none⟩ = some (Value.slice (some ⟨b, o, none⟩) lb.length capb) := by go_simp
  have d1 : (w.alloc (Obj.cells #[Value.slice (some ⟨b, o, none⟩) lb.length capb, Value.int IntKind.i64 ↑wks, Value.slice q lt.length capt] 25)).cell? ⟨w.heap.size, 1, none⟩ = some (Value.int IntKind.i64 ↑wks) := by go_simp
  have d2 : (w.alloc (Obj.cells #[Value.slice (some ⟨b, o, none⟩) lb.length capb, Value.int IntKind.i64 ↑wks, Value.slice q lt.length capt] 25)).cell? ⟨w.heap.size, 2, none⟩ = some (Value.slice q lt.length capt) := by go_simp
  go_enter Tryd.func82, Tryd.ntmps82
  go_wp2_with fail
  refine (isIn_any _ _ _ _).mono ?_
  rintro e w' ⟨rfl, rfl⟩
  rw [H.out]
  go_wp2_with fail
  refine (isIn_any _ _ _ _).mono ?_
  rintro e w' ⟨rfl, rfl⟩
  rw [H2.out]
  go_wp2_with fail
  generalize w.alloc (Obj.cells #[Value.slice (some ⟨b, o, none⟩) lb.length capb, Value.int IntKind.i64 ↑wks, Value.slice q lt.length capt] 25) = W0 at *
  go_loopw [27] (fun i W => ∃ k : Nat, k ≤ lb.length ∧ i = .int .i64 k ∧ (∀ j x, j < k → lb[j]? = some x → x.okB = true) ∧ Kept W0 W) (fun i W => lb.length - (intOf i).toNat)
  case atStart => exact ⟨0, by omega, rfl, fun j x hj => by omega, kept_refl _⟩
  case round =>
    obtain ⟨k, hk, rfl, hno, hkW⟩ := hrel
    have HNO := Lib.hid hno; clear hno
    by_cases hlt : k < lb.length
    · have hltI : (k : Int) < lb.length := by omega
      have hget : lb[k]? = some lb[k] := List.getElem?_eq_getElem hlt
      have hmem : lb[k] ∈ lb := List.getElem_mem hlt
      generalize lb[k] = x at *
      obtain ⟨c0, c1, c2, c3, c4, c5, c6, c7, c8, c9, c10⟩ := ((hB.kept hk0).kept hkW).2 k x hget
      have HG := Lib.hid hget; clear hget
      have D := Lib.hid (And.intro d0 (And.intro d1 d2)); clear d0 d1 d2
      go_wp2_with fail
      refine (validBoy_eq x _ (((hL.kept hk0).kept hkW).kept (kept_alloc (kept_refl _) _))).mono ?_
      rintro e w' ⟨rfl, hk2⟩
      have hkW2 := kept_trans hkW (kept_trans (kept_alloc (kept_refl _) _) hk2)
      clear c0 c1 c2 c3 c4 c5 c6 c7 c8 c9 c10
      rcases hv : x.okB with _ | _
      · have HP : Hid (¬ (lb.all Boy.okB = true)) := Lib.hid (by
          intro hall
          have := List.all_eq_true.1 hall x hmem
          rw [hv] at this; cases this)
        clear hv
        go_wp2_with fail
        go_ret
        exact ⟨false, (show ValidAll _ _ _ _ from ⟨(fun h => by cases h), (fun h => absurd h.1 HP.out)⟩), rfl, kept_trans hk0 hkW2⟩
      · have HNEW : Hid (∀ j x, j < k + 1 → lb[j]? = some x → x.okB = true) := Lib.hid (by
          intro j y hj hg
          by_cases e : j = k
          · subst e; rw [HG.out] at hg; cases hg; exact hv
          · exact HNO.out j y (by omega) hg)
        clear hv
        go_wp2_with fail
        go_roundw
        case rel => exact ⟨k + 1, by omega, by go_num, HNEW.out, hkW2⟩
        case measure => simp [intOf]; omega
    · have HP : Hid (lb.all Boy.okB = true) := Lib.hid (by
        rw [List.all_eq_true]
        intro x hx
        obtain ⟨j, hj, rfl⟩ := List.getElem_of_mem hx
        exact HNO.out j _ (by omega) (List.getElem?_eq_getElem hj))
      have hltI : ¬ (k : Int) < lb.length := by omega
      have e0 := ((bcell hkW).1 w.heap.size 0 hzW).trans d0
      have e1 := ((bcell hkW).1 w.heap.size 1 hzW).trans d1
      have e2 := ((bcell hkW).1 w.heap.size 2 hzW).trans d2
      have hzr := Nat.lt_of_lt_of_le hzW (bcell hkW).2.2
      clear d0 d1 d2
      have hkk0 := kept_trans hk0 hkW
      have HB := Lib.hid hB; clear hB
      go_wp2_with fail
      go_loopw [38] (fun i W => ∃ k : Nat, k ≤ lt.length ∧ i = .int .i64 k ∧ (∀ j t, j < k → lt[j]? = some t → validTrialB lb.length wks t = true) ∧ Kept wr W) (fun i W => lt.length - (intOf i).toNat)
      case atStart => exact ⟨0, by omega, rfl, fun j x hj => by omega, kept_refl _⟩
      case round =>
        obtain ⟨k2, hk2, rfl, hno2, hkW2⟩ := hrel
        have HNO2 := Lib.hid hno2; clear hno2
        rename_i wq
        have hkk2 := kept_trans hkk0 hkW2
        by_cases hlt2 : k2 < lt.length
        · have hltI2 : (k2 : Int) < lt.length := by omega
          have hget : lt[k2]? = some lt[k2] := List.getElem?_eq_getElem hlt2
          have hmem : lt[k2] ∈ lt := List.getElem_mem hlt2
          generalize lt[k2] = t at *
          rcases HT.out with h0 | ⟨bT, oT, rfl, hTT⟩
          · rw [h0] at hmem; cases hmem
          obtain ⟨c0, c1, c2, c3⟩ := (hTT.kept hkk2).2 k2 t hget
          have f0 := ((bcell hkW2).1 w.heap.size 0 hzr).trans e0
          have f1 := ((bcell hkW2).1 w.heap.size 1 hzr).trans e1
          have f2 := ((bcell hkW2).1 w.heap.size 2 hzr).trans e2
          have hzr2 := Nat.lt_of_lt_of_le hzr (bcell hkW2).2.2
          have HG := Lib.hid hget; clear hget
          have D := Lib.hid (And.intro e0 (And.intro e1 e2)); clear e0 e1 e2
          go_wp2_with fail
          refine (validTrial_any (some ⟨b, o, none⟩) lb.length capb wks (.slice (some ⟨bT, oT, none⟩) lt.length capt) t _ (by omega) (by omega)).mono ?_
          rintro e w' ⟨rfl, hk3⟩
          have hkW3 := kept_trans hkW2 (kept_trans (kept_alloc (kept_refl _) _) hk3)
          clear c0 c1 c2 c3 f0 f1 f2
          rcases hv : validTrialB lb.length wks t with _ | _
          · have HP2 : Hid (¬ (lt.all (validTrialB lb.length wks) = true)) := Lib.hid (by
              intro hall
              have := List.all_eq_true.1 hall t hmem
              rw [hv] at this; cases this)
            clear hv
            go_wp2_with fail
            go_ret
            exact ⟨false, (show ValidAll _ _ _ _ from ⟨(fun h => by cases h), (fun h => absurd h.2 HP2.out)⟩), rfl, kept_trans hkk0 hkW3⟩
          · have HNEW : Hid (∀ j t, j < k2 + 1 → lt[j]? = some t → validTrialB lb.length wks t = true) := Lib.hid (by
              intro j y hj hg
              by_cases e : j = k2
              · subst e; rw [HG.out] at hg; cases hg; exact hv
              · exact HNO2.out j y (by omega) hg)
            clear hv
            go_wp2_with fail
            go_roundw
            case rel => exact ⟨k2 + 1, by omega, by go_num, HNEW.out, hkW3⟩
            case measure => simp [intOf]; omega
        · have HP2 : Hid (lt.all (validTrialB lb.length wks) = true) := Lib.hid (by
            rw [List.all_eq_true]
            intro x hx
            obtain ⟨j, hj, rfl⟩ := List.getElem_of_mem hx
            exact HNO2.out j _ (by omega) (List.getElem?_eq_getElem hj))
          have hltI2 : ¬ (k2 : Int) < lt.length := by omega
          clear e0 e1 e2
          go_wp2_with fail
          go_ret
          exact ⟨true, (show ValidAll _ _ _ _ from ⟨(fun _ => ⟨HP.out, HP2.out⟩), (fun _ => rfl)⟩), rfl, hkk2⟩
end Go.Proofs.YtbhgicggpkibeaaDoor
set_option linter.all false
namespace Go.Proofs.YtbhgicggpkibeaaDoor
open Go.RowKit Go.Sort
set_option maxRecDepth 100000

structure Book where
  boys : List Boy
  weeks : Int
  trials : List Trial
  deriving Inhabited

/-- a value that reads as this book -/
structure BookAt (w : World) (p q : Option Addr) (cap capt : Nat) (B : Book) : Prop where
  laid : Laid w
  nb : B.boys.length ≤ 140737488355328
  nt : B.trials.length ≤ 140737488355328
  boys : B.boys = [] ∨ ∃ b o, p = some ⟨b, o, none⟩ ∧ BoysAt w b o B.boys
  trials : B.trials = [] ∨ ∃ b o, q = some ⟨b, o, none⟩ ∧ TrialsAt w b o B.trials
theorem BookAt.kept {w W : World} {p q : Option Addr} {cap capt : Nat} {B : Book} (h : BookAt w p q cap capt B) (k : Kept w W) : BookAt W p q cap capt B where
  laid := h.laid.kept k
  nb := h.nb
  nt := h.nt
  boys := h.boys.imp id fun ⟨b, o, e, hb⟩ => ⟨b, o, e, hb.kept k⟩
  trials := h.trials.imp id fun ⟨b, o, e, hb⟩ => ⟨b, o, e, hb.kept k⟩

def Book.okB (B : Book) : Bool := inB B.boys.length 1 4 && inB B.weeks 1 6 && decide (B.trials.length ≤ 6) && B.boys.all Boy.okB && B.trials.all (validTrialB B.boys.length B.weeks.toNat)

theorem valid_any (p q : Option Addr) (cap capt : Nat) (B : Book) (w : World) (h : BookAt w p q cap capt B) :
   Calls Tryd.prog 82 #[.agg #[.slice p B.boys.length cap, .int .i64 B.weeks, .slice q B.trials.length capt]] w fun e w' => e = .returned (.bool B.okB) ∧ Kept w w' := by
  obtain ⟨boys, weeks, trials⟩ := B
  obtain ⟨hL, hnb, hnt, hB, hT⟩ := h
  simp only at hL hnb hnt hB hT ⊢
  rcases h1 : inB boys.length 1 4 with _ | _
  · simpa [Book.okB, h1] using valid_few p boys.length cap weeks (.slice q trials.length capt) w hnb h1
  rcases h2 : inB weeks 1 6 with _ | _
  · simpa [Book.okB, h1, h2] using valid_weeks p boys.length cap weeks (.slice q trials.length capt) w hnb h1 h2
  by_cases h3 : trials.length ≤ 6
  · have hb : 1 ≤ boys.length ∧ boys.length ≤ 4 := by simp [inB] at h1; omega
    have hw : 1 ≤ weeks ∧ weeks ≤ 6 := by simpa [inB] using h2
    obtain ⟨wk, rfl⟩ := Int.eq_ofNat_of_zero_le (show 0 ≤ weeks by omega)
    rcases hB with hB | ⟨b, o, rfl, hB⟩
    · rw [hB] at hb; simp at hb
    refine (valid_loop b o cap capt q boys trials wk w hL hB hb.1 hb.2 (by omega) (by omega) h3 hT h1 h2).mono ?_
    rintro e w' ⟨r, hr, rfl, hk⟩
    refine ⟨?_, hk⟩
    unfold ValidAll at hr
    have e1 : (Book.mk boys (wk : Int) trials).okB = r := by
      rw [Bool.eq_iff_iff, hr]
      simp only [Book.okB, h1, h2, decide_eq_true h3, Bool.true_and, Bool.and_eq_true, Int.toNat_natCast]
    rw [e1]
  · have e1 : (Book.mk boys weeks trials).okB = false := by
      simp only [Book.okB, decide_eq_false h3, Bool.and_false, Bool.false_and]
    rw [e1]
    exact valid_many p q boys.length cap trials.length capt weeks w hnb (by unfold maxLen; omega) h1 h2 (by omega)

theorem check_any (p q : Option Addr) (cap capt : Nat) (B : Book) (w : World) (h : BookAt w p q cap capt B) :
   Calls Tryd.prog 35 #[.agg #[.slice p B.boys.length cap, .int .i64 B.weeks, .slice q B.trials.length capt]] w fun e w' => e = .returned (.int .i64 (if B.okB then 0 else 20)) ∧ Kept w w' := by
  have hk0 : Kept w (w.alloc (Obj.cells #[.slice p B.boys.length cap, .int .i64 B.weeks, .slice q B.trials.length capt] 25)) := kept_alloc (kept_refl _) _
  have hb := h.kept hk0
  rcases hg : B.okB with _ | _
  all_goals
    have HG := Lib.hid hg; clear hg
    have HB := Lib.hid hb; clear hb
    have HH := Lib.hid h; clear h
    go_enter Tryd.func35, Tryd.ntmps35
    go_wp2_with fail
    refine (valid_any p q cap capt B _ HB.out).mono ?_
    rintro e w' ⟨rfl, hk⟩
    have hkk := kept_trans hk0 hk
    rw [HG.out]
    go_wp2_with fail
    go_ret
    exact ⟨rfl, hkk⟩
end Go.Proofs.YtbhgicggpkibeaaDoor
