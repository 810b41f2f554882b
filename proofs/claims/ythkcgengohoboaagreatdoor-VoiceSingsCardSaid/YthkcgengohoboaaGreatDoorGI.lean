/- A part of the proof: contracts of the program's functions for every input. No conditions. -/
import Derived.Test.YthkcgengohoboaaGreatDoorGH
import Derived.Test.YthkcgengohoboaaGreatDoorGE
import Derived.Test.YthkcgengohoboaaGreatDoorGG
import Derived.Sort.QuietTacIn
set_option linter.all false
namespace Go.Proofs.YthkcgengohoboaaGreatDoor
open Go.RowKit Go.Sort Go.Rg
set_option maxRecDepth 100000
def Boy.fair (x : Boy) : Bool := fairB x.l0 x.l1 40 2 && fairB x.h0 x.h1 40 2 && fairB x.g0 x.g1 2 1 && fairB x.t0 x.t1 6 2 && inB x.ls 0 2 && fairB x.b0 x.b1 9 3
theorem fair_okB (x : Boy) : x.fair = x.okB := by
  rw [Bool.eq_iff_iff]
  simp only [Boy.fair, Boy.okB, fairB, spanAt, spanB, inB, Bool.and_eq_true, decide_eq_true_eq, Bool.not_eq_true', decide_eq_false_iff_not]
  omega
theorem fair_all (l : List Boy) : l.all Boy.fair = l.all Boy.okB := by rw [show Boy.fair = Boy.okB from funext fair_okB]
theorem rtrial_ok {len : Nat} {wk : Int} (h1 : 1 ≤ wk) (h2 : wk ≤ 6) (t : Trial) : rtrialB len wk t = validTrialB len wk.toNat t := by
  unfold rtrialB validTrialB
  rw [IntWalk.wrap64_in (wk - 1) (by omega), show ((wk.toNat : Nat) : Int) = wk by omega]
theorem take_all {α : Type} {f : α → Bool} {l : List α} {k : Nat} {x : α} (hx : l[k]? = some x) (h : (l.take k).all f = true) : (l.take (k + 1)).all f = f x := by
  rw [List.take_succ, hx, List.all_append, h]
  simp
theorem take_no {α : Type} {f : α → Bool} {l : List α} {k : Nat} (h : (l.take k).all f = false) : l.all f = false := by
  rw [List.all_eq_false] at h ⊢
  obtain ⟨x, hx, hf⟩ := h
  exact ⟨x, List.mem_of_mem_take hx, hf⟩
set_option maxHeartbeats 4000000 in
theorem rcheck_0 (p q : Option Addr) (cap capt : Nat) (B : Book) (W : World) (h : BookAt W p q cap capt B) (g0 : inB (B.boys.length : Int) 1 4 = false) (hok : B.okB = false) :
    Calls Tryz.prog 11 #[B.val p q cap capt] W fun e C => e = .returned (.int .i64 (if B.okB then 0 else 20)) ∧ Kept W C := by
  unfold Book.val
  obtain ⟨hk0, a0, a1, a2⟩ := bk0 W p q cap capt B
  have HB := Lib.hid h; clear h
  go_enter Tryz.func11, Tryz.ntmps11
  go_wp2_with fail
  generalize (W.alloc (Obj.cells #[.slice p B.boys.length cap, .int .i64 B.weeks, .slice q B.trials.length capt] 25)) = W0 at *
  have hz := Go.Ai.lt_of_cell a0
  go_wp2_with (go_at_call 37; refine (lies_any _ _ _ _).mono ?_; rintro e w' ⟨rfl, rfl⟩; first | rw [g0])
  go_loopw [3, 4] (fun ok i V => ok = .bool false ∧ Kept W0 V) (fun ok i V => 0)
  case atStart => exact ⟨rfl, kept_refl _⟩
  case round =>
    obtain ⟨rfl, hkV⟩ := hrel
    go_wp2_with fail
    go_loopw [3, 6] (fun ok i V => ok = .bool false ∧ Kept W0 V) (fun ok i V => 0)
    case atStart => exact ⟨rfl, hkV⟩
    case round =>
      obtain ⟨rfl, hkV⟩ := hrel
      go_wp2_with fail
      all_goals
        refine bodyPost_ret (v := .int .i64 20) (by simp [results, Tryz.results11, go_sem]) rfl ?_
        exact ⟨by first | rfl | (rw [hok]; rfl), kept_trans hk0 hkV⟩
set_option maxHeartbeats 4000000 in
theorem rcheck_1 (p q : Option Addr) (cap capt : Nat) (B : Book) (W : World) (h : BookAt W p q cap capt B) (g0 : inB (B.boys.length : Int) 1 4 = true) (g1 : inB B.weeks 1 6 = false) (hok : B.okB = false) :
    Calls Tryz.prog 11 #[B.val p q cap capt] W fun e C => e = .returned (.int .i64 (if B.okB then 0 else 20)) ∧ Kept W C := by
  unfold Book.val
  obtain ⟨hk0, a0, a1, a2⟩ := bk0 W p q cap capt B
  have HB := Lib.hid h; clear h
  go_enter Tryz.func11, Tryz.ntmps11
  go_wp2_with fail
  generalize (W.alloc (Obj.cells #[.slice p B.boys.length cap, .int .i64 B.weeks, .slice q B.trials.length capt] 25)) = W0 at *
  have hz := Go.Ai.lt_of_cell a0
  go_wp2_with (go_at_call 37; refine (lies_any _ _ _ _).mono ?_; rintro e w' ⟨rfl, rfl⟩; first | rw [g0] | rw [g1])
  go_loopw [3, 4] (fun ok i V => ok = .bool false ∧ Kept W0 V) (fun ok i V => 0)
  case atStart => exact ⟨rfl, kept_refl _⟩
  case round =>
    obtain ⟨rfl, hkV⟩ := hrel
    go_wp2_with fail
    go_loopw [3, 6] (fun ok i V => ok = .bool false ∧ Kept W0 V) (fun ok i V => 0)
    case atStart => exact ⟨rfl, hkV⟩
    case round =>
      obtain ⟨rfl, hkV⟩ := hrel
      go_wp2_with fail
      all_goals
        refine bodyPost_ret (v := .int .i64 20) (by simp [results, Tryz.results11, go_sem]) rfl ?_
        exact ⟨by first | rfl | (rw [hok]; rfl), kept_trans hk0 hkV⟩
set_option maxHeartbeats 4000000 in
theorem rcheck_2 (p q : Option Addr) (cap capt : Nat) (B : Book) (W : World) (h : BookAt W p q cap capt B) (g0 : inB (B.boys.length : Int) 1 4 = true) (g1 : inB B.weeks 1 6 = true) (g2 : decide ((B.trials.length : Int) ≤ 6) = false) (hok : B.okB = false) :
    Calls Tryz.prog 11 #[B.val p q cap capt] W fun e C => e = .returned (.int .i64 (if B.okB then 0 else 20)) ∧ Kept W C := by
  unfold Book.val
  obtain ⟨hk0, a0, a1, a2⟩ := bk0 W p q cap capt B
  have HB := Lib.hid h; clear h
  go_enter Tryz.func11, Tryz.ntmps11
  go_wp2_with fail
  generalize (W.alloc (Obj.cells #[.slice p B.boys.length cap, .int .i64 B.weeks, .slice q B.trials.length capt] 25)) = W0 at *
  have hz := Go.Ai.lt_of_cell a0
  go_wp2_with (go_at_call 37; refine (lies_any _ _ _ _).mono ?_; rintro e w' ⟨rfl, rfl⟩; first | rw [g0] | rw [g1])
  go_loopw [3, 4] (fun ok i V => ok = .bool false ∧ Kept W0 V) (fun ok i V => 0)
  case atStart => exact ⟨rfl, kept_refl _⟩
  case round =>
    obtain ⟨rfl, hkV⟩ := hrel
    go_wp2_with fail
    go_loopw [3, 6] (fun ok i V => ok = .bool false ∧ Kept W0 V) (fun ok i V => 0)
    case atStart => exact ⟨rfl, hkV⟩
    case round =>
      obtain ⟨rfl, hkV⟩ := hrel
      go_wp2_with fail
      all_goals
        refine bodyPost_ret (v := .int .i64 20) (by simp [results, Tryz.results11, go_sem]) rfl ?_
        exact ⟨by first | rfl | (rw [hok]; rfl), kept_trans hk0 hkV⟩
theorem bmc (wr : World) (x : Boy) : Kept wr (wr.alloc (Obj.cells #[.int .i64 x.l0, .int .i64 x.l1, .int .i64 x.h0, .int .i64 x.h1, .int .i64 x.g0, .int .i64 x.g1, .int .i64 x.t0, .int .i64 x.t1, .int .i64 x.ls, .int .i64 x.b0, .int .i64 x.b1] 97)) ∧ (wr.alloc (Obj.cells #[.int .i64 x.l0, .int .i64 x.l1, .int .i64 x.h0, .int .i64 x.h1, .int .i64 x.g0, .int .i64 x.g1, .int .i64 x.t0, .int .i64 x.t1, .int .i64 x.ls, .int .i64 x.b0, .int .i64 x.b1] 97)).cell? ⟨wr.heap.size, 0, none⟩ = some (.int .i64 x.l0) ∧ (wr.alloc (Obj.cells #[.int .i64 x.l0, .int .i64 x.l1, .int .i64 x.h0, .int .i64 x.h1, .int .i64 x.g0, .int .i64 x.g1, .int .i64 x.t0, .int .i64 x.t1, .int .i64 x.ls, .int .i64 x.b0, .int .i64 x.b1] 97)).cell? ⟨wr.heap.size, 1, none⟩ = some (.int .i64 x.l1) ∧ (wr.alloc (Obj.cells #[.int .i64 x.l0, .int .i64 x.l1, .int .i64 x.h0, .int .i64 x.h1, .int .i64 x.g0, .int .i64 x.g1, .int .i64 x.t0, .int .i64 x.t1, .int .i64 x.ls, .int .i64 x.b0, .int .i64 x.b1] 97)).cell? ⟨wr.heap.size, 2, none⟩ = some (.int .i64 x.h0) ∧ (wr.alloc (Obj.cells #[.int .i64 x.l0, .int .i64 x.l1, .int .i64 x.h0, .int .i64 x.h1, .int .i64 x.g0, .int .i64 x.g1, .int .i64 x.t0, .int .i64 x.t1, .int .i64 x.ls, .int .i64 x.b0, .int .i64 x.b1] 97)).cell? ⟨wr.heap.size, 3, none⟩ = some (.int .i64 x.h1) ∧ (wr.alloc (Obj.cells #[.int .i64 x.l0, .int .i64 x.l1, .int .i64 x.h0, .int .i64 x.h1, .int .i64 x.g0, .int .i64 x.g1, .int .i64 x.t0, .int .i64 x.t1, .int .i64 x.ls, .int .i64 x.b0, .int .i64 x.b1] 97)).cell? ⟨wr.heap.size, 4, none⟩ = some (.int .i64 x.g0) ∧ (wr.alloc (Obj.cells #[.int .i64 x.l0, .int .i64 x.l1, .int .i64 x.h0, .int .i64 x.h1, .int .i64 x.g0, .int .i64 x.g1, .int .i64 x.t0, .int .i64 x.t1, .int .i64 x.ls, .int .i64 x.b0, .int .i64 x.b1] 97)).cell? ⟨wr.heap.size, 5, none⟩ = some (.int .i64 x.g1) ∧ (wr.alloc (Obj.cells #[.int .i64 x.l0, .int .i64 x.l1, .int .i64 x.h0, .int .i64 x.h1, .int .i64 x.g0, .int .i64 x.g1, .int .i64 x.t0, .int .i64 x.t1, .int .i64 x.ls, .int .i64 x.b0, .int .i64 x.b1] 97)).cell? ⟨wr.heap.size, 6, none⟩ = some (.int .i64 x.t0) ∧ (wr.alloc (Obj.cells #[.int .i64 x.l0, .int .i64 x.l1, .int .i64 x.h0, .int .i64 x.h1, .int .i64 x.g0, .int .i64 x.g1, .int .i64 x.t0, .int .i64 x.t1, .int .i64 x.ls, .int .i64 x.b0, .int .i64 x.b1] 97)).cell? ⟨wr.heap.size, 7, none⟩ = some (.int .i64 x.t1) ∧ (wr.alloc (Obj.cells #[.int .i64 x.l0, .int .i64 x.l1, .int .i64 x.h0, .int .i64 x.h1, .int .i64 x.g0, .int .i64 x.g1, .int .i64 x.t0, .int .i64 x.t1, .int .i64 x.ls, .int .i64 x.b0, .int .i64 x.b1] 97)).cell? ⟨wr.heap.size, 8, none⟩ = some (.int .i64 x.ls) ∧ (wr.alloc (Obj.cells #[.int .i64 x.l0, .int .i64 x.l1, .int .i64 x.h0, .int .i64 x.h1, .int .i64 x.g0, .int .i64 x.g1, .int .i64 x.t0, .int .i64 x.t1, .int .i64 x.ls, .int .i64 x.b0, .int .i64 x.b1] 97)).cell? ⟨wr.heap.size, 9, none⟩ = some (.int .i64 x.b0) ∧ (wr.alloc (Obj.cells #[.int .i64 x.l0, .int .i64 x.l1, .int .i64 x.h0, .int .i64 x.h1, .int .i64 x.g0, .int .i64 x.g1, .int .i64 x.t0, .int .i64 x.t1, .int .i64 x.ls, .int .i64 x.b0, .int .i64 x.b1] 97)).cell? ⟨wr.heap.size, 10, none⟩ = some (.int .i64 x.b1) := ⟨kept_alloc (kept_refl _) _, by go_simp, by go_simp, by go_simp, by go_simp, by go_simp, by go_simp, by go_simp, by go_simp, by go_simp, by go_simp, by go_simp⟩
set_option maxHeartbeats 16000000 in
theorem rcheck_3 (p q : Option Addr) (cap capt : Nat) (B : Book) (W : World) (h : BookAt W p q cap capt B) (g0 : inB (B.boys.length : Int) 1 4 = true) (g1 : inB B.weeks 1 6 = true) (g2 : decide ((B.trials.length : Int) ≤ 6) = true) (hokE : B.okB = (B.boys.all Boy.fair && B.trials.all (rtrialB B.boys.length B.weeks))) :
    Calls Tryz.prog 11 #[B.val p q cap capt] W fun e C => e = .returned (.int .i64 (if B.okB then 0 else 20)) ∧ Kept W C := by
  have hnb := h.nb
  have HE := Lib.hid hokE; clear hokE
  have ht6 : B.trials.length ≤ 6 := by
    have := of_decide_eq_true g2
    omega
  unfold Book.val
  obtain ⟨hk0, a0, a1, a2⟩ := bk0 W p q cap capt B
  have HB := Lib.hid h; clear h
  obtain ⟨rr, hrr⟩ : ∃ rr : Int, rr = if B.okB then 0 else 20 := ⟨_, rfl⟩
  rw [← hrr]
  have HRR := Lib.hid hrr; clear hrr
  go_enter Tryz.func11, Tryz.ntmps11
  go_wp2_with fail
  generalize (W.alloc (Obj.cells #[.slice p B.boys.length cap, .int .i64 B.weeks, .slice q B.trials.length capt] 25)) = W0 at *
  have hz := Go.Ai.lt_of_cell a0
  have A0 := Lib.hid a0
  have A1 := Lib.hid a1
  have A2 := Lib.hid a2
  go_wp2_with (go_at_call 37; refine (lies_any _ _ _ _).mono ?_; rintro e w' ⟨rfl, rfl⟩; first | rw [g0] | rw [g1])
  go_loopw [3, 4] (fun ok i V => ∃ k : Nat, k ≤ B.boys.length ∧ ok = .bool ((B.boys.take k).all Boy.fair) ∧ i = .int .i64 k ∧ Kept W0 V) (fun ok i V => B.boys.length - (intOf i).toNat)
  case atStart => exact ⟨0, by omega, by simp, by go_num, kept_refl _⟩
  case round =>
    obtain ⟨k, hk, rfl, rfl, hkV⟩ := hrel
    replace a0 := kcell hkV a0
    replace a1 := kcell hkV a1
    replace a2 := kcell hkV a2
    have hz := Go.Ai.lt_of_cell a0
    cases hall : (B.boys.take k).all Boy.fair with
    | false =>
      have HX := Lib.hid (show B.okB = false from by rw [HE.out, take_no hall]; rfl)
      clear hall
      go_wp2_with fail
      go_loopw [3, 6] (fun ok i V => ok = .bool false ∧ Kept W0 V) (fun ok i V => 0)
      case atStart => exact ⟨rfl, hkV⟩
      case round =>
        obtain ⟨rfl, hkV⟩ := hrel
        go_wp2_with fail
        all_goals
          refine bodyPost_ret (v := .int .i64 20) (by simp [results, Tryz.results11, go_sem]) rfl ?_
          exact ⟨by first | rfl | (rw [HRR.out, HX.out]; rfl), kept_trans hk0 hkV⟩
    | true =>
     by_cases hlt : k < B.boys.length
     · have hltI : (k : Int) < B.boys.length := by omega
       obtain ⟨b, o, rfl, hboys⟩ : ∃ b o, p = some ⟨b, o, none⟩ ∧ BoysAt wr b o B.boys := by
         rcases ((HB.out.kept hk0).kept hkV).boys with e | h
         · rw [e] at hlt; cases hlt
         · exact h
       obtain ⟨x, hget⟩ : ∃ x, B.boys[k]? = some x := ⟨_, List.getElem?_eq_getElem hlt⟩
       obtain ⟨c0, c1, c2, c3, c4, c5, c6, c7, c8, c9, c10⟩ := hboys.2 k x hget
       have hiz := hboys.1
       have HST := Lib.hid (show ∀ r, x.fair = r → Value.bool r = .bool ((B.boys.take (k + 1)).all Boy.fair) from fun r hr => by rw [take_all hget hall, hr])
       clear hget hall hboys
       cases g0 : fairB x.l0 x.l1 40 2 with
       | false =>
         go_wp2_with fail
         obtain ⟨kV, m0, m1, m2, m3, m4, m5, m6, m7, m8, m9, m10⟩ := bmc wr x
         generalize (wr.alloc (Obj.cells #[.int .i64 x.l0, .int .i64 x.l1, .int .i64 x.h0, .int .i64 x.h1, .int .i64 x.g0, .int .i64 x.g1, .int .i64 x.t0, .int .i64 x.t1, .int .i64 x.ls, .int .i64 x.b0, .int .i64 x.b1] 97)) = V0 at *
         clear c0 c1 c2 c3 c4 c5 c6 c7 c8 c9 c10
         have hzs := Go.Ai.lt_of_cell m0
         have HF0 := Lib.hid (fun w => show Calls Tryz.prog 62 #[.agg #[.int .i64 x.l0, .int .i64 x.l1], .int .i64 0, .int .i64 40, .int .i64 2] w (fun e w' => e = .returned (.bool false) ∧ Kept w w') from by have := fair_gen x.l0 x.l1 40 2 w (by omega); rw [g0] at this; exact this)
         go_wp2_with (first
           | (go_at_call 62; with_reducible refine (HF0.out _).mono ?_; rintro e w' ⟨rfl, hkk⟩; replace m2 := kcell hkk m2; replace m3 := kcell hkk m3; replace m4 := kcell hkk m4; replace m5 := kcell hkk m5; replace m6 := kcell hkk m6; replace m7 := kcell hkk m7; replace m8 := kcell hkk m8; replace m9 := kcell hkk m9; replace m10 := kcell hkk m10; replace kV := kept_trans kV hkk; clear hkk; replace hzs := Go.Ai.lt_of_cell m10))
         go_roundw
         case rel => exact ⟨k + 1, by omega, HST.out false (by simp [Boy.fair, g0]), by go_num, kept_trans hkV kV⟩
         case measure => simp [intOf]; omega
       | true =>
         cases g1 : fairB x.h0 x.h1 40 2 with
         | false =>
           go_wp2_with fail
           obtain ⟨kV, m0, m1, m2, m3, m4, m5, m6, m7, m8, m9, m10⟩ := bmc wr x
           generalize (wr.alloc (Obj.cells #[.int .i64 x.l0, .int .i64 x.l1, .int .i64 x.h0, .int .i64 x.h1, .int .i64 x.g0, .int .i64 x.g1, .int .i64 x.t0, .int .i64 x.t1, .int .i64 x.ls, .int .i64 x.b0, .int .i64 x.b1] 97)) = V0 at *
           clear c0 c1 c2 c3 c4 c5 c6 c7 c8 c9 c10
           have hzs := Go.Ai.lt_of_cell m0
           have HF0 := Lib.hid (fun w => show Calls Tryz.prog 62 #[.agg #[.int .i64 x.l0, .int .i64 x.l1], .int .i64 0, .int .i64 40, .int .i64 2] w (fun e w' => e = .returned (.bool true) ∧ Kept w w') from by have := fair_gen x.l0 x.l1 40 2 w (by omega); rw [g0] at this; exact this)
           have HF1 := Lib.hid (fun w => show Calls Tryz.prog 62 #[.agg #[.int .i64 x.h0, .int .i64 x.h1], .int .i64 0, .int .i64 40, .int .i64 2] w (fun e w' => e = .returned (.bool false) ∧ Kept w w') from by have := fair_gen x.h0 x.h1 40 2 w (by omega); rw [g1] at this; exact this)
           go_wp2_with (first
             | (go_at_call 62; with_reducible refine (HF0.out _).mono ?_; rintro e w' ⟨rfl, hkk⟩; replace m2 := kcell hkk m2; replace m3 := kcell hkk m3; replace m4 := kcell hkk m4; replace m5 := kcell hkk m5; replace m6 := kcell hkk m6; replace m7 := kcell hkk m7; replace m8 := kcell hkk m8; replace m9 := kcell hkk m9; replace m10 := kcell hkk m10; replace kV := kept_trans kV hkk; clear hkk; replace hzs := Go.Ai.lt_of_cell m10)
             | (go_at_call 62; with_reducible refine (HF1.out _).mono ?_; rintro e w' ⟨rfl, hkk⟩; replace m4 := kcell hkk m4; replace m5 := kcell hkk m5; replace m6 := kcell hkk m6; replace m7 := kcell hkk m7; replace m8 := kcell hkk m8; replace m9 := kcell hkk m9; replace m10 := kcell hkk m10; replace kV := kept_trans kV hkk; clear hkk; replace hzs := Go.Ai.lt_of_cell m10))
           go_roundw
           case rel => exact ⟨k + 1, by omega, HST.out false (by simp [Boy.fair, g1]), by go_num, kept_trans hkV kV⟩
           case measure => simp [intOf]; omega
         | true =>
           cases g2 : fairB x.g0 x.g1 2 1 with
           | false =>
             go_wp2_with fail
             obtain ⟨kV, m0, m1, m2, m3, m4, m5, m6, m7, m8, m9, m10⟩ := bmc wr x
             generalize (wr.alloc (Obj.cells #[.int .i64 x.l0, .int .i64 x.l1, .int .i64 x.h0, .int .i64 x.h1, .int .i64 x.g0, .int .i64 x.g1, .int .i64 x.t0, .int .i64 x.t1, .int .i64 x.ls, .int .i64 x.b0, .int .i64 x.b1] 97)) = V0 at *
             clear c0 c1 c2 c3 c4 c5 c6 c7 c8 c9 c10
             have hzs := Go.Ai.lt_of_cell m0
             have HF0 := Lib.hid (fun w => show Calls Tryz.prog 62 #[.agg #[.int .i64 x.l0, .int .i64 x.l1], .int .i64 0, .int .i64 40, .int .i64 2] w (fun e w' => e = .returned (.bool true) ∧ Kept w w') from by have := fair_gen x.l0 x.l1 40 2 w (by omega); rw [g0] at this; exact this)
             have HF1 := Lib.hid (fun w => show Calls Tryz.prog 62 #[.agg #[.int .i64 x.h0, .int .i64 x.h1], .int .i64 0, .int .i64 40, .int .i64 2] w (fun e w' => e = .returned (.bool true) ∧ Kept w w') from by have := fair_gen x.h0 x.h1 40 2 w (by omega); rw [g1] at this; exact this)
             have HF2 := Lib.hid (fun w => show Calls Tryz.prog 62 #[.agg #[.int .i64 x.g0, .int .i64 x.g1], .int .i64 0, .int .i64 2, .int .i64 1] w (fun e w' => e = .returned (.bool false) ∧ Kept w w') from by have := fair_gen x.g0 x.g1 2 1 w (by omega); rw [g2] at this; exact this)
             go_wp2_with (first
               | (go_at_call 62; with_reducible refine (HF0.out _).mono ?_; rintro e w' ⟨rfl, hkk⟩; replace m2 := kcell hkk m2; replace m3 := kcell hkk m3; replace m4 := kcell hkk m4; replace m5 := kcell hkk m5; replace m6 := kcell hkk m6; replace m7 := kcell hkk m7; replace m8 := kcell hkk m8; replace m9 := kcell hkk m9; replace m10 := kcell hkk m10; replace kV := kept_trans kV hkk; clear hkk; replace hzs := Go.Ai.lt_of_cell m10)
               | (go_at_call 62; with_reducible refine (HF1.out _).mono ?_; rintro e w' ⟨rfl, hkk⟩; replace m4 := kcell hkk m4; replace m5 := kcell hkk m5; replace m6 := kcell hkk m6; replace m7 := kcell hkk m7; replace m8 := kcell hkk m8; replace m9 := kcell hkk m9; replace m10 := kcell hkk m10; replace kV := kept_trans kV hkk; clear hkk; replace hzs := Go.Ai.lt_of_cell m10)
               | (go_at_call 62; with_reducible refine (HF2.out _).mono ?_; rintro e w' ⟨rfl, hkk⟩; replace m6 := kcell hkk m6; replace m7 := kcell hkk m7; replace m8 := kcell hkk m8; replace m9 := kcell hkk m9; replace m10 := kcell hkk m10; replace kV := kept_trans kV hkk; clear hkk; replace hzs := Go.Ai.lt_of_cell m10))
             go_roundw
             case rel => exact ⟨k + 1, by omega, HST.out false (by simp [Boy.fair, g2]), by go_num, kept_trans hkV kV⟩
             case measure => simp [intOf]; omega
           | true =>
             cases g3 : fairB x.t0 x.t1 6 2 with
             | false =>
               go_wp2_with fail
               obtain ⟨kV, m0, m1, m2, m3, m4, m5, m6, m7, m8, m9, m10⟩ := bmc wr x
               generalize (wr.alloc (Obj.cells #[.int .i64 x.l0, .int .i64 x.l1, .int .i64 x.h0, .int .i64 x.h1, .int .i64 x.g0, .int .i64 x.g1, .int .i64 x.t0, .int .i64 x.t1, .int .i64 x.ls, .int .i64 x.b0, .int .i64 x.b1] 97)) = V0 at *
               clear c0 c1 c2 c3 c4 c5 c6 c7 c8 c9 c10
               have hzs := Go.Ai.lt_of_cell m0
               have HF0 := Lib.hid (fun w => show Calls Tryz.prog 62 #[.agg #[.int .i64 x.l0, .int .i64 x.l1], .int .i64 0, .int .i64 40, .int .i64 2] w (fun e w' => e = .returned (.bool true) ∧ Kept w w') from by have := fair_gen x.l0 x.l1 40 2 w (by omega); rw [g0] at this; exact this)
               have HF1 := Lib.hid (fun w => show Calls Tryz.prog 62 #[.agg #[.int .i64 x.h0, .int .i64 x.h1], .int .i64 0, .int .i64 40, .int .i64 2] w (fun e w' => e = .returned (.bool true) ∧ Kept w w') from by have := fair_gen x.h0 x.h1 40 2 w (by omega); rw [g1] at this; exact this)
               have HF2 := Lib.hid (fun w => show Calls Tryz.prog 62 #[.agg #[.int .i64 x.g0, .int .i64 x.g1], .int .i64 0, .int .i64 2, .int .i64 1] w (fun e w' => e = .returned (.bool true) ∧ Kept w w') from by have := fair_gen x.g0 x.g1 2 1 w (by omega); rw [g2] at this; exact this)
               have HF3 := Lib.hid (fun w => show Calls Tryz.prog 62 #[.agg #[.int .i64 x.t0, .int .i64 x.t1], .int .i64 0, .int .i64 6, .int .i64 2] w (fun e w' => e = .returned (.bool false) ∧ Kept w w') from by have := fair_gen x.t0 x.t1 6 2 w (by omega); rw [g3] at this; exact this)
               go_wp2_with (first
                 | (go_at_call 62; with_reducible refine (HF0.out _).mono ?_; rintro e w' ⟨rfl, hkk⟩; replace m2 := kcell hkk m2; replace m3 := kcell hkk m3; replace m4 := kcell hkk m4; replace m5 := kcell hkk m5; replace m6 := kcell hkk m6; replace m7 := kcell hkk m7; replace m8 := kcell hkk m8; replace m9 := kcell hkk m9; replace m10 := kcell hkk m10; replace kV := kept_trans kV hkk; clear hkk; replace hzs := Go.Ai.lt_of_cell m10)
                 | (go_at_call 62; with_reducible refine (HF1.out _).mono ?_; rintro e w' ⟨rfl, hkk⟩; replace m4 := kcell hkk m4; replace m5 := kcell hkk m5; replace m6 := kcell hkk m6; replace m7 := kcell hkk m7; replace m8 := kcell hkk m8; replace m9 := kcell hkk m9; replace m10 := kcell hkk m10; replace kV := kept_trans kV hkk; clear hkk; replace hzs := Go.Ai.lt_of_cell m10)
                 | (go_at_call 62; with_reducible refine (HF2.out _).mono ?_; rintro e w' ⟨rfl, hkk⟩; replace m6 := kcell hkk m6; replace m7 := kcell hkk m7; replace m8 := kcell hkk m8; replace m9 := kcell hkk m9; replace m10 := kcell hkk m10; replace kV := kept_trans kV hkk; clear hkk; replace hzs := Go.Ai.lt_of_cell m10)
                 | (go_at_call 62; with_reducible refine (HF3.out _).mono ?_; rintro e w' ⟨rfl, hkk⟩; replace m8 := kcell hkk m8; replace m9 := kcell hkk m9; replace m10 := kcell hkk m10; replace kV := kept_trans kV hkk; clear hkk; replace hzs := Go.Ai.lt_of_cell m10))
               go_roundw
               case rel => exact ⟨k + 1, by omega, HST.out false (by simp [Boy.fair, g3]), by go_num, kept_trans hkV kV⟩
               case measure => simp [intOf]; omega
             | true =>
               cases gL : inB x.ls 0 2 with
               | false =>
                 go_wp2_with fail
                 obtain ⟨kV, m0, m1, m2, m3, m4, m5, m6, m7, m8, m9, m10⟩ := bmc wr x
                 generalize (wr.alloc (Obj.cells #[.int .i64 x.l0, .int .i64 x.l1, .int .i64 x.h0, .int .i64 x.h1, .int .i64 x.g0, .int .i64 x.g1, .int .i64 x.t0, .int .i64 x.t1, .int .i64 x.ls, .int .i64 x.b0, .int .i64 x.b1] 97)) = V0 at *
                 clear c0 c1 c2 c3 c4 c5 c6 c7 c8 c9 c10
                 have hzs := Go.Ai.lt_of_cell m0
                 have HF0 := Lib.hid (fun w => show Calls Tryz.prog 62 #[.agg #[.int .i64 x.l0, .int .i64 x.l1], .int .i64 0, .int .i64 40, .int .i64 2] w (fun e w' => e = .returned (.bool true) ∧ Kept w w') from by have := fair_gen x.l0 x.l1 40 2 w (by omega); rw [g0] at this; exact this)
                 have HF1 := Lib.hid (fun w => show Calls Tryz.prog 62 #[.agg #[.int .i64 x.h0, .int .i64 x.h1], .int .i64 0, .int .i64 40, .int .i64 2] w (fun e w' => e = .returned (.bool true) ∧ Kept w w') from by have := fair_gen x.h0 x.h1 40 2 w (by omega); rw [g1] at this; exact this)
                 have HF2 := Lib.hid (fun w => show Calls Tryz.prog 62 #[.agg #[.int .i64 x.g0, .int .i64 x.g1], .int .i64 0, .int .i64 2, .int .i64 1] w (fun e w' => e = .returned (.bool true) ∧ Kept w w') from by have := fair_gen x.g0 x.g1 2 1 w (by omega); rw [g2] at this; exact this)
                 have HF3 := Lib.hid (fun w => show Calls Tryz.prog 62 #[.agg #[.int .i64 x.t0, .int .i64 x.t1], .int .i64 0, .int .i64 6, .int .i64 2] w (fun e w' => e = .returned (.bool true) ∧ Kept w w') from by have := fair_gen x.t0 x.t1 6 2 w (by omega); rw [g3] at this; exact this)
                 go_wp2_with (first
                   | (go_at_call 62; with_reducible refine (HF0.out _).mono ?_; rintro e w' ⟨rfl, hkk⟩; replace m2 := kcell hkk m2; replace m3 := kcell hkk m3; replace m4 := kcell hkk m4; replace m5 := kcell hkk m5; replace m6 := kcell hkk m6; replace m7 := kcell hkk m7; replace m8 := kcell hkk m8; replace m9 := kcell hkk m9; replace m10 := kcell hkk m10; replace kV := kept_trans kV hkk; clear hkk; replace hzs := Go.Ai.lt_of_cell m10)
                   | (go_at_call 62; with_reducible refine (HF1.out _).mono ?_; rintro e w' ⟨rfl, hkk⟩; replace m4 := kcell hkk m4; replace m5 := kcell hkk m5; replace m6 := kcell hkk m6; replace m7 := kcell hkk m7; replace m8 := kcell hkk m8; replace m9 := kcell hkk m9; replace m10 := kcell hkk m10; replace kV := kept_trans kV hkk; clear hkk; replace hzs := Go.Ai.lt_of_cell m10)
                   | (go_at_call 62; with_reducible refine (HF2.out _).mono ?_; rintro e w' ⟨rfl, hkk⟩; replace m6 := kcell hkk m6; replace m7 := kcell hkk m7; replace m8 := kcell hkk m8; replace m9 := kcell hkk m9; replace m10 := kcell hkk m10; replace kV := kept_trans kV hkk; clear hkk; replace hzs := Go.Ai.lt_of_cell m10)
                   | (go_at_call 62; with_reducible refine (HF3.out _).mono ?_; rintro e w' ⟨rfl, hkk⟩; replace m8 := kcell hkk m8; replace m9 := kcell hkk m9; replace m10 := kcell hkk m10; replace kV := kept_trans kV hkk; clear hkk; replace hzs := Go.Ai.lt_of_cell m10)
                   | (go_at_call 37; with_reducible refine (lies_any x.ls 0 2 _).mono ?_; rintro e w' ⟨rfl, rfl⟩; rw [gL]))
                 go_roundw
                 case rel => exact ⟨k + 1, by omega, HST.out false (by simp [Boy.fair, gL]), by go_num, kept_trans hkV kV⟩
                 case measure => simp [intOf]; omega
               | true =>
                 cases g4 : fairB x.b0 x.b1 9 3 with
                 | false =>
                   go_wp2_with fail
                   obtain ⟨kV, m0, m1, m2, m3, m4, m5, m6, m7, m8, m9, m10⟩ := bmc wr x
                   generalize (wr.alloc (Obj.cells #[.int .i64 x.l0, .int .i64 x.l1, .int .i64 x.h0, .int .i64 x.h1, .int .i64 x.g0, .int .i64 x.g1, .int .i64 x.t0, .int .i64 x.t1, .int .i64 x.ls, .int .i64 x.b0, .int .i64 x.b1] 97)) = V0 at *
                   clear c0 c1 c2 c3 c4 c5 c6 c7 c8 c9 c10
                   have hzs := Go.Ai.lt_of_cell m0
                   have HF0 := Lib.hid (fun w => show Calls Tryz.prog 62 #[.agg #[.int .i64 x.l0, .int .i64 x.l1], .int .i64 0, .int .i64 40, .int .i64 2] w (fun e w' => e = .returned (.bool true) ∧ Kept w w') from by have := fair_gen x.l0 x.l1 40 2 w (by omega); rw [g0] at this; exact this)
                   have HF1 := Lib.hid (fun w => show Calls Tryz.prog 62 #[.agg #[.int .i64 x.h0, .int .i64 x.h1], .int .i64 0, .int .i64 40, .int .i64 2] w (fun e w' => e = .returned (.bool true) ∧ Kept w w') from by have := fair_gen x.h0 x.h1 40 2 w (by omega); rw [g1] at this; exact this)
                   have HF2 := Lib.hid (fun w => show Calls Tryz.prog 62 #[.agg #[.int .i64 x.g0, .int .i64 x.g1], .int .i64 0, .int .i64 2, .int .i64 1] w (fun e w' => e = .returned (.bool true) ∧ Kept w w') from by have := fair_gen x.g0 x.g1 2 1 w (by omega); rw [g2] at this; exact this)
                   have HF3 := Lib.hid (fun w => show Calls Tryz.prog 62 #[.agg #[.int .i64 x.t0, .int .i64 x.t1], .int .i64 0, .int .i64 6, .int .i64 2] w (fun e w' => e = .returned (.bool true) ∧ Kept w w') from by have := fair_gen x.t0 x.t1 6 2 w (by omega); rw [g3] at this; exact this)
                   have HF4 := Lib.hid (fun w => show Calls Tryz.prog 62 #[.agg #[.int .i64 x.b0, .int .i64 x.b1], .int .i64 0, .int .i64 9, .int .i64 3] w (fun e w' => e = .returned (.bool false) ∧ Kept w w') from by have := fair_gen x.b0 x.b1 9 3 w (by omega); rw [g4] at this; exact this)
                   go_wp2_with (first
                     | (go_at_call 62; with_reducible refine (HF0.out _).mono ?_; rintro e w' ⟨rfl, hkk⟩; replace m2 := kcell hkk m2; replace m3 := kcell hkk m3; replace m4 := kcell hkk m4; replace m5 := kcell hkk m5; replace m6 := kcell hkk m6; replace m7 := kcell hkk m7; replace m8 := kcell hkk m8; replace m9 := kcell hkk m9; replace m10 := kcell hkk m10; replace kV := kept_trans kV hkk; clear hkk; replace hzs := Go.Ai.lt_of_cell m10)
                     | (go_at_call 62; with_reducible refine (HF1.out _).mono ?_; rintro e w' ⟨rfl, hkk⟩; replace m4 := kcell hkk m4; replace m5 := kcell hkk m5; replace m6 := kcell hkk m6; replace m7 := kcell hkk m7; replace m8 := kcell hkk m8; replace m9 := kcell hkk m9; replace m10 := kcell hkk m10; replace kV := kept_trans kV hkk; clear hkk; replace hzs := Go.Ai.lt_of_cell m10)
                     | (go_at_call 62; with_reducible refine (HF2.out _).mono ?_; rintro e w' ⟨rfl, hkk⟩; replace m6 := kcell hkk m6; replace m7 := kcell hkk m7; replace m8 := kcell hkk m8; replace m9 := kcell hkk m9; replace m10 := kcell hkk m10; replace kV := kept_trans kV hkk; clear hkk; replace hzs := Go.Ai.lt_of_cell m10)
                     | (go_at_call 62; with_reducible refine (HF3.out _).mono ?_; rintro e w' ⟨rfl, hkk⟩; replace m8 := kcell hkk m8; replace m9 := kcell hkk m9; replace m10 := kcell hkk m10; replace kV := kept_trans kV hkk; clear hkk; replace hzs := Go.Ai.lt_of_cell m10)
                     | (go_at_call 37; with_reducible refine (lies_any x.ls 0 2 _).mono ?_; rintro e w' ⟨rfl, rfl⟩; rw [gL])
                     | (go_at_call 62; with_reducible refine (HF4.out _).mono ?_; rintro e w' ⟨rfl, hkk⟩; replace m10 := kcell hkk m10; replace kV := kept_trans kV hkk; clear hkk; replace hzs := Go.Ai.lt_of_cell m10))
                   go_roundw
                   case rel => exact ⟨k + 1, by omega, HST.out false (by simp [Boy.fair, g4]), by go_num, kept_trans hkV kV⟩
                   case measure => simp [intOf]; omega
                 | true =>
                   go_wp2_with fail
                   obtain ⟨kV, m0, m1, m2, m3, m4, m5, m6, m7, m8, m9, m10⟩ := bmc wr x
                   generalize (wr.alloc (Obj.cells #[.int .i64 x.l0, .int .i64 x.l1, .int .i64 x.h0, .int .i64 x.h1, .int .i64 x.g0, .int .i64 x.g1, .int .i64 x.t0, .int .i64 x.t1, .int .i64 x.ls, .int .i64 x.b0, .int .i64 x.b1] 97)) = V0 at *
                   clear c0 c1 c2 c3 c4 c5 c6 c7 c8 c9 c10
                   have hzs := Go.Ai.lt_of_cell m0
                   have HF0 := Lib.hid (fun w => show Calls Tryz.prog 62 #[.agg #[.int .i64 x.l0, .int .i64 x.l1], .int .i64 0, .int .i64 40, .int .i64 2] w (fun e w' => e = .returned (.bool true) ∧ Kept w w') from by have := fair_gen x.l0 x.l1 40 2 w (by omega); rw [g0] at this; exact this)
                   have HF1 := Lib.hid (fun w => show Calls Tryz.prog 62 #[.agg #[.int .i64 x.h0, .int .i64 x.h1], .int .i64 0, .int .i64 40, .int .i64 2] w (fun e w' => e = .returned (.bool true) ∧ Kept w w') from by have := fair_gen x.h0 x.h1 40 2 w (by omega); rw [g1] at this; exact this)
                   have HF2 := Lib.hid (fun w => show Calls Tryz.prog 62 #[.agg #[.int .i64 x.g0, .int .i64 x.g1], .int .i64 0, .int .i64 2, .int .i64 1] w (fun e w' => e = .returned (.bool true) ∧ Kept w w') from by have := fair_gen x.g0 x.g1 2 1 w (by omega); rw [g2] at this; exact this)
                   have HF3 := Lib.hid (fun w => show Calls Tryz.prog 62 #[.agg #[.int .i64 x.t0, .int .i64 x.t1], .int .i64 0, .int .i64 6, .int .i64 2] w (fun e w' => e = .returned (.bool true) ∧ Kept w w') from by have := fair_gen x.t0 x.t1 6 2 w (by omega); rw [g3] at this; exact this)
                   have HF4 := Lib.hid (fun w => show Calls Tryz.prog 62 #[.agg #[.int .i64 x.b0, .int .i64 x.b1], .int .i64 0, .int .i64 9, .int .i64 3] w (fun e w' => e = .returned (.bool true) ∧ Kept w w') from by have := fair_gen x.b0 x.b1 9 3 w (by omega); rw [g4] at this; exact this)
                   go_wp2_with (first
                     | (go_at_call 62; with_reducible refine (HF0.out _).mono ?_; rintro e w' ⟨rfl, hkk⟩; replace m2 := kcell hkk m2; replace m3 := kcell hkk m3; replace m4 := kcell hkk m4; replace m5 := kcell hkk m5; replace m6 := kcell hkk m6; replace m7 := kcell hkk m7; replace m8 := kcell hkk m8; replace m9 := kcell hkk m9; replace m10 := kcell hkk m10; replace kV := kept_trans kV hkk; clear hkk; replace hzs := Go.Ai.lt_of_cell m10)
                     | (go_at_call 62; with_reducible refine (HF1.out _).mono ?_; rintro e w' ⟨rfl, hkk⟩; replace m4 := kcell hkk m4; replace m5 := kcell hkk m5; replace m6 := kcell hkk m6; replace m7 := kcell hkk m7; replace m8 := kcell hkk m8; replace m9 := kcell hkk m9; replace m10 := kcell hkk m10; replace kV := kept_trans kV hkk; clear hkk; replace hzs := Go.Ai.lt_of_cell m10)
                     | (go_at_call 62; with_reducible refine (HF2.out _).mono ?_; rintro e w' ⟨rfl, hkk⟩; replace m6 := kcell hkk m6; replace m7 := kcell hkk m7; replace m8 := kcell hkk m8; replace m9 := kcell hkk m9; replace m10 := kcell hkk m10; replace kV := kept_trans kV hkk; clear hkk; replace hzs := Go.Ai.lt_of_cell m10)
                     | (go_at_call 62; with_reducible refine (HF3.out _).mono ?_; rintro e w' ⟨rfl, hkk⟩; replace m8 := kcell hkk m8; replace m9 := kcell hkk m9; replace m10 := kcell hkk m10; replace kV := kept_trans kV hkk; clear hkk; replace hzs := Go.Ai.lt_of_cell m10)
                     | (go_at_call 37; with_reducible refine (lies_any x.ls 0 2 _).mono ?_; rintro e w' ⟨rfl, rfl⟩; rw [gL])
                     | (go_at_call 62; with_reducible refine (HF4.out _).mono ?_; rintro e w' ⟨rfl, hkk⟩; replace m10 := kcell hkk m10; replace kV := kept_trans kV hkk; clear hkk; replace hzs := Go.Ai.lt_of_cell m10))
                   go_roundw
                   case rel => exact ⟨k + 1, by omega, HST.out true (by simp [Boy.fair, g0, g1, g2, g3, gL, g4]), by go_num, kept_trans hkV kV⟩
                   case measure => simp [intOf]; omega
     · have hltI : ¬ (k : Int) < B.boys.length := by omega
       obtain rfl : k = B.boys.length := by omega
       rw [List.take_length] at hall
       have HALL := Lib.hid hall; clear hall
       go_wp2_with fail
       obtain ⟨V1, hV1⟩ : ∃ V1, V1 = wr := ⟨_, rfl⟩
       subst hV1
       go_loopw [3, 6] (fun ok i V => ∃ k : Nat, k ≤ B.trials.length ∧ ok = .bool ((B.trials.take k).all (rtrialB B.boys.length B.weeks)) ∧ i = .int .i64 k ∧ Kept W0 V) (fun ok i V => B.trials.length - (intOf i).toNat)
       case atStart => exact ⟨0, by omega, by simp, by go_num, hkV⟩
       case round =>
         clear hkV a0 a1 a2 hz
         obtain ⟨k, hk2, rfl, rfl, hkV⟩ := hrel
         have a0 := kcell hkV A0.out
         have a1 := kcell hkV A1.out
         have a2 := kcell hkV A2.out
         have hz := Go.Ai.lt_of_cell a0
         cases hall : (B.trials.take k).all (rtrialB B.boys.length B.weeks) with
         | false =>
           have HX := Lib.hid (show B.okB = false from by rw [HE.out, take_no hall, Bool.and_false])
           clear hall
           go_wp2_with fail
           all_goals
             refine bodyPost_ret (v := .int .i64 20) (by simp [results, Tryz.results11, go_sem]) rfl ?_
             exact ⟨by first | rfl | (rw [HRR.out, HX.out]; rfl), kept_trans hk0 hkV⟩
         | true =>
           by_cases hlt : k < B.trials.length
           · have hltI2 : (k : Int) < B.trials.length := by omega
             obtain ⟨bt, ot, rfl, htr⟩ : ∃ b o, q = some ⟨b, o, none⟩ ∧ TrialsAt wr b o B.trials := by
               rcases ((HB.out.kept hk0).kept hkV).trials with e | h
               · rw [e] at hlt; cases hlt
               · exact h
             obtain ⟨t, hget⟩ : ∃ t, B.trials[k]? = some t := ⟨_, List.getElem?_eq_getElem hlt⟩
             obtain ⟨d0, d1, d2, d3⟩ := htr.2 k t hget
             have hzq := Go.Ai.lt_of_cell d0
             have HST := Lib.hid (show (B.trials.take (k + 1)).all (rtrialB B.boys.length B.weeks) = rtrialB B.boys.length B.weeks t from take_all hget hall)
             clear hget hall htr
             go_wp2_with fail
             have e0 := cell_regrown a0
             have e1 := cell_regrown a1
             have e2 := cell_regrown a2
             have f0 := cell_regrown d0
             have f1 := cell_regrown d1
             have f2 := cell_regrown d2
             have f3 := cell_regrown d3
             have H1 := Lib.hid (fun d os => Calls.regrown_of (rtrial_any p B.boys.length cap B.weeks (.slice (some ⟨bt, ot, none⟩) B.trials.length capt) t (grow (redrawn wr d) os) hnb))
             refine wp_region_quiet_below (by kernel_rfl) (by kernel_rfl) ?_
             repeat (any_goals (first | go_big_quiet_skip | quiet_step (first | with_reducible exact H1.out _ _)))
             refine wpQuiet_nil ?_
             rintro _ ⟨⟨dq, osq⟩, rfl⟩
             have hkQ := kept_trans hkV (below_regrown wr dq osq)
             generalize grow (redrawn wr dq) osq = WQ at *
             go_wp2_with fail
             go_roundw
             case rel => exact ⟨k + 1, by omega, by rw [HST.out], by go_num, hkQ⟩
             case measure => simp [intOf]; omega
           · have hltI2 : ¬ (k : Int) < B.trials.length := by omega
             obtain rfl : k = B.trials.length := by omega
             rw [List.take_length] at hall
             have HX := Lib.hid (show B.okB = true from by rw [HE.out, HALL.out, hall]; rfl)
             clear hall
             go_wp2_with fail
             all_goals
               refine bodyPost_ret (v := .int .i64 0) (by simp [results, Tryz.results11, go_sem]) rfl ?_
               exact ⟨by first | rfl | (rw [HRR.out, HX.out]; rfl), kept_trans hk0 hkV⟩
theorem rcheck_any (p q : Option Addr) (cap capt : Nat) (B : Book) (W : World) (h : BookAt W p q cap capt B) :
    Calls Tryz.prog 11 #[B.val p q cap capt] W fun e C => e = .returned (.int .i64 (if B.okB then 0 else 20)) ∧ Kept W C := by
  have hu : B.okB = (inB (B.boys.length : Int) 1 4 && inB B.weeks 1 6 && decide (B.trials.length ≤ 6) && B.boys.all Boy.okB && B.trials.all (validTrialB B.boys.length B.weeks.toNat)) := rfl
  cases g0 : inB (B.boys.length : Int) 1 4 with
  | false => exact rcheck_0 p q cap capt B W h g0 (by rw [hu, g0]; rfl)
  | true =>
    cases g1 : inB B.weeks 1 6 with
    | false => exact rcheck_1 p q cap capt B W h g0 g1 (by rw [hu, g0, g1]; rfl)
    | true =>
      cases g2 : decide ((B.trials.length : Int) ≤ 6) with
      | false =>
        refine rcheck_2 p q cap capt B W h g0 g1 g2 ?_
        have h6 : decide (B.trials.length ≤ 6) = false := by
          simp only [decide_eq_false_iff_not] at g2 ⊢; omega
        rw [hu, g0, g1, h6]; rfl
      | true =>
        refine rcheck_3 p q cap capt B W h g0 g1 g2 ?_
        have h6 : decide (B.trials.length ≤ 6) = true := by
          simp only [decide_eq_true_eq] at g2 ⊢; omega
        have hw : 1 ≤ B.weeks ∧ B.weeks ≤ 6 := by simpa [inB] using g1
        rw [hu, g0, g1, h6, fair_all, show rtrialB B.boys.length B.weeks = validTrialB B.boys.length B.weeks.toNat from funext fun t => rtrial_ok hw.1 hw.2 t]
        rfl
def Book.err (B : Book) (cond : Bool) : Int := if B.okB then (if cond then (if B.fineB 0 then 0 else 22) else 21) else 20
theorem asked_20 (p q : Option Addr) (cap capt : Nat) (B : Book) (cond : Bool) (W : World) (h : BookAt W p q cap capt B) (hok : B.okB = false) :
    Calls Tryz.prog 65 #[B.val p q cap capt, .bool cond] W fun e C => e = .returned (.int .i64 20) ∧ Kept W C := by
  unfold Book.val
  obtain ⟨hk0, a0, a1, a2⟩ := bk0 W p q cap capt B
  have hc := rcheck_any p q cap capt B (W.alloc (Obj.cells #[.slice p B.boys.length cap, .int .i64 B.weeks, .slice q B.trials.length capt] 25)) (h.kept hk0)
  rw [hok] at hc
  unfold Book.val at hc
  have HC := Lib.hid (show Calls Tryz.prog 11 #[.agg #[.slice p B.boys.length cap, .int .i64 B.weeks, .slice q B.trials.length capt]] (W.alloc (Obj.cells #[.slice p B.boys.length cap, .int .i64 B.weeks, .slice q B.trials.length capt] 25)) fun e C => e = .returned (.int .i64 20) ∧ Kept (W.alloc (Obj.cells #[.slice p B.boys.length cap, .int .i64 B.weeks, .slice q B.trials.length capt] 25)) C from hc)
  clear hc
  have HB := Lib.hid h; clear h
  have HOK := Lib.hid hok; clear hok
  have hza := Go.Ai.lt_of_cell a0
  go_enter Tryz.func65, Tryz.ntmps65
  go_wp2_with fail
  refine HC.out.mono ?_
  rintro e w1 ⟨rfl, hk1⟩
  generalize (W.alloc (Obj.cells #[.slice p B.boys.length cap, .int .i64 B.weeks, .slice q B.trials.length capt] 25)) = W0 at *
  have hk01 := kept_trans hk0 hk1
  replace a0 := kcell hk1 a0
  replace a1 := kcell hk1 a1
  replace a2 := kcell hk1 a2
  have hz1 := Go.Ai.lt_of_cell a0
  clear HC
  go_wp2_with fail
  refine bodyPost_ret (v := .int .i64 20) (by simp [results, Tryz.results65, go_sem]) rfl ⟨rfl, hk01⟩
theorem asked_21 (p q : Option Addr) (cap capt : Nat) (B : Book) (W : World) (h : BookAt W p q cap capt B) (hok : B.okB = true) :
    Calls Tryz.prog 65 #[B.val p q cap capt, .bool false] W fun e C => e = .returned (.int .i64 21) ∧ Kept W C := by
  unfold Book.val
  obtain ⟨hk0, a0, a1, a2⟩ := bk0 W p q cap capt B
  have hc := rcheck_any p q cap capt B (W.alloc (Obj.cells #[.slice p B.boys.length cap, .int .i64 B.weeks, .slice q B.trials.length capt] 25)) (h.kept hk0)
  rw [hok] at hc
  unfold Book.val at hc
  have HC := Lib.hid (show Calls Tryz.prog 11 #[.agg #[.slice p B.boys.length cap, .int .i64 B.weeks, .slice q B.trials.length capt]] (W.alloc (Obj.cells #[.slice p B.boys.length cap, .int .i64 B.weeks, .slice q B.trials.length capt] 25)) fun e C => e = .returned (.int .i64 0) ∧ Kept (W.alloc (Obj.cells #[.slice p B.boys.length cap, .int .i64 B.weeks, .slice q B.trials.length capt] 25)) C from hc)
  clear hc
  have HB := Lib.hid h; clear h
  have HOK := Lib.hid hok; clear hok
  have hza := Go.Ai.lt_of_cell a0
  go_enter Tryz.func65, Tryz.ntmps65
  go_wp2_with fail
  refine HC.out.mono ?_
  rintro e w1 ⟨rfl, hk1⟩
  generalize (W.alloc (Obj.cells #[.slice p B.boys.length cap, .int .i64 B.weeks, .slice q B.trials.length capt] 25)) = W0 at *
  have hk01 := kept_trans hk0 hk1
  replace a0 := kcell hk1 a0
  replace a1 := kcell hk1 a1
  replace a2 := kcell hk1 a2
  have hz1 := Go.Ai.lt_of_cell a0
  clear HC
  go_wp2_with fail
  refine bodyPost_ret (v := .int .i64 21) (by simp [results, Tryz.results65, go_sem]) rfl ⟨rfl, hk01⟩
theorem asked_22 (p q : Option Addr) (cap capt : Nat) (B : Book) (W : World) (h : BookAt W p q cap capt B) (hok : B.okB = true) (hfi : B.fineB 0 = false) :
    Calls Tryz.prog 65 #[B.val p q cap capt, .bool true] W fun e C => e = .returned (.int .i64 22) ∧ Kept W C := by
  unfold Book.val
  obtain ⟨hk0, a0, a1, a2⟩ := bk0 W p q cap capt B
  have hc := rcheck_any p q cap capt B (W.alloc (Obj.cells #[.slice p B.boys.length cap, .int .i64 B.weeks, .slice q B.trials.length capt] 25)) (h.kept hk0)
  rw [hok] at hc
  unfold Book.val at hc
  have HC := Lib.hid (show Calls Tryz.prog 11 #[.agg #[.slice p B.boys.length cap, .int .i64 B.weeks, .slice q B.trials.length capt]] (W.alloc (Obj.cells #[.slice p B.boys.length cap, .int .i64 B.weeks, .slice q B.trials.length capt] 25)) fun e C => e = .returned (.int .i64 0) ∧ Kept (W.alloc (Obj.cells #[.slice p B.boys.length cap, .int .i64 B.weeks, .slice q B.trials.length capt] 25)) C from hc)
  clear hc
  have HB := Lib.hid h; clear h
  have HOK := Lib.hid hok; clear hok
  have hza := Go.Ai.lt_of_cell a0
  go_enter Tryz.func65, Tryz.ntmps65
  go_wp2_with fail
  refine HC.out.mono ?_
  rintro e w1 ⟨rfl, hk1⟩
  generalize (W.alloc (Obj.cells #[.slice p B.boys.length cap, .int .i64 B.weeks, .slice q B.trials.length capt] 25)) = W0 at *
  have hk01 := kept_trans hk0 hk1
  replace a0 := kcell hk1 a0
  replace a1 := kcell hk1 a1
  replace a2 := kcell hk1 a2
  have hz1 := Go.Ai.lt_of_cell a0
  clear HC
  go_wp2_with fail
  have hf := fine_any p q cap capt B 0 w1 (HB.out.kept hk01) HOK.out (by omega)
  unfold Book.val at hf
  rw [hfi] at hf
  have HF := Lib.hid hf; clear hf
  refine HF.out.mono ?_
  rintro e w2 ⟨rfl, hk2⟩
  go_wp2_with fail
  refine bodyPost_ret (v := .int .i64 22) (by simp [results, Tryz.results65, go_sem]) rfl ⟨rfl, kept_trans hk01 hk2⟩
theorem asked_0 (p q : Option Addr) (cap capt : Nat) (B : Book) (W : World) (h : BookAt W p q cap capt B) (hok : B.okB = true) (hfi : B.fineB 0 = true) :
    Calls Tryz.prog 65 #[B.val p q cap capt, .bool true] W fun e C => e = .returned (.int .i64 0) ∧ Kept W C := by
  unfold Book.val
  obtain ⟨hk0, a0, a1, a2⟩ := bk0 W p q cap capt B
  have hc := rcheck_any p q cap capt B (W.alloc (Obj.cells #[.slice p B.boys.length cap, .int .i64 B.weeks, .slice q B.trials.length capt] 25)) (h.kept hk0)
  rw [hok] at hc
  unfold Book.val at hc
  have HC := Lib.hid (show Calls Tryz.prog 11 #[.agg #[.slice p B.boys.length cap, .int .i64 B.weeks, .slice q B.trials.length capt]] (W.alloc (Obj.cells #[.slice p B.boys.length cap, .int .i64 B.weeks, .slice q B.trials.length capt] 25)) fun e C => e = .returned (.int .i64 0) ∧ Kept (W.alloc (Obj.cells #[.slice p B.boys.length cap, .int .i64 B.weeks, .slice q B.trials.length capt] 25)) C from hc)
  clear hc
  have HB := Lib.hid h; clear h
  have HOK := Lib.hid hok; clear hok
  have hza := Go.Ai.lt_of_cell a0
  go_enter Tryz.func65, Tryz.ntmps65
  go_wp2_with fail
  refine HC.out.mono ?_
  rintro e w1 ⟨rfl, hk1⟩
  generalize (W.alloc (Obj.cells #[.slice p B.boys.length cap, .int .i64 B.weeks, .slice q B.trials.length capt] 25)) = W0 at *
  have hk01 := kept_trans hk0 hk1
  replace a0 := kcell hk1 a0
  replace a1 := kcell hk1 a1
  replace a2 := kcell hk1 a2
  have hz1 := Go.Ai.lt_of_cell a0
  clear HC
  go_wp2_with fail
  have hf := fine_any p q cap capt B 0 w1 (HB.out.kept hk01) HOK.out (by omega)
  unfold Book.val at hf
  rw [hfi] at hf
  have HF := Lib.hid hf; clear hf
  refine HF.out.mono ?_
  rintro e w2 ⟨rfl, hk2⟩
  go_wp2_with fail
  refine bodyPost_ret (v := .int .i64 0) (by simp [results, Tryz.results65, go_sem]) rfl ⟨rfl, kept_trans hk01 hk2⟩
theorem asked_any (p q : Option Addr) (cap capt : Nat) (B : Book) (cond : Bool) (W : World) (h : BookAt W p q cap capt B) :
    Calls Tryz.prog 65 #[B.val p q cap capt, .bool cond] W fun e C => e = .returned (.int .i64 (B.err cond)) ∧ Kept W C := by
  unfold Book.err
  cases hok : B.okB with
  | false => exact asked_20 p q cap capt B cond W h hok
  | true =>
    cases cond with
    | false => exact asked_21 p q cap capt B W h hok
    | true =>
      cases hf : B.fineB 0 with
      | false => exact asked_22 p q cap capt B W h hok hf
      | true => exact asked_0 p q cap capt B W h hok hf
def NumsAt (w : World) (v : Value) (l : List Int) : Prop :=
  ∃ p cap, v = .slice p l.length cap ∧ l.length ≤ 140737488355328 ∧ (l = [] ∨ ∃ b o, p = some ⟨b, o, none⟩ ∧ b < w.heap.size ∧ ∀ i x, l[i]? = some x → w.cell? ⟨b, o + i, none⟩ = some (.int .i64 x))
theorem NumsAt.kept {w w' : World} {v : Value} {l : List Int} (h : NumsAt w v l) (k : Kept w w') : NumsAt w' v l := by
  obtain ⟨p, cap, e, hl, h⟩ := h
  exact ⟨p, cap, e, hl, h.imp id fun ⟨b, o, e2, hb, hc⟩ => ⟨b, o, e2, Nat.lt_of_lt_of_le hb k.size, fun i x hx => kcell k (hc i x hx)⟩⟩
end Go.Proofs.YthkcgengohoboaaGreatDoor
namespace Go.Proofs.YthkcgengohoboaaGreatDoor
open Go.RowKit Go.Sort Go.Rg
set_option maxRecDepth 100000
attribute [local go_sem] Oper.semAt_some
def loOf (l : List Int) : Int := l.foldl min (l.headD 0)
def hiOf (l : List Int) : Int := l.foldl max (l.headD 0)
structure SAt (V0 : World) (a b : Int) (V : World) : Prop where
  kept : Kept V0 V
  c0 : V.cell? ⟨V0.heap.size, 0, none⟩ = some (.int .i64 a)
  c1 : V.cell? ⟨V0.heap.size, 1, none⟩ = some (.int .i64 b)
  fr : ∀ i, V.frozen? ⟨V0.heap.size, i, none⟩ = false
theorem SAt.go {V0 V V' : World} {a b : Int} (h : SAt V0 a b V) (hk : Kept V V') : SAt V0 a b V' where
  kept := kept_trans h.kept hk
  c0 := kcell hk h.c0
  c1 := kcell hk h.c1
  fr := fun i => (World.frozen?_of_block (a := ⟨V0.heap.size, i, none⟩) (hk.block _ (Go.Ai.lt_of_cell h.c0))).trans (h.fr i)
theorem SAt.set {V0 V : World} {a b : Int} (h : SAt V0 a b V) (c d : Int) : SAt V0 c d ((V.setCell ⟨V0.heap.size, 0, none⟩ (.int .i64 c)).setCell ⟨V0.heap.size, 1, none⟩ (.int .i64 d)) where
  kept := Below.setCell (p := ⟨V0.heap.size, 1, none⟩) (Below.setCell (p := ⟨V0.heap.size, 0, none⟩) h.kept (Nat.le_refl _) _) (Nat.le_refl _) _
  c0 := (cell_set_ne (by omega)).trans (cell_set_eq h.c0)
  c1 := cell_set_eq ((cell_set_ne (by omega)).trans h.c1)
  fr := fun i => (World.frozen?_setCell _ _ _ _).trans ((World.frozen?_setCell _ _ _ _).trans (h.fr i))
set_option maxHeartbeats 4000000 in
theorem ends_any (v : Value) (l : List Int) (W : World) (h : NumsAt W v l) (hne : l ≠ []) :
    Calls Tryz.prog 68 #[v] W fun e C => e = .returned (.agg #[.int .i64 (loOf l), .int .i64 (hiOf l)]) ∧ Kept W C := by
  have HN := Lib.hid h
  obtain ⟨p, cap, rfl, hl, hr⟩ := h
  obtain ⟨g, o, rfl, hgz, hc⟩ := hr.resolve_left hne
  have hpos : 0 < l.length := List.length_pos_iff.2 hne
  obtain ⟨x0, hx0⟩ : ∃ x0, l[0]? = some x0 := ⟨_, List.getElem?_eq_getElem hpos⟩
  have d0 := hc 0 x0 hx0
  rw [Nat.add_zero] at d0
  have hposI : (0 : Int) < l.length := by omega
  have hh : l.headD 0 = x0 := by
    cases l with
    | nil => exact absurd rfl hne
    | cons y t => simpa using hx0
  have HHD := Lib.hid hh; clear hh
  have hk0 : Kept W (W.alloc (Obj.cells #[.int .i64 0, .int .i64 0] 32)) := kept_alloc (kept_refl _) _
  have r0 : (W.alloc (Obj.cells #[.int .i64 0, .int .i64 0] 32)).cell? ⟨W.heap.size, 0, none⟩ = some (.int .i64 0) := by go_simp
  have r1 : (W.alloc (Obj.cells #[.int .i64 0, .int .i64 0] 32)).cell? ⟨W.heap.size, 1, none⟩ = some (.int .i64 0) := by go_simp
  have rf : ∀ i, (W.alloc (Obj.cells #[.int .i64 0, .int .i64 0] 32)).frozen? ⟨W.heap.size, i, none⟩ = false := by intro i; go_simp
  have d1 := kcell hk0 d0
  have HCC := Lib.hid hc
  have HX0 := Lib.hid hx0
  clear hc hr hx0
  go_enter Tryz.func68, Tryz.ntmps68
  go_wp2_with fail
  refine (only_is _ _).mono ?_
  rintro e w1 ⟨rfl, hk1⟩
  generalize (W.alloc (Obj.cells #[.int .i64 0, .int .i64 0] 32)) = W0 at *
  have hS0 : SAt w1 x0 x0 (w1.alloc (Obj.cells #[.int .i64 x0, .int .i64 x0] 32)) := ⟨kept_alloc (kept_refl _) _, by go_simp, by go_simp, by intro i; go_simp⟩
  have hk01 := kept_trans hk0 hk1
  clear d0 d1
  go_wp2_with fail
  go_loopw [4] (fun i V => ∃ k : Nat, k ≤ l.length ∧ i = .int .i64 k ∧ SAt w1 ((l.take k).foldl min x0) ((l.take k).foldl max x0) V) (fun i V => l.length - (intOf i).toNat)
  case atStart => exact ⟨0, by omega, by go_num, by simpa using hS0⟩
  case round =>
    obtain ⟨k, hk, rfl, hS⟩ := hrel
    have s0 := hS.c0
    have s1 := hS.c1
    have sf0 := hS.fr 0
    have sf1 := hS.fr 1
    have hzs := Go.Ai.lt_of_cell s0
    by_cases hlt : k < l.length
    · have hltI : (k : Int) < l.length := by omega
      obtain ⟨x, hget⟩ : ∃ x, l[k]? = some x := ⟨_, List.getElem?_eq_getElem hlt⟩
      have c0 := kcell hS.kept (kcell hk01 (HCC.out k x hget))
      have hT := Lib.hid (show (l.take (k + 1)).foldl min x0 = min ((l.take k).foldl min x0) x ∧ (l.take (k + 1)).foldl max x0 = max ((l.take k).foldl max x0) x from by rw [List.take_succ, hget]; simp [List.foldl_append])
      have HS := Lib.hid hS; clear hS hget
      obtain ⟨a, ha⟩ : ∃ a, a = (l.take k).foldl min x0 := ⟨_, rfl⟩
      obtain ⟨b, hb⟩ : ∃ b, b = (l.take k).foldl max x0 := ⟨_, rfl⟩
      rw [← ha] at s0 hT HS
      rw [← hb] at s1 hT HS
      have HAB := Lib.hid (And.intro ha hb)
      clear ha hb
      go_wp2_with fail
      have e0 := cell_regrown s0
      have e1 := cell_regrown s1
      have ec := cell_regrown c0
      have H1 := Lib.hid (fun d os => Calls.regrown_of (only_is x (grow (redrawn wr d) os)))
      have H2 := Lib.hid (fun d os => Calls.regrown_of (join_is a b x x (grow (redrawn wr d) os)))
      refine (wpIn_wide (n := 0)).1 (wpIn_region_below_last (by kernel_rfl) (by kernel_rfl) rfl ?_)
      dsimp only [fakeLast, fake]
      iterate 8 (
        refine wpQuietIn_step (fun _ _ _ _ => True.intro) (fun K hK => ?_)
        go_simp
        first
          | (refine hK _ ?_; clear hK K)
          | (apply Exists.intro
             refine ⟨fun _ => ?_, hK _ ?_⟩
             (first | with_reducible exact callsIn_wide.2 (H1.out _ _) | with_reducible exact ⟨rfl, callsIn_wide.2 (H1.out _ _)⟩ | with_reducible exact ⟨trivial, rfl, callsIn_wide.2 (H1.out _ _)⟩ | with_reducible exact callsIn_wide.2 (H2.out _ _) | with_reducible exact ⟨rfl, callsIn_wide.2 (H2.out _ _)⟩ | with_reducible exact ⟨trivial, rfl, callsIn_wide.2 (H2.out _ _)⟩)
             clear hK K))
      refine wpQuietIn_nil ?_
      rintro _ ⟨⟨dq, osq⟩, rfl⟩
      have hkQ := below_regrown wr dq osq
      have HS2 := Lib.hid (HS.out.go hkQ)
      have s0 := HS2.out.c0
      have s1 := HS2.out.c1
      have sf0 := HS2.out.fr 0
      have sf1 := HS2.out.fr 1
      have hzs := Go.Ai.lt_of_cell s0
      clear e0 e1 ec
      generalize grow (redrawn wr dq) osq = WQ at *
      go_simp
      refine (by assumption : ∀ (a : Act) (w : World), Code.wp Tryz.prog _ _ a w → _) _ _ ?_
      have hN : SAt w1 ((l.take (k + 1)).foldl min x0) ((l.take (k + 1)).foldl max x0) ((WQ.setCell ⟨w1.heap.size, 0, none⟩ (.int .i64 (min a x))).setCell ⟨w1.heap.size, 1, none⟩ (.int .i64 (max b x))) := by
        rw [hT.out.1, hT.out.2]; exact HS2.out.set _ _
      have HNN := Lib.hid hN; clear hN s0 s1 sf0 sf1
      generalize ((WQ.setCell ⟨w1.heap.size, 0, none⟩ (.int .i64 (min a x))).setCell ⟨w1.heap.size, 1, none⟩ (.int .i64 (max b x))) = WN at *
      go_wp2_with fail
      go_roundw
      case rel => exact ⟨k + 1, by omega, by go_num, HNN.out⟩
      case measure => simp [intOf]; omega
    · have hltI : ¬ (k : Int) < l.length := by omega
      obtain rfl : k = l.length := by omega
      rw [List.take_length] at hS s0 s1
      have hkS := hS.kept
      have q0 := kcell hkS (kcell hk1 r0)
      have q1 := kcell hkS (kcell hk1 r1)
      have z0 := Go.Ai.lt_of_cell r0
      have qf0 : wr.frozen? ⟨W.heap.size, 0, none⟩ = false := ((kturns (kept_trans hk1 hkS) (fun _ => False)).frozen z0 (fun h => h)).trans (rf 0)
      have qf1 : wr.frozen? ⟨W.heap.size, 1, none⟩ = false := ((kturns (kept_trans hk1 hkS) (fun _ => False)).frozen z0 (fun h => h)).trans (rf 1)
      have HKS := Lib.hid (kept_trans hk01 hkS)
      obtain ⟨a, ha⟩ : ∃ a, a = l.foldl min x0 := ⟨_, rfl⟩
      obtain ⟨b, hb⟩ : ∃ b, b = l.foldl max x0 := ⟨_, rfl⟩
      rw [← ha] at s0
      rw [← hb] at s1
      have HAB := Lib.hid (And.intro ha hb)
      clear ha hb hS hS0 hkS hk01
      go_wp2_with fail
      have v0 := (cell_set_ne (W := wr.setCell ⟨W.heap.size, 0, none⟩ (.int .i64 a)) (b := W.heap.size) (o := 1) (o' := 0) (v := .int .i64 b) (by omega)).trans (cell_set_eq q0)
      have v1 := cell_set_eq (v := .int .i64 b) ((cell_set_ne (W := wr) (b := W.heap.size) (o := 0) (o' := 1) (v := .int .i64 a) (by omega)).trans q1)
      refine bodyPost_ret (v := .agg #[.int .i64 a, .int .i64 b]) (by simp [results, Tryz.results68, go_sem, v0, v1]) rfl ?_
      refine ⟨by rw [HAB.out.1, HAB.out.2]; unfold loOf hiOf; rw [HHD.out], ?_⟩
      exact Below.setCell (p := ⟨W.heap.size, 1, none⟩) (Below.setCell (p := ⟨W.heap.size, 0, none⟩) HKS.out (Nat.le_refl _) _) (Nat.le_refl _) _
end Go.Proofs.YthkcgengohoboaaGreatDoor
