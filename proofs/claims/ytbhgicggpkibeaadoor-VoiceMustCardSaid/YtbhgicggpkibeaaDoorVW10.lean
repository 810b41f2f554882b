import Derived.Test.YtbhgicggpkibeaaDoorVW9
set_option linter.all false
set_option linter.all false
namespace Go.Proofs.YtbhgicggpkibeaaDoor
open Go.RowKit Go.Sort
set_option maxRecDepth 100000

theorem isBoy_any (p : Option Addr) (len cap : Nat) (k1 ts : Value) (n : Int) (w : World) (hl : len ≤ 140737488355328) : Calls Tryd.prog 84 #[.agg #[.slice p len cap, k1, ts], .int .i64 n] w fun e w' => e = .returned (.bool (inB n 0 (len - 1))) ∧ Kept w w' := by
  go_enter Tryd.func84, Tryd.ntmps84
  go_wp2_with (go_at_call 97; refine (isIn_any _ _ _ _).mono ?_; rintro e w' ⟨rfl, rfl⟩)
  go_ret
  exact ⟨rfl, kept_alloc (kept_refl _) _⟩

def validTrialB (len wks : Nat) (t : Trial) : Bool := inB t.boy 0 (len - 1) && inB t.week 0 (wks - 1) && inB t.note 0 40 && inB t.sang 0 1

theorem vt_a (p : Option Addr) (len cap wks : Nat) (ts : Value) (t : Trial) (w : World) (hl : len ≤ 140737488355328) (hw : wks ≤ 1000) (ha : inB t.boy 0 (len - 1) = false) :
   Calls Tryd.prog 92 #[.agg #[.slice p len cap, .int .i64 wks, ts], .agg #[.int .i64 t.boy, .int .i64 t.week, .int .i64 t.note, .int .i64 t.sang]] w fun e w' => e = .returned (.bool (false)) ∧ Kept w w' := by
  have HA := Lib.hid ha; clear ha
  have hk0 : Kept w ((w.alloc (Obj.cells #[.slice p len cap, .int .i64 wks, ts] 25)).alloc (Obj.cells #[.int .i64 t.boy, .int .i64 t.week, .int .i64 t.note, .int .i64 t.sang] 74)) := kept_alloc (kept_alloc (kept_refl _) _) _
  go_enter Tryd.func92, Tryd.ntmps92
  go_wp2_with fail
  refine (isBoy_any _ _ _ _ _ _ _ hl).mono ?_
  rintro e w1 ⟨rfl, hk1⟩
  obtain ⟨hc1, hf1, hz1⟩ := bcell hk1
  have hk1' := kept_trans hk0 hk1
  have hs1 : w.heap.size + 1 < w1.heap.size := by simp at hz1; omega
  clear hz1
  rw [HA.out]
  go_wp2_with fail
  go_ret
  exact ⟨by simp, hk1'⟩

theorem vt_b (p : Option Addr) (len cap wks : Nat) (ts : Value) (t : Trial) (w : World) (hl : len ≤ 140737488355328) (hw : wks ≤ 1000) (ha : inB t.boy 0 (len - 1) = true) (hb : inB t.week 0 (wks - 1) = false) :
   Calls Tryd.prog 92 #[.agg #[.slice p len cap, .int .i64 wks, ts], .agg #[.int .i64 t.boy, .int .i64 t.week, .int .i64 t.note, .int .i64 t.sang]] w fun e w' => e = .returned (.bool (false)) ∧ Kept w w' := by
  have HA := Lib.hid ha; clear ha
  have HB := Lib.hid hb; clear hb
  have hk0 : Kept w ((w.alloc (Obj.cells #[.slice p len cap, .int .i64 wks, ts] 25)).alloc (Obj.cells #[.int .i64 t.boy, .int .i64 t.week, .int .i64 t.note, .int .i64 t.sang] 74)) := kept_alloc (kept_alloc (kept_refl _) _) _
  go_enter Tryd.func92, Tryd.ntmps92
  go_wp2_with fail
  refine (isBoy_any _ _ _ _ _ _ _ hl).mono ?_
  rintro e w1 ⟨rfl, hk1⟩
  obtain ⟨hc1, hf1, hz1⟩ := bcell hk1
  have hk1' := kept_trans hk0 hk1
  have hs1 : w.heap.size + 1 < w1.heap.size := by simp at hz1; omega
  clear hz1
  rw [HA.out]
  go_wp2_with fail
  refine (isWeek_any _ _ _ _ _ (by omega) (by omega)).mono ?_
  rintro e w2 ⟨rfl, hk2⟩
  obtain ⟨hc2, hf2, hz2⟩ := bcell hk2
  have hk2' := kept_trans hk1' hk2
  have hs2 : w.heap.size + 1 < w2.heap.size := by omega
  rw [HB.out]
  go_wp2_with fail
  go_ret
  exact ⟨by simp, hk2'⟩

theorem vt_c (p : Option Addr) (len cap wks : Nat) (ts : Value) (t : Trial) (w : World) (hl : len ≤ 140737488355328) (hw : wks ≤ 1000) (ha : inB t.boy 0 (len - 1) = true) (hb : inB t.week 0 (wks - 1) = true) (hc : inB t.note 0 40 = false) :
   Calls Tryd.prog 92 #[.agg #[.slice p len cap, .int .i64 wks, ts], .agg #[.int .i64 t.boy, .int .i64 t.week, .int .i64 t.note, .int .i64 t.sang]] w fun e w' => e = .returned (.bool (false)) ∧ Kept w w' := by
  have HA := Lib.hid ha; clear ha
  have HB := Lib.hid hb; clear hb
  have HC := Lib.hid hc; clear hc
  have hk0 : Kept w ((w.alloc (Obj.cells #[.slice p len cap, .int .i64 wks, ts] 25)).alloc (Obj.cells #[.int .i64 t.boy, .int .i64 t.week, .int .i64 t.note, .int .i64 t.sang] 74)) := kept_alloc (kept_alloc (kept_refl _) _) _
  go_enter Tryd.func92, Tryd.ntmps92
  go_wp2_with fail
  refine (isBoy_any _ _ _ _ _ _ _ hl).mono ?_
  rintro e w1 ⟨rfl, hk1⟩
  obtain ⟨hc1, hf1, hz1⟩ := bcell hk1
  have hk1' := kept_trans hk0 hk1
  have hs1 : w.heap.size + 1 < w1.heap.size := by simp at hz1; omega
  clear hz1
  rw [HA.out]
  go_wp2_with fail
  refine (isWeek_any _ _ _ _ _ (by omega) (by omega)).mono ?_
  rintro e w2 ⟨rfl, hk2⟩
  obtain ⟨hc2, hf2, hz2⟩ := bcell hk2
  have hk2' := kept_trans hk1' hk2
  have hs2 : w.heap.size + 1 < w2.heap.size := by omega
  rw [HB.out]
  go_wp2_with fail
  refine (isNote_any _ _).mono ?_
  rintro e w3 ⟨rfl, rfl⟩
  rw [HC.out]
  go_wp2_with fail
  go_ret
  exact ⟨by simp, hk2'⟩

theorem vt_d (p : Option Addr) (len cap wks : Nat) (ts : Value) (t : Trial) (w : World) (hl : len ≤ 140737488355328) (hw : wks ≤ 1000) (ha : inB t.boy 0 (len - 1) = true) (hb : inB t.week 0 (wks - 1) = true) (hc : inB t.note 0 40 = true) :
   Calls Tryd.prog 92 #[.agg #[.slice p len cap, .int .i64 wks, ts], .agg #[.int .i64 t.boy, .int .i64 t.week, .int .i64 t.note, .int .i64 t.sang]] w fun e w' => e = .returned (.bool (inB t.sang 0 1)) ∧ Kept w w' := by
  have HA := Lib.hid ha; clear ha
  have HB := Lib.hid hb; clear hb
  have HC := Lib.hid hc; clear hc
  have hk0 : Kept w ((w.alloc (Obj.cells #[.slice p len cap, .int .i64 wks, ts] 25)).alloc (Obj.cells #[.int .i64 t.boy, .int .i64 t.week, .int .i64 t.note, .int .i64 t.sang] 74)) := kept_alloc (kept_alloc (kept_refl _) _) _
  go_enter Tryd.func92, Tryd.ntmps92
  go_wp2_with fail
  refine (isBoy_any _ _ _ _ _ _ _ hl).mono ?_
  rintro e w1 ⟨rfl, hk1⟩
  obtain ⟨hc1, hf1, hz1⟩ := bcell hk1
  have hk1' := kept_trans hk0 hk1
  have hs1 : w.heap.size + 1 < w1.heap.size := by simp at hz1; omega
  clear hz1
  rw [HA.out]
  go_wp2_with fail
  refine (isWeek_any _ _ _ _ _ (by omega) (by omega)).mono ?_
  rintro e w2 ⟨rfl, hk2⟩
  obtain ⟨hc2, hf2, hz2⟩ := bcell hk2
  have hk2' := kept_trans hk1' hk2
  have hs2 : w.heap.size + 1 < w2.heap.size := by omega
  rw [HB.out]
  go_wp2_with fail
  refine (isNote_any _ _).mono ?_
  rintro e w3 ⟨rfl, rfl⟩
  rw [HC.out]
  go_wp2_with fail
  refine (isIn_any _ _ _ _).mono ?_
  rintro e w4 ⟨rfl, rfl⟩
  go_wp2_with fail
  go_ret
  exact ⟨by simp, hk2'⟩

theorem validTrial_any (p : Option Addr) (len cap wks : Nat) (ts : Value) (t : Trial) (w : World) (hl : len ≤ 140737488355328) (hw : wks ≤ 1000) :
   Calls Tryd.prog 92 #[.agg #[.slice p len cap, .int .i64 wks, ts], .agg #[.int .i64 t.boy, .int .i64 t.week, .int .i64 t.note, .int .i64 t.sang]] w fun e w' => e = .returned (.bool (validTrialB len wks t)) ∧ Kept w w' := by
  unfold validTrialB
  cases ha : inB t.boy 0 (len - 1)
  · exact vt_a p len cap wks ts t w hl hw ha
  · cases hb : inB t.week 0 (wks - 1)
    · exact vt_b p len cap wks ts t w hl hw ha hb
    · cases hc : inB t.note 0 40
      · exact vt_c p len cap wks ts t w hl hw ha hb hc
      · simpa using vt_d p len cap wks ts t w hl hw ha hb hc
end Go.Proofs.YtbhgicggpkibeaaDoor
