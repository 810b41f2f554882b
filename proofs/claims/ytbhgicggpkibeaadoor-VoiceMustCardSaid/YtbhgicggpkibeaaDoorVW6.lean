import Derived.Test.YtbhgicggpkibeaaDoorVW5
set_option linter.all false
set_option linter.all false
namespace Go.Proofs.YtbhgicggpkibeaaDoor
open Go.RowKit Go.Sort
set_option maxRecDepth 100000

theorem forbids_other (k0 k1 ts m n1 n2 n3 : Value) (boy n0 n4 tb wk note sang which : Int) (w : World) (h0 : ¬ tb = boy) :
   Calls Tryd.prog 147 #[.agg #[k0, k1, ts, m, Value.int IntKind.i64 boy, Value.int IntKind.i64 n0, n1, n2, n3, Value.int IntKind.i64 n4], .agg #[Value.int IntKind.i64 tb, Value.int IntKind.i64 wk, Value.int IntKind.i64 note, Value.int IntKind.i64 sang], .int .i64 which] w fun e w' => e = .returned (.bool (false)) ∧ Kept w w' := by
  have p1 : (tb != boy) = true := by simpa using h0
  have q1 : (tb == boy) = false := by simpa using h0

  go_enter Tryd.func147, Tryd.ntmps147
  go_wp2_with (first | (go_at_call 52; refine (isBroken_any _ _ _ _ _ _ _ _ _ _ _ _).mono ?_; rintro e w' ⟨rfl, hkk⟩))
  go_ret
  refine ⟨by simp, ?_⟩
  first | exact kept_alloc (kept_alloc (kept_refl _) _) _ | exact kept_trans (kept_alloc (kept_alloc (kept_refl _) _) _) hkk

theorem forbids_silent (k0 k1 ts m n1 n2 n3 : Value) (boy n0 n4 tb wk note sang which : Int) (w : World) (h0 : tb = boy) (h1 : sang = 0) :
   Calls Tryd.prog 147 #[.agg #[k0, k1, ts, m, Value.int IntKind.i64 boy, Value.int IntKind.i64 n0, n1, n2, n3, Value.int IntKind.i64 n4], .agg #[Value.int IntKind.i64 tb, Value.int IntKind.i64 wk, Value.int IntKind.i64 note, Value.int IntKind.i64 sang], .int .i64 which] w fun e w' => e = .returned (.bool (false)) ∧ Kept w w' := by
  have p1 : (tb != boy) = false := by simpa using h0
  have q1 : (tb == boy) = true := by simpa using h0
  have p2 : (sang != 0) = false := by simpa using h1
  have q2 : (sang == 0) = true := by simpa using h1

  go_enter Tryd.func147, Tryd.ntmps147
  go_wp2_with (first | (go_at_call 52; refine (isBroken_any _ _ _ _ _ _ _ _ _ _ _ _).mono ?_; rintro e w' ⟨rfl, hkk⟩))
  go_ret
  refine ⟨by simp, ?_⟩
  first | exact kept_alloc (kept_alloc (kept_refl _) _) _ | exact kept_trans (kept_alloc (kept_alloc (kept_refl _) _) _) hkk

theorem forbids_low (k0 k1 ts m n1 n2 n3 : Value) (boy n0 n4 tb wk note sang which : Int) (w : World) (h0 : tb = boy) (h1 : ¬ sang = 0) (h2 : which = 0) (h3 : note < n0) :
   Calls Tryd.prog 147 #[.agg #[k0, k1, ts, m, Value.int IntKind.i64 boy, Value.int IntKind.i64 n0, n1, n2, n3, Value.int IntKind.i64 n4], .agg #[Value.int IntKind.i64 tb, Value.int IntKind.i64 wk, Value.int IntKind.i64 note, Value.int IntKind.i64 sang], .int .i64 which] w fun e w' => e = .returned (.bool (true)) ∧ Kept w w' := by
  have p1 : (tb != boy) = false := by simpa using h0
  have q1 : (tb == boy) = true := by simpa using h0
  have p2 : (sang != 0) = true := by simpa using h1
  have q2 : (sang == 0) = false := by simpa using h1
  have p3 : (which != 0) = false := by simpa using h2
  have q3 : (which == 0) = true := by simpa using h2
  have q4 : decide (note < n0) = true := by simpa using h3

  go_enter Tryd.func147, Tryd.ntmps147
  go_wp2_with (first | (go_at_call 52; refine (isBroken_any _ _ _ _ _ _ _ _ _ _ _ _).mono ?_; rintro e w' ⟨rfl, hkk⟩))
  go_ret
  refine ⟨by simp, ?_⟩
  first | exact kept_alloc (kept_alloc (kept_refl _) _) _ | exact kept_trans (kept_alloc (kept_alloc (kept_refl _) _) _) hkk

theorem forbids_lowno (k0 k1 ts m n1 n2 n3 : Value) (boy n0 n4 tb wk note sang which : Int) (w : World) (h0 : tb = boy) (h1 : ¬ sang = 0) (h2 : which = 0) (h3 : ¬ note < n0) :
   Calls Tryd.prog 147 #[.agg #[k0, k1, ts, m, Value.int IntKind.i64 boy, Value.int IntKind.i64 n0, n1, n2, n3, Value.int IntKind.i64 n4], .agg #[Value.int IntKind.i64 tb, Value.int IntKind.i64 wk, Value.int IntKind.i64 note, Value.int IntKind.i64 sang], .int .i64 which] w fun e w' => e = .returned (.bool (false)) ∧ Kept w w' := by
  have p1 : (tb != boy) = false := by simpa using h0
  have q1 : (tb == boy) = true := by simpa using h0
  have p2 : (sang != 0) = true := by simpa using h1
  have q2 : (sang == 0) = false := by simpa using h1
  have p3 : (which != 0) = false := by simpa using h2
  have q3 : (which == 0) = true := by simpa using h2
  have q4 : decide (note < n0) = false := by simpa using h3
  have h24 : ¬ which = 4 := by omega
  have p5 : (which != 4) = true := by simpa using h24
  have q5 : (which == 4) = false := by simpa using h24

  go_enter Tryd.func147, Tryd.ntmps147
  go_wp2_with (first | (go_at_call 52; refine (isBroken_any _ _ _ _ _ _ _ _ _ _ _ _).mono ?_; rintro e w' ⟨rfl, hkk⟩))
  go_ret
  refine ⟨by simp, ?_⟩
  first | exact kept_alloc (kept_alloc (kept_refl _) _) _ | exact kept_trans (kept_alloc (kept_alloc (kept_refl _) _) _) hkk

theorem forbids_broken (k0 k1 ts m n1 n2 n3 : Value) (boy n0 n4 tb wk note sang which : Int) (w : World) (h0 : tb = boy) (h1 : ¬ sang = 0) (h2 : ¬ which = 0) (h3 : which = 4) :
   Calls Tryd.prog 147 #[.agg #[k0, k1, ts, m, Value.int IntKind.i64 boy, Value.int IntKind.i64 n0, n1, n2, n3, Value.int IntKind.i64 n4], .agg #[Value.int IntKind.i64 tb, Value.int IntKind.i64 wk, Value.int IntKind.i64 note, Value.int IntKind.i64 sang], .int .i64 which] w fun e w' => e = .returned (.bool (decide (n4 ≤ wk))) ∧ Kept w w' := by
  have p1 : (tb != boy) = false := by simpa using h0
  have q1 : (tb == boy) = true := by simpa using h0
  have p2 : (sang != 0) = true := by simpa using h1
  have q2 : (sang == 0) = false := by simpa using h1
  have p3 : (which != 0) = true := by simpa using h2
  have q3 : (which == 0) = false := by simpa using h2
  have p4 : (which != 4) = false := by simpa using h3
  have q4 : (which == 4) = true := by simpa using h3

  go_enter Tryd.func147, Tryd.ntmps147
  go_wp2_with (first | (go_at_call 52; refine (isBroken_any _ _ _ _ _ _ _ _ _ _ _ _).mono ?_; rintro e w' ⟨rfl, hkk⟩))
  go_ret
  refine ⟨by simp, ?_⟩
  first | exact kept_alloc (kept_alloc (kept_refl _) _) _ | exact kept_trans (kept_alloc (kept_alloc (kept_refl _) _) _) hkk

theorem forbids_none (k0 k1 ts m n1 n2 n3 : Value) (boy n0 n4 tb wk note sang which : Int) (w : World) (h0 : tb = boy) (h1 : ¬ sang = 0) (h2 : ¬ which = 0) (h3 : ¬ which = 4) :
   Calls Tryd.prog 147 #[.agg #[k0, k1, ts, m, Value.int IntKind.i64 boy, Value.int IntKind.i64 n0, n1, n2, n3, Value.int IntKind.i64 n4], .agg #[Value.int IntKind.i64 tb, Value.int IntKind.i64 wk, Value.int IntKind.i64 note, Value.int IntKind.i64 sang], .int .i64 which] w fun e w' => e = .returned (.bool (false)) ∧ Kept w w' := by
  have p1 : (tb != boy) = false := by simpa using h0
  have q1 : (tb == boy) = true := by simpa using h0
  have p2 : (sang != 0) = true := by simpa using h1
  have q2 : (sang == 0) = false := by simpa using h1
  have p3 : (which != 0) = true := by simpa using h2
  have q3 : (which == 0) = false := by simpa using h2
  have p4 : (which != 4) = true := by simpa using h3
  have q4 : (which == 4) = false := by simpa using h3

  go_enter Tryd.func147, Tryd.ntmps147
  go_wp2_with (first | (go_at_call 52; refine (isBroken_any _ _ _ _ _ _ _ _ _ _ _ _).mono ?_; rintro e w' ⟨rfl, hkk⟩))
  go_ret
  refine ⟨by simp, ?_⟩
  first | exact kept_alloc (kept_alloc (kept_refl _) _) _ | exact kept_trans (kept_alloc (kept_alloc (kept_refl _) _) _) hkk

def forbidsB (boy n0 n4 tb wk note sang which : Int) : Bool := decide (tb = boy) && decide (¬ sang = 0) && (decide (which = 0) && decide (note < n0) || decide (which = 4) && decide (n4 ≤ wk))
theorem forbids_any (k0 k1 ts m n1 n2 n3 : Value) (boy n0 n4 tb wk note sang which : Int) (w : World) :
   Calls Tryd.prog 147 #[.agg #[k0, k1, ts, m, Value.int IntKind.i64 boy, Value.int IntKind.i64 n0, n1, n2, n3, Value.int IntKind.i64 n4], .agg #[Value.int IntKind.i64 tb, Value.int IntKind.i64 wk, Value.int IntKind.i64 note, Value.int IntKind.i64 sang], .int .i64 which] w fun e w' => e = .returned (.bool (forbidsB boy n0 n4 tb wk note sang which)) ∧ Kept w w' := by
  unfold forbidsB
  by_cases h0 : tb = boy
  · by_cases h1 : sang = 0
    · simpa [h1] using forbids_silent k0 k1 ts m n1 n2 n3 boy n0 n4 tb wk note sang which w h0 h1
    · by_cases h2 : which = 0
      · by_cases h3 : note < n0
        · simpa [h0, h1, h2, h3] using forbids_low k0 k1 ts m n1 n2 n3 boy n0 n4 tb wk note sang which w h0 h1 h2 h3
        · simpa [h0, h1, h2, h3] using forbids_lowno k0 k1 ts m n1 n2 n3 boy n0 n4 tb wk note sang which w h0 h1 h2 h3
      · by_cases h3 : which = 4
        · simpa [h0, h1, h2, h3] using forbids_broken k0 k1 ts m n1 n2 n3 boy n0 n4 tb wk note sang which w h0 h1 h2 h3
        · simpa [h0, h1, h2, h3] using forbids_none k0 k1 ts m n1 n2 n3 boy n0 n4 tb wk note sang which w h0 h1 h2 h3
  · simpa [h0] using forbids_other k0 k1 ts m n1 n2 n3 boy n0 n4 tb wk note sang which w h0
end Go.Proofs.YtbhgicggpkibeaaDoor
