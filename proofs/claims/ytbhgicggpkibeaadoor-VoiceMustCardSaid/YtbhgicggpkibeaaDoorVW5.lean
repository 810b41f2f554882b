import Derived.Test.YtbhgicggpkibeaaDoorVW4
set_option linter.all false
set_option linter.all false
namespace Go.Proofs.YtbhgicggpkibeaaDoor
open Go.RowKit Go.Sort
set_option maxRecDepth 100000

def singsB (n0 n1 n2 n3 n4 loss wk lo hi : Int) : Bool := decide (wk < n4) && decide (n0 ≤ lo) && decide (hi ≤ top n1 n2 n3 loss wk)

theorem sings_any (b o len cap : Nat) (k1 ts m : Value) (boy : Nat) (n0 n1 n2 n3 n4 loss lo hi wk : Int) (w : World)
   (hb : boy < len) (hl : len ≤ 4) (hc : w.cell? ⟨b, o + boy * 11 + 8, none⟩ = some (.int .i64 loss)) (hin : b < w.heap.size)
   (h1 : 0 ≤ n1 ∧ n1 ≤ 100) (h2 : 0 ≤ n2 ∧ n2 ≤ 100) (h3 : 0 ≤ n3 ∧ n3 ≤ 100) (h4 : 0 ≤ wk ∧ wk ≤ 100) (h5 : 0 ≤ loss ∧ loss ≤ 100) :
   Calls Tryd.prog 56 #[.agg #[Value.slice (some ⟨b, o, none⟩) len cap, k1, ts, m, Value.int IntKind.i64 ↑boy, Value.int IntKind.i64 n0, Value.int IntKind.i64 n1, Value.int IntKind.i64 n2, Value.int IntKind.i64 n3, Value.int IntKind.i64 n4], .int .i64 wk, .agg #[.int .i64 lo, .int .i64 hi]] w fun e w' => e = .returned (.bool (singsB n0 n1 n2 n3 n4 loss wk lo hi)) ∧ Kept w w' := by
  unfold singsB
  by_cases hbr : wk < n4
  · by_cases hlo : n0 ≤ lo
    · simpa [hbr, hlo] using sings_top b o len cap k1 ts m boy n0 n1 n2 n3 n4 loss lo hi wk w hb hl hc hin h1 h2 h3 h4 h5 hbr hlo
    · simpa [hbr, hlo] using sings_low b o len cap k1 ts m boy n0 n1 n2 n3 n4 loss lo hi wk w hb hl hc hin h1 h2 h3 h4 h5 hbr (by omega)
  · simpa [hbr] using sings_broken _ _ _ _ _ _ _ _ _ n4 lo hi wk w (by omega)

def beliesB (n0 n1 n2 n3 n4 loss wk note sang : Int) : Bool := singsB n0 n1 n2 n3 n4 loss wk note note != (sang == 1)

set_option maxHeartbeats 1000000 in
theorem belies_any (b o len cap : Nat) (k1 ts m : Value) (boy : Nat) (n0 n1 n2 n3 n4 loss tb wk note sang : Int) (w : World)
   (hb : boy < len) (hl : len ≤ 4) (hc : w.cell? ⟨b, o + boy * 11 + 8, none⟩ = some (.int .i64 loss)) (hin : b < w.heap.size)
   (h1 : 0 ≤ n1 ∧ n1 ≤ 100) (h2 : 0 ≤ n2 ∧ n2 ≤ 100) (h3 : 0 ≤ n3 ∧ n3 ≤ 100) (h4 : 0 ≤ wk ∧ wk ≤ 100) (h5 : 0 ≤ loss ∧ loss ≤ 100) :
   Calls Tryd.prog 163 #[.agg #[Value.slice (some ⟨b, o, none⟩) len cap, k1, ts, m, Value.int IntKind.i64 ↑boy, Value.int IntKind.i64 n0, Value.int IntKind.i64 n1, Value.int IntKind.i64 n2, Value.int IntKind.i64 n3, Value.int IntKind.i64 n4], .agg #[Value.int IntKind.i64 tb, Value.int IntKind.i64 wk, Value.int IntKind.i64 note, Value.int IntKind.i64 sang]] w fun e w' => e = .returned (.bool (beliesB n0 n1 n2 n3 n4 loss wk note sang)) ∧ Kept w w' := by
  have c0 : ∀ d os, (grow (redrawn ((w.alloc (Obj.cells #[Value.slice (some ⟨b, o, none⟩) len cap, k1, ts, m, Value.int IntKind.i64 ↑boy, Value.int IntKind.i64 n0, Value.int IntKind.i64 n1, Value.int IntKind.i64 n2, Value.int IntKind.i64 n3, Value.int IntKind.i64 n4] 92)).alloc (Obj.cells #[Value.int IntKind.i64 tb, Value.int IntKind.i64 wk, Value.int IntKind.i64 note, Value.int IntKind.i64 sang] 74)) d) os).cell? ⟨w.heap.size, 0, none⟩ = some (Value.slice (some ⟨b, o, none⟩) len cap) := cell_regrown (by go_simp)
  have c1 : ∀ d os, (grow (redrawn ((w.alloc (Obj.cells #[Value.slice (some ⟨b, o, none⟩) len cap, k1, ts, m, Value.int IntKind.i64 ↑boy, Value.int IntKind.i64 n0, Value.int IntKind.i64 n1, Value.int IntKind.i64 n2, Value.int IntKind.i64 n3, Value.int IntKind.i64 n4] 92)).alloc (Obj.cells #[Value.int IntKind.i64 tb, Value.int IntKind.i64 wk, Value.int IntKind.i64 note, Value.int IntKind.i64 sang] 74)) d) os).cell? ⟨w.heap.size, 1, none⟩ = some (k1) := cell_regrown (by go_simp)
  have c2 : ∀ d os, (grow (redrawn ((w.alloc (Obj.cells #[Value.slice (some ⟨b, o, none⟩) len cap, k1, ts, m, Value.int IntKind.i64 ↑boy, Value.int IntKind.i64 n0, Value.int IntKind.i64 n1, Value.int IntKind.i64 n2, Value.int IntKind.i64 n3, Value.int IntKind.i64 n4] 92)).alloc (Obj.cells #[Value.int IntKind.i64 tb, Value.int IntKind.i64 wk, Value.int IntKind.i64 note, Value.int IntKind.i64 sang] 74)) d) os).cell? ⟨w.heap.size, 2, none⟩ = some (ts) := cell_regrown (by go_simp)
  have c3 : ∀ d os, (grow (redrawn ((w.alloc (Obj.cells #[Value.slice (some ⟨b, o, none⟩) len cap, k1, ts, m, Value.int IntKind.i64 ↑boy, Value.int IntKind.i64 n0, Value.int IntKind.i64 n1, Value.int IntKind.i64 n2, Value.int IntKind.i64 n3, Value.int IntKind.i64 n4] 92)).alloc (Obj.cells #[Value.int IntKind.i64 tb, Value.int IntKind.i64 wk, Value.int IntKind.i64 note, Value.int IntKind.i64 sang] 74)) d) os).cell? ⟨w.heap.size, 3, none⟩ = some (m) := cell_regrown (by go_simp)
  have c4 : ∀ d os, (grow (redrawn ((w.alloc (Obj.cells #[Value.slice (some ⟨b, o, none⟩) len cap, k1, ts, m, Value.int IntKind.i64 ↑boy, Value.int IntKind.i64 n0, Value.int IntKind.i64 n1, Value.int IntKind.i64 n2, Value.int IntKind.i64 n3, Value.int IntKind.i64 n4] 92)).alloc (Obj.cells #[Value.int IntKind.i64 tb, Value.int IntKind.i64 wk, Value.int IntKind.i64 note, Value.int IntKind.i64 sang] 74)) d) os).cell? ⟨w.heap.size, 4, none⟩ = some (Value.int IntKind.i64 ↑boy) := cell_regrown (by go_simp)
  have c5 : ∀ d os, (grow (redrawn ((w.alloc (Obj.cells #[Value.slice (some ⟨b, o, none⟩) len cap, k1, ts, m, Value.int IntKind.i64 ↑boy, Value.int IntKind.i64 n0, Value.int IntKind.i64 n1, Value.int IntKind.i64 n2, Value.int IntKind.i64 n3, Value.int IntKind.i64 n4] 92)).alloc (Obj.cells #[Value.int IntKind.i64 tb, Value.int IntKind.i64 wk, Value.int IntKind.i64 note, Value.int IntKind.i64 sang] 74)) d) os).cell? ⟨w.heap.size, 5, none⟩ = some (Value.int IntKind.i64 n0) := cell_regrown (by go_simp)
  have c6 : ∀ d os, (grow (redrawn ((w.alloc (Obj.cells #[Value.slice (some ⟨b, o, none⟩) len cap, k1, ts, m, Value.int IntKind.i64 ↑boy, Value.int IntKind.i64 n0, Value.int IntKind.i64 n1, Value.int IntKind.i64 n2, Value.int IntKind.i64 n3, Value.int IntKind.i64 n4] 92)).alloc (Obj.cells #[Value.int IntKind.i64 tb, Value.int IntKind.i64 wk, Value.int IntKind.i64 note, Value.int IntKind.i64 sang] 74)) d) os).cell? ⟨w.heap.size, 6, none⟩ = some (Value.int IntKind.i64 n1) := cell_regrown (by go_simp)
  have c7 : ∀ d os, (grow (redrawn ((w.alloc (Obj.cells #[Value.slice (some ⟨b, o, none⟩) len cap, k1, ts, m, Value.int IntKind.i64 ↑boy, Value.int IntKind.i64 n0, Value.int IntKind.i64 n1, Value.int IntKind.i64 n2, Value.int IntKind.i64 n3, Value.int IntKind.i64 n4] 92)).alloc (Obj.cells #[Value.int IntKind.i64 tb, Value.int IntKind.i64 wk, Value.int IntKind.i64 note, Value.int IntKind.i64 sang] 74)) d) os).cell? ⟨w.heap.size, 7, none⟩ = some (Value.int IntKind.i64 n2) := cell_regrown (by go_simp)
  have c8 : ∀ d os, (grow (redrawn ((w.alloc (Obj.cells #[Value.slice (some ⟨b, o, none⟩) len cap, k1, ts, m, Value.int IntKind.i64 ↑boy, Value.int IntKind.i64 n0, Value.int IntKind.i64 n1, Value.int IntKind.i64 n2, Value.int IntKind.i64 n3, Value.int IntKind.i64 n4] 92)).alloc (Obj.cells #[Value.int IntKind.i64 tb, Value.int IntKind.i64 wk, Value.int IntKind.i64 note, Value.int IntKind.i64 sang] 74)) d) os).cell? ⟨w.heap.size, 8, none⟩ = some (Value.int IntKind.i64 n3) := cell_regrown (by go_simp)
  have c9 : ∀ d os, (grow (redrawn ((w.alloc (Obj.cells #[Value.slice (some ⟨b, o, none⟩) len cap, k1, ts, m, Value.int IntKind.i64 ↑boy, Value.int IntKind.i64 n0, Value.int IntKind.i64 n1, Value.int IntKind.i64 n2, Value.int IntKind.i64 n3, Value.int IntKind.i64 n4] 92)).alloc (Obj.cells #[Value.int IntKind.i64 tb, Value.int IntKind.i64 wk, Value.int IntKind.i64 note, Value.int IntKind.i64 sang] 74)) d) os).cell? ⟨w.heap.size, 9, none⟩ = some (Value.int IntKind.i64 n4) := cell_regrown (by go_simp)
  have c10 : ∀ d os, (grow (redrawn ((w.alloc (Obj.cells #[Value.slice (some ⟨b, o, none⟩) len cap, k1, ts, m, Value.int IntKind.i64 ↑boy, Value.int IntKind.i64 n0, Value.int IntKind.i64 n1, Value.int IntKind.i64 n2, Value.int IntKind.i64 n3, Value.int IntKind.i64 n4] 92)).alloc (Obj.cells #[Value.int IntKind.i64 tb, Value.int IntKind.i64 wk, Value.int IntKind.i64 note, Value.int IntKind.i64 sang] 74)) d) os).cell? ⟨w.heap.size + 1, 0, none⟩ = some (Value.int IntKind.i64 tb) := cell_regrown (by go_simp)
  have c11 : ∀ d os, (grow (redrawn ((w.alloc (Obj.cells #[Value.slice (some ⟨b, o, none⟩) len cap, k1, ts, m, Value.int IntKind.i64 ↑boy, Value.int IntKind.i64 n0, Value.int IntKind.i64 n1, Value.int IntKind.i64 n2, Value.int IntKind.i64 n3, Value.int IntKind.i64 n4] 92)).alloc (Obj.cells #[Value.int IntKind.i64 tb, Value.int IntKind.i64 wk, Value.int IntKind.i64 note, Value.int IntKind.i64 sang] 74)) d) os).cell? ⟨w.heap.size + 1, 1, none⟩ = some (Value.int IntKind.i64 wk) := cell_regrown (by go_simp)
  have c12 : ∀ d os, (grow (redrawn ((w.alloc (Obj.cells #[Value.slice (some ⟨b, o, none⟩) len cap, k1, ts, m, Value.int IntKind.i64 ↑boy, Value.int IntKind.i64 n0, Value.int IntKind.i64 n1, Value.int IntKind.i64 n2, Value.int IntKind.i64 n3, Value.int IntKind.i64 n4] 92)).alloc (Obj.cells #[Value.int IntKind.i64 tb, Value.int IntKind.i64 wk, Value.int IntKind.i64 note, Value.int IntKind.i64 sang] 74)) d) os).cell? ⟨w.heap.size + 1, 2, none⟩ = some (Value.int IntKind.i64 note) := cell_regrown (by go_simp)
  have c13 : ∀ d os, (grow (redrawn ((w.alloc (Obj.cells #[Value.slice (some ⟨b, o, none⟩) len cap, k1, ts, m, Value.int IntKind.i64 ↑boy, Value.int IntKind.i64 n0, Value.int IntKind.i64 n1, Value.int IntKind.i64 n2, Value.int IntKind.i64 n3, Value.int IntKind.i64 n4] 92)).alloc (Obj.cells #[Value.int IntKind.i64 tb, Value.int IntKind.i64 wk, Value.int IntKind.i64 note, Value.int IntKind.i64 sang] 74)) d) os).cell? ⟨w.heap.size + 1, 3, none⟩ = some (Value.int IntKind.i64 sang) := cell_regrown (by go_simp)
  have kW : Kept w ((w.alloc (Obj.cells #[Value.slice (some ⟨b, o, none⟩) len cap, k1, ts, m, Value.int IntKind.i64 ↑boy, Value.int IntKind.i64 n0, Value.int IntKind.i64 n1, Value.int IntKind.i64 n2, Value.int IntKind.i64 n3, Value.int IntKind.i64 n4] 92)).alloc (Obj.cells #[Value.int IntKind.i64 tb, Value.int IntKind.i64 wk, Value.int IntKind.i64 note, Value.int IntKind.i64 sang] 74)) := kept_alloc (kept_alloc (kept_refl _) _) _
  have cL : ∀ d os, (grow (redrawn ((w.alloc (Obj.cells #[Value.slice (some ⟨b, o, none⟩) len cap, k1, ts, m, Value.int IntKind.i64 ↑boy, Value.int IntKind.i64 n0, Value.int IntKind.i64 n1, Value.int IntKind.i64 n2, Value.int IntKind.i64 n3, Value.int IntKind.i64 n4] 92)).alloc (Obj.cells #[Value.int IntKind.i64 tb, Value.int IntKind.i64 wk, Value.int IntKind.i64 note, Value.int IntKind.i64 sang] 74)) d) os).cell? ⟨b, o + boy * 11 + 8, none⟩ = some (.int .i64 loss) := cell_regrown (((bcell kW).1 b _ hin).trans hc)
  have sW : w.heap.size ≤ ((w.alloc (Obj.cells #[Value.slice (some ⟨b, o, none⟩) len cap, k1, ts, m, Value.int IntKind.i64 ↑boy, Value.int IntKind.i64 n0, Value.int IntKind.i64 n1, Value.int IntKind.i64 n2, Value.int IntKind.i64 n3, Value.int IntKind.i64 n4] 92)).alloc (Obj.cells #[Value.int IntKind.i64 tb, Value.int IntKind.i64 wk, Value.int IntKind.i64 note, Value.int IntKind.i64 sang] 74)).heap.size := by simp; omega
  go_enter Tryd.func163, Tryd.ntmps163
  go_wp2_with fail
  generalize (w.alloc (Obj.cells #[Value.slice (some ⟨b, o, none⟩) len cap, k1, ts, m, Value.int IntKind.i64 ↑boy, Value.int IntKind.i64 n0, Value.int IntKind.i64 n1, Value.int IntKind.i64 n2, Value.int IntKind.i64 n3, Value.int IntKind.i64 n4] 92)).alloc (Obj.cells #[Value.int IntKind.i64 tb, Value.int IntKind.i64 wk, Value.int IntKind.i64 note, Value.int IntKind.i64 sang] 74) = W at *
  have zL : ∀ d os, b < (grow (redrawn W d) os).heap.size := fun d os => Nat.lt_of_lt_of_le (Nat.lt_of_lt_of_le hin sW) (below_regrown W d os).size
  have HL := Lib.hid cL
  have HZ := Lib.hid zL
  clear cL zL hc
  refine wp_region_quiet_below (by kernel_rfl) (by kernel_rfl) ?_
  repeat (any_goals (quiet_step (first | exact Calls.regrown_of (just_any _ _) | exact Calls.regrown_of (sings_any _ _ _ _ _ _ _ _ _ _ _ _ _ _ _ _ _ _ hb hl (HL.out _ _) (HZ.out _ _) h1 h2 h3 h4 h5))))
  refine wpQuiet_nil ?_
  intro _ hw'
  obtain ⟨⟨dq, osq⟩, hw''⟩ := hw'
  subst hw''
  have kW2 := kept_trans kW (below_regrown W dq osq)
  go_wp2_with fail
  go_ret
  exact ⟨rfl, kW2⟩
end Go.Proofs.YtbhgicggpkibeaaDoor
