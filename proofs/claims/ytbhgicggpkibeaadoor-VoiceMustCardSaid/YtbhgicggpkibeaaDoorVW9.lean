import Derived.Test.YtbhgicggpkibeaaDoorVW8
set_option linter.all false
set_option linter.all false
namespace Go.Proofs.YtbhgicggpkibeaaDoor
open Go.RowKit Go.Sort
set_option maxRecDepth 100000

/-- what a map of trials by boy and week tells at a key, now and behind whatever is laid -/
def LooksAt (w : World) (m : Value) (boy wk : Nat) (l : List Trial) : Prop :=
  ∃ v, (∀ W, Kept w W → (Instr.lookup 82 m (.agg #[.int .i64 boy, .int .i64 wk]) false).run Tryd.prog W = .ok v W) ∧ SliceIs w v l

def ToldB (P : Bool → Prop) (w : World) (e : Ending) (w' : World) : Prop := ∃ r : Bool, P r ∧ e = .returned (.bool r) ∧ Kept w w'
def KeepsP (wks : Nat) (ls : Nat → List Trial) (f : Trial → Bool) (r : Bool) : Prop := r = true ↔ ∀ k, k < wks → (ls k).any f = false

set_option maxHeartbeats 1000000 in
theorem keeps_any (b o len cap : Nat) (ts m : Value) (wks boy : Nat) (n0 n1 n2 n3 n4 loss : Int) (ls : Nat → List Trial) (w : World)
   (hb : boy < len) (hl : len ≤ 4) (hc : w.cell? ⟨b, o + boy * 11 + 8, none⟩ = some (.int .i64 loss)) (hin : b < w.heap.size)
   (h1 : 0 ≤ n1 ∧ n1 ≤ 100) (h2 : 0 ≤ n2 ∧ n2 ≤ 100) (h3 : 0 ≤ n3 ∧ n3 ≤ 100) (h5 : 0 ≤ loss ∧ loss ≤ 100) (hw : wks ≤ 6) (hT : ∀ k, k < wks → LooksAt w m boy k (ls k)) (hn : ∀ k, k < wks → (ls k).length ≤ 6) (hr : ∀ k, k < wks → ∀ t, t ∈ ls k → 0 ≤ t.week ∧ t.week ≤ 100) :
   Calls Tryd.prog 146 #[.agg #[Value.slice (some ⟨b, o, none⟩) len cap, Value.int IntKind.i64 ↑wks, ts, m, Value.int IntKind.i64 ↑boy, Value.int IntKind.i64 n0, Value.int IntKind.i64 n1, Value.int IntKind.i64 n2, Value.int IntKind.i64 n3, Value.int IntKind.i64 n4]] w (ToldB (KeepsP wks ls (TB n0 n1 n2 n3 n4 loss)) w) := by
  have HT := Lib.hid hT; clear hT
  have HN := Lib.hid hn; clear hn
  have HR := Lib.hid hr; clear hr
  have hk0 : Kept w (w.alloc (Obj.cells #[Value.slice (some ⟨b, o, none⟩) len cap, Value.int IntKind.i64 ↑wks, ts, m, Value.int IntKind.i64 ↑boy, Value.int IntKind.i64 n0, Value.int IntKind.i64 n1, Value.int IntKind.i64 n2, Value.int IntKind.i64 n3, Value.int IntKind.i64 n4] 92)) := kept_alloc (kept_refl _) _
  go_enter Tryd.func146, Tryd.ntmps146
  go_wp2_with fail
  go_loopw [8] (fun i W => ∃ k : Nat, k ≤ wks ∧ i = .int .i64 k ∧ (∀ j, j < k → (ls j).any (TB n0 n1 n2 n3 n4 loss) = false) ∧ Kept (w.alloc (Obj.cells #[Value.slice (some ⟨b, o, none⟩) len cap, Value.int IntKind.i64 ↑wks, ts, m, Value.int IntKind.i64 ↑boy, Value.int IntKind.i64 n0, Value.int IntKind.i64 n1, Value.int IntKind.i64 n2, Value.int IntKind.i64 n3, Value.int IntKind.i64 n4] 92)) W) (fun i W => wks - (intOf i).toNat)
  case atStart => exact ⟨0, by omega, rfl, fun j hj => by omega, kept_refl _⟩
  case round =>
    obtain ⟨k, hk, rfl, hno, hkW⟩ := hrel
    have HNO := Lib.hid hno; clear hno
    have hkw := kept_trans hk0 hkW
    by_cases hlt : k < wks
    · have hltI : (k : Int) < wks := by omega
      have c0 : ∀ d os, (grow (redrawn wr d) os).cell? ⟨w.heap.size, 0, none⟩ = some (Value.slice (some ⟨b, o, none⟩) len cap) := cell_regrown (((bcell hkW).1 _ _ (by simp)).trans (by go_simp))
      have c1 : ∀ d os, (grow (redrawn wr d) os).cell? ⟨w.heap.size, 1, none⟩ = some (Value.int IntKind.i64 ↑wks) := cell_regrown (((bcell hkW).1 _ _ (by simp)).trans (by go_simp))
      have c2 : ∀ d os, (grow (redrawn wr d) os).cell? ⟨w.heap.size, 2, none⟩ = some (ts) := cell_regrown (((bcell hkW).1 _ _ (by simp)).trans (by go_simp))
      have c3 : ∀ d os, (grow (redrawn wr d) os).cell? ⟨w.heap.size, 3, none⟩ = some (m) := cell_regrown (((bcell hkW).1 _ _ (by simp)).trans (by go_simp))
      have c4 : ∀ d os, (grow (redrawn wr d) os).cell? ⟨w.heap.size, 4, none⟩ = some (Value.int IntKind.i64 ↑boy) := cell_regrown (((bcell hkW).1 _ _ (by simp)).trans (by go_simp))
      have c5 : ∀ d os, (grow (redrawn wr d) os).cell? ⟨w.heap.size, 5, none⟩ = some (Value.int IntKind.i64 n0) := cell_regrown (((bcell hkW).1 _ _ (by simp)).trans (by go_simp))
      have c6 : ∀ d os, (grow (redrawn wr d) os).cell? ⟨w.heap.size, 6, none⟩ = some (Value.int IntKind.i64 n1) := cell_regrown (((bcell hkW).1 _ _ (by simp)).trans (by go_simp))
      have c7 : ∀ d os, (grow (redrawn wr d) os).cell? ⟨w.heap.size, 7, none⟩ = some (Value.int IntKind.i64 n2) := cell_regrown (((bcell hkW).1 _ _ (by simp)).trans (by go_simp))
      have c8 : ∀ d os, (grow (redrawn wr d) os).cell? ⟨w.heap.size, 8, none⟩ = some (Value.int IntKind.i64 n3) := cell_regrown (((bcell hkW).1 _ _ (by simp)).trans (by go_simp))
      have c9 : ∀ d os, (grow (redrawn wr d) os).cell? ⟨w.heap.size, 9, none⟩ = some (Value.int IntKind.i64 n4) := cell_regrown (((bcell hkW).1 _ _ (by simp)).trans (by go_simp))
      obtain ⟨v, hlook, hs⟩ := HT.out k hlt
      have hlk : ∀ d os, (Instr.lookup 82 m (.agg #[.int .i64 boy, .int .i64 k]) false).run Tryd.prog (grow (redrawn wr d) os) = .ok v (grow (redrawn wr d) os) := fun d os => hlook _ (kept_trans hkw (below_regrown wr d os))
      clear hlook
      have hca : ∀ d os, Calls Tryd.prog 162 #[v, .func (.func 163) #[.agg #[Value.slice (some ⟨b, o, none⟩) len cap, Value.int IntKind.i64 ↑wks, ts, m, Value.int IntKind.i64 ↑boy, Value.int IntKind.i64 n0, Value.int IntKind.i64 n1, Value.int IntKind.i64 n2, Value.int IntKind.i64 n3, Value.int IntKind.i64 n4]] #[]] (grow (redrawn wr d) os) fun e w'' => e = .returned (.bool ((ls k).any (TB n0 n1 n2 n3 n4 loss))) ∧ ∃ p : Regrown, w'' = grow (redrawn wr p.d) p.os := by
        intro d os
        have hkx := kept_trans hkw (below_regrown wr d os)
        exact Calls.regrown_of (contains_any b o len cap _ ts m boy n0 n1 n2 n3 n4 loss (ls k) v _ hb hl (((bcell hkx).1 b (o + boy * 11 + 8) hin).trans hc) (Nat.lt_of_lt_of_le hin (bcell hkx).2.2) h1 h2 h3 h5 (hs.kept hkx) (HN.out k hlt) (HR.out k hlt))
      have HCA := Lib.hid hca; clear hca
      clear hc
      go_wp2_with fail
      refine wp_region_quiet_below (by kernel_rfl) (by kernel_rfl) ?_
      repeat (any_goals (quiet_step (first | exact HCA.out _ _)))
      refine wpQuiet_nil ?_
      intro _ hw'
      obtain ⟨⟨dq, osq⟩, hw''⟩ := hw'
      subst hw''
      have hkW2 := kept_trans hkW (below_regrown wr dq osq)
      have hkw2 := kept_trans hkw (below_regrown wr dq osq)
      clear c0 c1 c2 c3 c4 c5 c6 c7 c8 c9 hlk
      rcases hv : (ls k).any (TB n0 n1 n2 n3 n4 loss) with _ | _
      · have HNEW : Hid (∀ j, j < k + 1 → (ls j).any (TB n0 n1 n2 n3 n4 loss) = false) := Lib.hid (by
          intro j hj
          by_cases e : j = k
          · subst e; exact hv
          · exact HNO.out j (by omega))
        clear hv
        go_wp2_with fail
        go_roundw
        case rel => exact ⟨k + 1, by omega, by go_num, HNEW.out, hkW2⟩
        case measure => simp [intOf]; omega
      · have HP : Hid ((ls k).any (TB n0 n1 n2 n3 n4 loss) = true) := Lib.hid hv
        clear hv
        go_wp2_with fail
        go_ret
        exact ⟨false, (show KeepsP _ _ _ _ from ⟨(fun h => by cases h), (fun h => by have := h k hlt; rw [HP.out] at this; cases this)⟩), rfl, hkw2⟩
    · have hkl : wks ≤ k := by omega
      have HP : Hid (∀ j, j < wks → (ls j).any (TB n0 n1 n2 n3 n4 loss) = false) := Lib.hid (fun j hj => HNO.out j (by omega))
      have hltI : ¬ (k : Int) < wks := by omega
      go_wp2_with fail
      go_ret
      exact ⟨true, (show KeepsP _ _ _ _ from ⟨fun _ => HP.out, fun _ => rfl⟩), rfl, hkw⟩
end Go.Proofs.YtbhgicggpkibeaaDoor
