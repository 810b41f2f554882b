import Derived.Test.YtbhgicggpkibeaaDoorProg
import Derived.WalkKit
import Derived.WalkSpells
import Derived.Deep.QuietTactic
import Derived.BigQuiet
import Derived.Lib.Hide
set_option linter.all false
set_option linter.all false
namespace Go.Proofs.YtbhgicggpkibeaaDoor
open Go.RowKit
set_option maxRecDepth 100000
set_option maxHeartbeats 400000

def inB (n l h : Int) : Bool := decide (l ≤ n) && decide (n ≤ h)
theorem isIn_any (n l h : Int) (w : World) : Calls Tryd.prog 97 #[.int .i64 n, .int .i64 l, .int .i64 h] w fun e w' => e = .returned (.bool (inB n l h)) ∧ w = w' := by
  by_cases h1 : l ≤ n
  · have h2 : decide (l ≤ n) = true := by simpa using h1
    have H : inB n l h = decide (n ≤ h) := by simp [inB, h1]
    rw [H]; clear H h1
    go_enter Tryd.func97, Tryd.ntmps97
    go_wp2
    go_ret
    exact ⟨rfl, rfl⟩
  · have h2 : decide (l ≤ n) = false := by simpa using h1
    have H : inB n l h = false := by simp [inB, h1]
    rw [H]; clear H h1
    go_enter Tryd.func97, Tryd.ntmps97
    go_wp2
    go_ret
    exact ⟨rfl, rfl⟩

theorem isNote_any (n : Int) (w : World) : Calls Tryd.prog 54 #[.int .i64 n] w fun e w' => e = .returned (.bool (inB n 0 40)) ∧ w = w' := by
  go_enter Tryd.func54, Tryd.ntmps54
  go_wp2_with (go_at_call 97; refine (isIn_any _ _ _ _).mono ?_; rintro e w' ⟨rfl, rfl⟩)
  go_ret
  exact ⟨rfl, rfl⟩

/-- the world behind: nothing that was there has turned -/
def Kept (w w' : World) : Prop := Below w.heap.size w w'

theorem isWeek_any (bs ts : Value) (wk n : Int) (w : World) (hk : 0 ≤ wk) (hk2 : wk ≤ 1000) : Calls Tryd.prog 49 #[.agg #[bs, .int .i64 wk, ts], .int .i64 n] w fun e w' => e = .returned (.bool (inB n 0 (wk - 1))) ∧ Kept w w' := by
  go_enter Tryd.func49, Tryd.ntmps49
  go_wp2_with (go_at_call 97; refine (isIn_any _ _ _ _).mono ?_; rintro e w' ⟨rfl, rfl⟩)
  go_ret
  refine ⟨rfl, ?_⟩
  unfold Kept
  exact (Below.refl _ _).alloc (Nat.le_refl _) _

theorem isBroken_any (a b c d f n0 n1 n2 n3 : Value) (n4 wk : Int) (w : World) : Calls Tryd.prog 52 #[.agg #[a, b, c, d, f, n0, n1, n2, n3, .int .i64 n4], .int .i64 wk] w fun e w' => e = .returned (.bool (decide (n4 ≤ wk))) ∧ Kept w w' := by
  go_enter Tryd.func52, Tryd.ntmps52
  go_wp2
  go_ret
  refine ⟨by simp, ?_⟩
  unfold Kept
  exact (Below.refl _ _).alloc (Nat.le_refl _) _

theorem just_any (n : Int) (w : World) : Calls Tryd.prog 57 #[.int .i64 n] w fun e w' => e = .returned (.agg #[.int .i64 n, .int .i64 n]) ∧ Kept w w' := by
  go_enter Tryd.func57, Tryd.ntmps57
  go_wp2
  refine bodyPost_ret (v := .agg #[.int .i64 n, .int .i64 n]) (by simp [results, Tryd.results57, go_sem]) rfl ⟨rfl, ?_⟩
  unfold Kept
  repeat (first | exact Below.refl _ _ | refine Below.alloc ?_ (Nat.le_refl _) _ | refine Below.setCell ?_ (by simp [Addr.add]; done) _ )

theorem isSpan_any (l h m : Int) (w : World) : Calls Tryd.prog 90 #[.agg #[.int .i64 l, .int .i64 h], .int .i64 m] w fun e w' => e = .returned (.bool (inB l 0 h && decide (h ≤ m))) ∧ Kept w w' := by
  rcases hb : inB l 0 h with _ | _
  · have H := Lib.hid hb; clear hb
    go_enter Tryd.func90, Tryd.ntmps90
    go_wp2_with (go_at_call 97; refine (isIn_any _ _ _ _).mono ?_; rintro e w' ⟨rfl, rfl⟩; rw [H.out])
    go_ret
    refine ⟨by simp, ?_⟩
    unfold Kept
    exact (Below.refl _ _).alloc (Nat.le_refl _) _
  · have H := Lib.hid hb; clear hb
    go_enter Tryd.func90, Tryd.ntmps90
    go_wp2_with (go_at_call 97; refine (isIn_any _ _ _ _).mono ?_; rintro e w' ⟨rfl, rfl⟩; rw [H.out])
    go_ret
    refine ⟨by simp, ?_⟩
    unfold Kept
    exact (Below.refl _ _).alloc (Nat.le_refl _) _

theorem least2 (n x : Int) (a : Addr) (w : World) (hc : w.cell? a = some (.int .i64 x)) : Calls Tryd.prog 120 #[.int .i64 n, .slice (some a) 1 1] w fun e w' => e = .returned (.int .i64 (min n x)) ∧ w = w' := by
  go_enter Tryd.func120, Tryd.ntmps120
  go_wp2
  go_loop [0, 9] (fun s i => ∃ k : Nat, k ≤ 1 ∧ i = .int .i64 k ∧ s = .int .i64 (if k = 0 then n else min n x)) (fun _ i => 1 - (intOf i).toNat)
  case atStart => exact ⟨0, by omega, rfl, rfl⟩
  case round =>
    obtain ⟨k, hk, rfl, rfl⟩ := hrel
    by_cases h0 : k = 0
    · subst h0
      have hc2 : w.cell? (a.add 0) = some (.int .i64 x) := by simpa [Addr.add] using hc
      by_cases hx : x < n
      · have hmin : min n x = x := by omega
        go_wp2
        go_round
        case rel => exact ⟨1, by omega, by go_num, by simp [hmin]⟩
        case measure => simp [intOf]
      · have hmin : min n x = n := by omega
        go_wp2
        go_round
        case rel => exact ⟨1, by omega, by go_num, by simp [hmin]⟩
        case measure => simp [intOf]
    · have h1 : k = 1 := by omega
      subst h1
      go_wp2
      go_ret
      exact ⟨by simp, rfl⟩

end Go.Proofs.YtbhgicggpkibeaaDoor
