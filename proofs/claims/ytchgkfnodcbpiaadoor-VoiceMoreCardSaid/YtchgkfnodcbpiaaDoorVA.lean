/- A part of the proof: contracts of the program's functions for every input. No conditions. -/
import Derived.Test.YtchgkfnodcbpiaaDoorProg
import Derived.WalkKit
import Derived.WalkSpells
import Derived.Deep.QuietTactic
import Derived.BigQuiet
import Derived.Lib.Hide
import Derived.IntWalk
import Derived.Deep.RegionHeld3
import Derived.Deep.DeepCutAuto
import Derived.Lib.QuietBelow
import Derived.LoopTactic
set_option linter.all false
set_option linter.all false
namespace Go.Proofs.YtchgkfnodcbpiaaDoor
open Go.RowKit
set_option maxRecDepth 100000
set_option maxHeartbeats 400000

def inB (n l h : Int) : Bool := decide (l ≤ n) && decide (n ≤ h)
theorem isIn_any (n l h : Int) (w : World) : Calls Tryd.prog 54 #[.int .i64 n, .int .i64 l, .int .i64 h] w fun e w' => e = .returned (.bool (inB n l h)) ∧ w = w' := by
  by_cases h1 : l ≤ n
  · have h2 : decide (l ≤ n) = true := by simpa using h1
    have H : inB n l h = decide (n ≤ h) := by simp [inB, h1]
    rw [H]; clear H h1
    go_enter Tryd.func54, Tryd.ntmps54
    go_wp2
    go_ret
    exact ⟨rfl, rfl⟩
  · have h2 : decide (l ≤ n) = false := by simpa using h1
    have H : inB n l h = false := by simp [inB, h1]
    rw [H]; clear H h1
    go_enter Tryd.func54, Tryd.ntmps54
    go_wp2
    go_ret
    exact ⟨rfl, rfl⟩

theorem isNote_any (n : Int) (w : World) : Calls Tryd.prog 37 #[.int .i64 n] w fun e w' => e = .returned (.bool (inB n 0 40)) ∧ w = w' := by
  go_enter Tryd.func37, Tryd.ntmps37
  go_wp2_with (go_at_call 54; refine (isIn_any _ _ _ _).mono ?_; rintro e w' ⟨rfl, rfl⟩)
  go_ret
  exact ⟨rfl, rfl⟩

/-- the world behind: nothing that was there has turned -/
def Kept (w w' : World) : Prop := Below w.heap.size w w'

theorem isWeek_any (bs ts : Value) (wk n : Int) (w : World) (hk : 0 ≤ wk) (hk2 : wk ≤ 1000) : Calls Tryd.prog 36 #[.agg #[bs, .int .i64 wk, ts], .int .i64 n] w fun e w' => e = .returned (.bool (inB n 0 (wk - 1))) ∧ Kept w w' := by
  go_enter Tryd.func36, Tryd.ntmps36
  go_wp2_with (go_at_call 54; refine (isIn_any _ _ _ _).mono ?_; rintro e w' ⟨rfl, rfl⟩)
  go_ret
  refine ⟨rfl, ?_⟩
  unfold Kept
  exact (Below.refl _ _).alloc (Nat.le_refl _) _

theorem isBroken_any (a b c d f n0 n1 n2 n3 : Value) (n4 wk : Int) (w : World) : Calls Tryd.prog 44 #[.agg #[a, b, c, d, f, n0, n1, n2, n3, .int .i64 n4], .int .i64 wk] w fun e w' => e = .returned (.bool (decide (n4 ≤ wk))) ∧ Kept w w' := by
  go_enter Tryd.func44, Tryd.ntmps44
  go_wp2
  go_ret
  refine ⟨by simp, ?_⟩
  unfold Kept
  exact (Below.refl _ _).alloc (Nat.le_refl _) _

theorem just_any (n : Int) (w : World) : Calls Tryd.prog 41 #[.int .i64 n] w fun e w' => e = .returned (.agg #[.int .i64 n, .int .i64 n]) ∧ Kept w w' := by
  go_enter Tryd.func41, Tryd.ntmps41
  go_wp2
  refine bodyPost_ret (v := .agg #[.int .i64 n, .int .i64 n]) (by simp [results, Tryd.results41, go_sem]) rfl ⟨rfl, ?_⟩
  unfold Kept
  repeat (first | exact Below.refl _ _ | refine Below.alloc ?_ (Nat.le_refl _) _ | refine Below.setCell ?_ (by simp [Addr.add]; done) _ )

theorem isSpan_any (l h m : Int) (w : World) : Calls Tryd.prog 51 #[.agg #[.int .i64 l, .int .i64 h], .int .i64 m] w fun e w' => e = .returned (.bool (inB l 0 h && decide (h ≤ m))) ∧ Kept w w' := by
  rcases hb : inB l 0 h with _ | _
  · have H := Lib.hid hb; clear hb
    go_enter Tryd.func51, Tryd.ntmps51
    go_wp2_with (go_at_call 54; refine (isIn_any _ _ _ _).mono ?_; rintro e w' ⟨rfl, rfl⟩; rw [H.out])
    go_ret
    refine ⟨by simp, ?_⟩
    unfold Kept
    exact (Below.refl _ _).alloc (Nat.le_refl _) _
  · have H := Lib.hid hb; clear hb
    go_enter Tryd.func51, Tryd.ntmps51
    go_wp2_with (go_at_call 54; refine (isIn_any _ _ _ _).mono ?_; rintro e w' ⟨rfl, rfl⟩; rw [H.out])
    go_ret
    refine ⟨by simp, ?_⟩
    unfold Kept
    exact (Below.refl _ _).alloc (Nat.le_refl _) _

theorem least2 (n x : Int) (a : Addr) (w : World) (hc : w.cell? a = some (.int .i64 x)) : Calls Tryd.prog 59 #[.int .i64 n, .slice (some a) 1 1] w fun e w' => e = .returned (.int .i64 (min n x)) ∧ w = w' := by
  go_enter Tryd.func59, Tryd.ntmps59
  go_wp2
  go_loop [0, 9] (fun s i => ∃ k : Nat, k ≤ 1 ∧ i = .int .i64 k ∧ s = .int .i64 (if k = 0 then n else min n x)) (fun _ i => 1 - (intOf i).toNat)
  case atStart => exact ⟨0, by omega, rfl, rfl⟩
  case round =>
    obtain ⟨k, hk, rfl, rfl⟩ := hrel
    by_cases h0 : k = 0
    · subst h0
      have hc2 : w.cell? (a.add 0) = some (.int .i64 x) := by simpa [Addr.add] using hc
      by_cases hx : x < n
      · have hmin : min n x = x := by omega
        go_wp2
        go_round
        case rel => exact ⟨1, by omega, by go_num, by simp [hmin]⟩
        case measure => simp [intOf]
      · have hmin : min n x = n := by omega
        go_wp2
        go_round
        case rel => exact ⟨1, by omega, by go_num, by simp [hmin]⟩
        case measure => simp [intOf]
    · have h1 : k = 1 := by omega
      subst h1
      go_wp2
      go_ret
      exact ⟨by simp, rfl⟩

end Go.Proofs.YtchgkfnodcbpiaaDoor
set_option linter.all false
namespace Go.Proofs.YtchgkfnodcbpiaaDoor
open Go.RowKit
set_option maxRecDepth 100000
set_option maxHeartbeats 400000

def top (hi ga tu lo wk : Int) : Int := hi + min wk tu * ga - (wk - min wk tu) * lo

theorem mul_rng {x y : Int} (hx : 0 ≤ x ∧ x ≤ 100) (hy : 0 ≤ y ∧ y ≤ 100) : 0 ≤ x * y ∧ x * y ≤ 10000 :=
  ⟨Int.mul_nonneg hx.1 hy.1, by have := Int.mul_le_mul hx.2 hy.2 hy.1 (by omega); omega⟩

theorem below_drewN' {B : Nat} {a w : World} (h : Below B a w) (n : Nat) : Below B a (w.drewN n) := ⟨h.os, h.tape, h.output, h.size, h.block⟩

theorem highest_any (b o len cap : Nat) (k1 ts m : Value) (boy : Nat) (n0 n4 : Value) (n1 n2 n3 lo wk : Int) (w : World)
   (hb : boy < len) (hl : len ≤ 4) (hc : w.cell? ⟨b, o + boy * 11 + 8, none⟩ = some (.int .i64 lo)) (hin : b < w.heap.size)
   (h1 : 0 ≤ n1 ∧ n1 ≤ 100) (h2 : 0 ≤ n2 ∧ n2 ≤ 100) (h3 : 0 ≤ n3 ∧ n3 ≤ 100) (h4 : 0 ≤ wk ∧ wk ≤ 100) (h5 : 0 ≤ lo ∧ lo ≤ 100) :
   Calls Tryd.prog 43 #[.agg #[.slice (some ⟨b, o, none⟩) len cap, k1, ts, m, .int .i64 boy, n0, .int .i64 n1, .int .i64 n2, .int .i64 n3, n4], .int .i64 wk] w fun e w' => e = .returned (.int .i64 (top n1 n2 n3 lo wk)) ∧ Kept w w' := by
  have hr : 0 ≤ min wk n3 ∧ min wk n3 ≤ 100 := by omega
  have hr2 : 0 ≤ wk - min wk n3 ∧ wk - min wk n3 ≤ 100 := by omega
  have Htop : top n1 n2 n3 lo wk = n1 + min wk n3 * n2 - (wk - min wk n3) * lo := rfl
  rw [Htop]; clear Htop
  generalize hrr : min wk n3 = r at *
  have H := Lib.hid hrr; clear hrr
  go_enter Tryd.func43, Tryd.ntmps43
  go_wp2_with fail
  have hq : ((w.alloc
          (Obj.cells
            #[Value.slice (some ⟨b, o, none⟩) len cap, k1, ts, m, Value.int IntKind.i64 ↑boy, n0, Value.int IntKind.i64 n1,
              Value.int IntKind.i64 n2, Value.int IntKind.i64 n3, n4]
            76)).alloc
      (Obj.cells #[Value.int IntKind.i64 n3] 3)).cell? { block := w.heap.size + 1, off := 0 } = some (.int .i64 n3) := by go_simp
  refine (least2 wk n3 _ _ hq).mono ?_
  rintro e w' ⟨rfl, rfl⟩
  clear hq
  rw [H.out]
  have hp := mul_rng hr h2
  have hp2 := mul_rng hr2 h5
  have e1 : IntKind.i64.wrap (r * n2) = r * n2 := IntWalk.i64_in _ (by omega)
  have e2 : IntKind.i64.wrap (n1 + r * n2) = n1 + r * n2 := IntWalk.i64_in _ (by omega)
  have e3 : IntKind.i64.wrap (wk - r) = wk - r := IntWalk.i64_in _ (by omega)
  have e4 : IntKind.i64.wrap ((wk - r) * lo) = (wk - r) * lo := IntWalk.i64_in _ (by omega)
  have e5 : IntKind.i64.wrap (n1 + r * n2 - (wk - r) * lo) = n1 + r * n2 - (wk - r) * lo := IntWalk.i64_in _ (by omega)
  have hb2 : (boy : Int) < len := by omega
  have hb3 : (0 : Int) ≤ boy := by omega
  go_wp2_with fail
  go_quiet (fail)
  go_wp2_with fail
  go_ret
  refine ⟨rfl, ?_⟩
  unfold Kept
  exact below_drewN' (((Below.refl _ _).alloc (Nat.le_refl _) _).alloc (by simp) _) _
end Go.Proofs.YtchgkfnodcbpiaaDoor
set_option linter.all false
namespace Go.Proofs.YtchgkfnodcbpiaaDoor
open Go.RowKit Go.Sort
set_option maxRecDepth 100000
set_option maxHeartbeats 400000

theorem bcell {W w1 : World} (hb : Kept W w1) : (∀ b o, b < W.heap.size → w1.cell? ⟨b, o, none⟩ = W.cell? ⟨b, o, none⟩) ∧ (∀ b o, b < W.heap.size → w1.frozen? ⟨b, o, none⟩ = W.frozen? ⟨b, o, none⟩) ∧ W.heap.size ≤ w1.heap.size :=
  ⟨fun b o h => hb.cell (p := ⟨b, o, none⟩) h, fun b o h => hb.frozen (p := ⟨b, o, none⟩) h, hb.size⟩

theorem kept_drew {a w : World} (h : Kept a w) : Kept a w.drew := by unfold Kept at *; exact ⟨h.os, h.tape, h.output, h.size, h.block⟩
theorem kept_alloc {a w : World} (h : Kept a w) (x : Obj) : Kept a (w.alloc x) := by unfold Kept at *; exact Below.alloc h h.size x
theorem kept_refl (a : World) : Kept a a := Below.refl _ _
theorem kept_trans {a b c : World} (h : Kept a b) (k : Kept b c) : Kept a c := by unfold Kept at *; exact h.trans (k.mono h.size)


/-- a truth broken in the week does not sing -/
theorem sings_broken (k0 k1 ts m by' : Value) (n0 n1 n2 n3 : Value) (n4 lo hi wk : Int) (w : World) (hbr : n4 ≤ wk) :
   Calls Tryd.prog 40 #[.agg #[k0, k1, ts, m, by', n0, n1, n2, n3, .int .i64 n4], .int .i64 wk, .agg #[.int .i64 lo, .int .i64 hi]] w fun e w' => e = .returned (.bool false) ∧ Kept w w' := by
  have hd : decide (n4 ≤ wk) = true := by simpa using hbr
  have c0 : ∀ d os, (grow (redrawn ((w.alloc (Obj.cells #[k0, k1, ts, m, by', n0, n1, n2, n3, Value.int IntKind.i64 n4] 76)).alloc (Obj.cells #[Value.int IntKind.i64 lo, Value.int IntKind.i64 hi] 38)) d) os).cell? ⟨w.heap.size, 0, none⟩ = some (k0) := cell_regrown (by go_simp)
  have c1 : ∀ d os, (grow (redrawn ((w.alloc (Obj.cells #[k0, k1, ts, m, by', n0, n1, n2, n3, Value.int IntKind.i64 n4] 76)).alloc (Obj.cells #[Value.int IntKind.i64 lo, Value.int IntKind.i64 hi] 38)) d) os).cell? ⟨w.heap.size, 1, none⟩ = some (k1) := cell_regrown (by go_simp)
  have c2 : ∀ d os, (grow (redrawn ((w.alloc (Obj.cells #[k0, k1, ts, m, by', n0, n1, n2, n3, Value.int IntKind.i64 n4] 76)).alloc (Obj.cells #[Value.int IntKind.i64 lo, Value.int IntKind.i64 hi] 38)) d) os).cell? ⟨w.heap.size, 2, none⟩ = some (ts) := cell_regrown (by go_simp)
  have c3 : ∀ d os, (grow (redrawn ((w.alloc (Obj.cells #[k0, k1, ts, m, by', n0, n1, n2, n3, Value.int IntKind.i64 n4] 76)).alloc (Obj.cells #[Value.int IntKind.i64 lo, Value.int IntKind.i64 hi] 38)) d) os).cell? ⟨w.heap.size, 3, none⟩ = some (m) := cell_regrown (by go_simp)
  have c4 : ∀ d os, (grow (redrawn ((w.alloc (Obj.cells #[k0, k1, ts, m, by', n0, n1, n2, n3, Value.int IntKind.i64 n4] 76)).alloc (Obj.cells #[Value.int IntKind.i64 lo, Value.int IntKind.i64 hi] 38)) d) os).cell? ⟨w.heap.size, 4, none⟩ = some (by') := cell_regrown (by go_simp)
  have c5 : ∀ d os, (grow (redrawn ((w.alloc (Obj.cells #[k0, k1, ts, m, by', n0, n1, n2, n3, Value.int IntKind.i64 n4] 76)).alloc (Obj.cells #[Value.int IntKind.i64 lo, Value.int IntKind.i64 hi] 38)) d) os).cell? ⟨w.heap.size, 5, none⟩ = some (n0) := cell_regrown (by go_simp)
  have c6 : ∀ d os, (grow (redrawn ((w.alloc (Obj.cells #[k0, k1, ts, m, by', n0, n1, n2, n3, Value.int IntKind.i64 n4] 76)).alloc (Obj.cells #[Value.int IntKind.i64 lo, Value.int IntKind.i64 hi] 38)) d) os).cell? ⟨w.heap.size, 6, none⟩ = some (n1) := cell_regrown (by go_simp)
  have c7 : ∀ d os, (grow (redrawn ((w.alloc (Obj.cells #[k0, k1, ts, m, by', n0, n1, n2, n3, Value.int IntKind.i64 n4] 76)).alloc (Obj.cells #[Value.int IntKind.i64 lo, Value.int IntKind.i64 hi] 38)) d) os).cell? ⟨w.heap.size, 7, none⟩ = some (n2) := cell_regrown (by go_simp)
  have c8 : ∀ d os, (grow (redrawn ((w.alloc (Obj.cells #[k0, k1, ts, m, by', n0, n1, n2, n3, Value.int IntKind.i64 n4] 76)).alloc (Obj.cells #[Value.int IntKind.i64 lo, Value.int IntKind.i64 hi] 38)) d) os).cell? ⟨w.heap.size, 8, none⟩ = some (n3) := cell_regrown (by go_simp)
  have c9 : ∀ d os, (grow (redrawn ((w.alloc (Obj.cells #[k0, k1, ts, m, by', n0, n1, n2, n3, Value.int IntKind.i64 n4] 76)).alloc (Obj.cells #[Value.int IntKind.i64 lo, Value.int IntKind.i64 hi] 38)) d) os).cell? ⟨w.heap.size, 9, none⟩ = some (.int .i64 n4) := cell_regrown (by go_simp)
  have c10 : ∀ d os, (grow (redrawn ((w.alloc (Obj.cells #[k0, k1, ts, m, by', n0, n1, n2, n3, Value.int IntKind.i64 n4] 76)).alloc (Obj.cells #[Value.int IntKind.i64 lo, Value.int IntKind.i64 hi] 38)) d) os).cell? ⟨w.heap.size + 1, 0, none⟩ = some (.int .i64 lo) := cell_regrown (by go_simp)
  have c11 : ∀ d os, (grow (redrawn ((w.alloc (Obj.cells #[k0, k1, ts, m, by', n0, n1, n2, n3, Value.int IntKind.i64 n4] 76)).alloc (Obj.cells #[Value.int IntKind.i64 lo, Value.int IntKind.i64 hi] 38)) d) os).cell? ⟨w.heap.size + 1, 1, none⟩ = some (.int .i64 hi) := cell_regrown (by go_simp)
  have kW : Kept w ((w.alloc (Obj.cells #[k0, k1, ts, m, by', n0, n1, n2, n3, Value.int IntKind.i64 n4] 76)).alloc (Obj.cells #[Value.int IntKind.i64 lo, Value.int IntKind.i64 hi] 38)) := kept_alloc (kept_alloc (kept_refl _) _) _
  go_enter Tryd.func40, Tryd.ntmps40
  go_wp2_with fail
  generalize (w.alloc (Obj.cells #[k0, k1, ts, m, by', n0, n1, n2, n3, Value.int IntKind.i64 n4] 76)).alloc (Obj.cells #[Value.int IntKind.i64 lo, Value.int IntKind.i64 hi] 38) = W at *
  refine wp_region_quiet_below (by kernel_rfl) (by kernel_rfl) ?_
  repeat (any_goals (quiet_step (first | exact Calls.regrown_of (isBroken_any _ _ _ _ _ _ _ _ _ _ _ _))))
  refine wpQuiet_nil ?_
  intro _ hw'
  obtain ⟨⟨dq, osq⟩, hw''⟩ := hw'
  subst hw''
  have kW2 := kept_trans kW (below_regrown W dq osq)
  go_wp2_with fail
  go_ret
  exact ⟨rfl, kW2⟩
end Go.Proofs.YtchgkfnodcbpiaaDoor
set_option linter.all false
namespace Go.Proofs.YtchgkfnodcbpiaaDoor
open Go.RowKit Go.Sort
set_option maxRecDepth 100000

set_option maxHeartbeats 1000000 in
theorem sings_low (b o len cap : Nat) (k1 ts m : Value) (boy : Nat) (n0 n1 n2 n3 n4 loss lo hi wk : Int) (w : World)
   (hb : boy < len) (hl : len ≤ 4) (hc : w.cell? ⟨b, o + boy * 11 + 8, none⟩ = some (.int .i64 loss)) (hin : b < w.heap.size)
   (h1 : 0 ≤ n1 ∧ n1 ≤ 100) (h2 : 0 ≤ n2 ∧ n2 ≤ 100) (h3 : 0 ≤ n3 ∧ n3 ≤ 100) (h4 : 0 ≤ wk ∧ wk ≤ 100) (h5 : 0 ≤ loss ∧ loss ≤ 100) (hbr : wk < n4) (hlo : lo < n0) :
   Calls Tryd.prog 40 #[.agg #[Value.slice (some ⟨b, o, none⟩) len cap, k1, ts, m, Value.int IntKind.i64 ↑boy, Value.int IntKind.i64 n0, Value.int IntKind.i64 n1, Value.int IntKind.i64 n2, Value.int IntKind.i64 n3, Value.int IntKind.i64 n4], .int .i64 wk, .agg #[.int .i64 lo, .int .i64 hi]] w fun e w' => e = .returned (.bool (false)) ∧ Kept w w' := by
  have hd : decide (n4 ≤ wk) = false := by simpa using hbr
  have hd2 : decide (n0 ≤ lo) = false := by simpa using hlo
  have c0 : ∀ d os, (grow (redrawn ((w.alloc (Obj.cells #[Value.slice (some ⟨b, o, none⟩) len cap, k1, ts, m, Value.int IntKind.i64 ↑boy, Value.int IntKind.i64 n0, Value.int IntKind.i64 n1, Value.int IntKind.i64 n2, Value.int IntKind.i64 n3, Value.int IntKind.i64 n4] 76)).alloc (Obj.cells #[Value.int IntKind.i64 lo, Value.int IntKind.i64 hi] 38)) d) os).cell? ⟨w.heap.size, 0, none⟩ = some (Value.slice (some ⟨b, o, none⟩) len cap) := cell_regrown (by go_simp)
  have c1 : ∀ d os, (grow (redrawn ((w.alloc (Obj.cells #[Value.slice (some ⟨b, o, none⟩) len cap, k1, ts, m, Value.int IntKind.i64 ↑boy, Value.int IntKind.i64 n0, Value.int IntKind.i64 n1, Value.int IntKind.i64 n2, Value.int IntKind.i64 n3, Value.int IntKind.i64 n4] 76)).alloc (Obj.cells #[Value.int IntKind.i64 lo, Value.int IntKind.i64 hi] 38)) d) os).cell? ⟨w.heap.size, 1, none⟩ = some (k1) := cell_regrown (by go_simp)
  have c2 : ∀ d os, (grow (redrawn ((w.alloc (Obj.cells #[Value.slice (some ⟨b, o, none⟩) len cap, k1, ts, m, Value.int IntKind.i64 ↑boy, Value.int IntKind.i64 n0, Value.int IntKind.i64 n1, Value.int IntKind.i64 n2, Value.int IntKind.i64 n3, Value.int IntKind.i64 n4] 76)).alloc (Obj.cells #[Value.int IntKind.i64 lo, Value.int IntKind.i64 hi] 38)) d) os).cell? ⟨w.heap.size, 2, none⟩ = some (ts) := cell_regrown (by go_simp)
  have c3 : ∀ d os, (grow (redrawn ((w.alloc (Obj.cells #[Value.slice (some ⟨b, o, none⟩) len cap, k1, ts, m, Value.int IntKind.i64 ↑boy, Value.int IntKind.i64 n0, Value.int IntKind.i64 n1, Value.int IntKind.i64 n2, Value.int IntKind.i64 n3, Value.int IntKind.i64 n4] 76)).alloc (Obj.cells #[Value.int IntKind.i64 lo, Value.int IntKind.i64 hi] 38)) d) os).cell? ⟨w.heap.size, 3, none⟩ = some (m) := cell_regrown (by go_simp)
  have c4 : ∀ d os, (grow (redrawn ((w.alloc (Obj.cells #[Value.slice (some ⟨b, o, none⟩) len cap, k1, ts, m, Value.int IntKind.i64 ↑boy, Value.int IntKind.i64 n0, Value.int IntKind.i64 n1, Value.int IntKind.i64 n2, Value.int IntKind.i64 n3, Value.int IntKind.i64 n4] 76)).alloc (Obj.cells #[Value.int IntKind.i64 lo, Value.int IntKind.i64 hi] 38)) d) os).cell? ⟨w.heap.size, 4, none⟩ = some (Value.int IntKind.i64 ↑boy) := cell_regrown (by go_simp)
  have c5 : ∀ d os, (grow (redrawn ((w.alloc (Obj.cells #[Value.slice (some ⟨b, o, none⟩) len cap, k1, ts, m, Value.int IntKind.i64 ↑boy, Value.int IntKind.i64 n0, Value.int IntKind.i64 n1, Value.int IntKind.i64 n2, Value.int IntKind.i64 n3, Value.int IntKind.i64 n4] 76)).alloc (Obj.cells #[Value.int IntKind.i64 lo, Value.int IntKind.i64 hi] 38)) d) os).cell? ⟨w.heap.size, 5, none⟩ = some (Value.int IntKind.i64 n0) := cell_regrown (by go_simp)
  have c6 : ∀ d os, (grow (redrawn ((w.alloc (Obj.cells #[Value.slice (some ⟨b, o, none⟩) len cap, k1, ts, m, Value.int IntKind.i64 ↑boy, Value.int IntKind.i64 n0, Value.int IntKind.i64 n1, Value.int IntKind.i64 n2, Value.int IntKind.i64 n3, Value.int IntKind.i64 n4] 76)).alloc (Obj.cells #[Value.int IntKind.i64 lo, Value.int IntKind.i64 hi] 38)) d) os).cell? ⟨w.heap.size, 6, none⟩ = some (Value.int IntKind.i64 n1) := cell_regrown (by go_simp)
  have c7 : ∀ d os, (grow (redrawn ((w.alloc (Obj.cells #[Value.slice (some ⟨b, o, none⟩) len cap, k1, ts, m, Value.int IntKind.i64 ↑boy, Value.int IntKind.i64 n0, Value.int IntKind.i64 n1, Value.int IntKind.i64 n2, Value.int IntKind.i64 n3, Value.int IntKind.i64 n4] 76)).alloc (Obj.cells #[Value.int IntKind.i64 lo, Value.int IntKind.i64 hi] 38)) d) os).cell? ⟨w.heap.size, 7, none⟩ = some (Value.int IntKind.i64 n2) := cell_regrown (by go_simp)
  have c8 : ∀ d os, (grow (redrawn ((w.alloc (Obj.cells #[Value.slice (some ⟨b, o, none⟩) len cap, k1, ts, m, Value.int IntKind.i64 ↑boy, Value.int IntKind.i64 n0, Value.int IntKind.i64 n1, Value.int IntKind.i64 n2, Value.int IntKind.i64 n3, Value.int IntKind.i64 n4] 76)).alloc (Obj.cells #[Value.int IntKind.i64 lo, Value.int IntKind.i64 hi] 38)) d) os).cell? ⟨w.heap.size, 8, none⟩ = some (Value.int IntKind.i64 n3) := cell_regrown (by go_simp)
  have c9 : ∀ d os, (grow (redrawn ((w.alloc (Obj.cells #[Value.slice (some ⟨b, o, none⟩) len cap, k1, ts, m, Value.int IntKind.i64 ↑boy, Value.int IntKind.i64 n0, Value.int IntKind.i64 n1, Value.int IntKind.i64 n2, Value.int IntKind.i64 n3, Value.int IntKind.i64 n4] 76)).alloc (Obj.cells #[Value.int IntKind.i64 lo, Value.int IntKind.i64 hi] 38)) d) os).cell? ⟨w.heap.size, 9, none⟩ = some (Value.int IntKind.i64 n4) := cell_regrown (by go_simp)
  have c10 : ∀ d os, (grow (redrawn ((w.alloc (Obj.cells #[Value.slice (some ⟨b, o, none⟩) len cap, k1, ts, m, Value.int IntKind.i64 ↑boy, Value.int IntKind.i64 n0, Value.int IntKind.i64 n1, Value.int IntKind.i64 n2, Value.int IntKind.i64 n3, Value.int IntKind.i64 n4] 76)).alloc (Obj.cells #[Value.int IntKind.i64 lo, Value.int IntKind.i64 hi] 38)) d) os).cell? ⟨w.heap.size + 1, 0, none⟩ = some (Value.int IntKind.i64 lo) := cell_regrown (by go_simp)
  have c11 : ∀ d os, (grow (redrawn ((w.alloc (Obj.cells #[Value.slice (some ⟨b, o, none⟩) len cap, k1, ts, m, Value.int IntKind.i64 ↑boy, Value.int IntKind.i64 n0, Value.int IntKind.i64 n1, Value.int IntKind.i64 n2, Value.int IntKind.i64 n3, Value.int IntKind.i64 n4] 76)).alloc (Obj.cells #[Value.int IntKind.i64 lo, Value.int IntKind.i64 hi] 38)) d) os).cell? ⟨w.heap.size + 1, 1, none⟩ = some (Value.int IntKind.i64 hi) := cell_regrown (by go_simp)
  have kW : Kept w ((w.alloc (Obj.cells #[Value.slice (some ⟨b, o, none⟩) len cap, k1, ts, m, Value.int IntKind.i64 ↑boy, Value.int IntKind.i64 n0, Value.int IntKind.i64 n1, Value.int IntKind.i64 n2, Value.int IntKind.i64 n3, Value.int IntKind.i64 n4] 76)).alloc (Obj.cells #[Value.int IntKind.i64 lo, Value.int IntKind.i64 hi] 38)) := kept_alloc (kept_alloc (kept_refl _) _) _
  have cL : ∀ d os, (grow (redrawn ((w.alloc (Obj.cells #[Value.slice (some ⟨b, o, none⟩) len cap, k1, ts, m, Value.int IntKind.i64 ↑boy, Value.int IntKind.i64 n0, Value.int IntKind.i64 n1, Value.int IntKind.i64 n2, Value.int IntKind.i64 n3, Value.int IntKind.i64 n4] 76)).alloc (Obj.cells #[Value.int IntKind.i64 lo, Value.int IntKind.i64 hi] 38)) d) os).cell? ⟨b, o + boy * 11 + 8, none⟩ = some (.int .i64 loss) := cell_regrown (((bcell kW).1 b _ hin).trans hc)
  have sW : w.heap.size ≤ ((w.alloc (Obj.cells #[Value.slice (some ⟨b, o, none⟩) len cap, k1, ts, m, Value.int IntKind.i64 ↑boy, Value.int IntKind.i64 n0, Value.int IntKind.i64 n1, Value.int IntKind.i64 n2, Value.int IntKind.i64 n3, Value.int IntKind.i64 n4] 76)).alloc (Obj.cells #[Value.int IntKind.i64 lo, Value.int IntKind.i64 hi] 38)).heap.size := by simp; omega
  go_enter Tryd.func40, Tryd.ntmps40
  go_wp2_with fail
  generalize (w.alloc (Obj.cells #[Value.slice (some ⟨b, o, none⟩) len cap, k1, ts, m, Value.int IntKind.i64 ↑boy, Value.int IntKind.i64 n0, Value.int IntKind.i64 n1, Value.int IntKind.i64 n2, Value.int IntKind.i64 n3, Value.int IntKind.i64 n4] 76)).alloc (Obj.cells #[Value.int IntKind.i64 lo, Value.int IntKind.i64 hi] 38) = W at *
  have zL : ∀ d os, b < (grow (redrawn W d) os).heap.size := fun d os => Nat.lt_of_lt_of_le (Nat.lt_of_lt_of_le hin sW) (below_regrown W d os).size
  have HL := Lib.hid cL
  have HZ := Lib.hid zL
  clear cL zL hc
  refine wp_region_quiet_below (by kernel_rfl) (by kernel_rfl) ?_
  repeat (any_goals (quiet_step (first | exact Calls.regrown_of (isBroken_any _ _ _ _ _ _ _ _ _ _ _ _))))
  refine wpQuiet_nil ?_
  intro _ hw'
  obtain ⟨⟨dq, osq⟩, hw''⟩ := hw'
  subst hw''
  have kW2 := kept_trans kW (below_regrown W dq osq)
  go_wp2_with fail
  go_ret
  exact ⟨by simp, kW2⟩

set_option maxHeartbeats 1000000 in
theorem sings_top (b o len cap : Nat) (k1 ts m : Value) (boy : Nat) (n0 n1 n2 n3 n4 loss lo hi wk : Int) (w : World)
   (hb : boy < len) (hl : len ≤ 4) (hc : w.cell? ⟨b, o + boy * 11 + 8, none⟩ = some (.int .i64 loss)) (hin : b < w.heap.size)
   (h1 : 0 ≤ n1 ∧ n1 ≤ 100) (h2 : 0 ≤ n2 ∧ n2 ≤ 100) (h3 : 0 ≤ n3 ∧ n3 ≤ 100) (h4 : 0 ≤ wk ∧ wk ≤ 100) (h5 : 0 ≤ loss ∧ loss ≤ 100) (hbr : wk < n4) (hlo : n0 ≤ lo) :
   Calls Tryd.prog 40 #[.agg #[Value.slice (some ⟨b, o, none⟩) len cap, k1, ts, m, Value.int IntKind.i64 ↑boy, Value.int IntKind.i64 n0, Value.int IntKind.i64 n1, Value.int IntKind.i64 n2, Value.int IntKind.i64 n3, Value.int IntKind.i64 n4], .int .i64 wk, .agg #[.int .i64 lo, .int .i64 hi]] w fun e w' => e = .returned (.bool (decide (hi ≤ top n1 n2 n3 loss wk))) ∧ Kept w w' := by
  have hd : decide (n4 ≤ wk) = false := by simpa using hbr
  have hd2 : decide (n0 ≤ lo) = true := by simpa using hlo
  have c0 : ∀ d os, (grow (redrawn ((w.alloc (Obj.cells #[Value.slice (some ⟨b, o, none⟩) len cap, k1, ts, m, Value.int IntKind.i64 ↑boy, Value.int IntKind.i64 n0, Value.int IntKind.i64 n1, Value.int IntKind.i64 n2, Value.int IntKind.i64 n3, Value.int IntKind.i64 n4] 76)).alloc (Obj.cells #[Value.int IntKind.i64 lo, Value.int IntKind.i64 hi] 38)) d) os).cell? ⟨w.heap.size, 0, none⟩ = some (Value.slice (some ⟨b, o, none⟩) len cap) := cell_regrown (by go_simp)
  have c1 : ∀ d os, (grow (redrawn ((w.alloc (Obj.cells #[Value.slice (some ⟨b, o, none⟩) len cap, k1, ts, m, Value.int IntKind.i64 ↑boy, Value.int IntKind.i64 n0, Value.int IntKind.i64 n1, Value.int IntKind.i64 n2, Value.int IntKind.i64 n3, Value.int IntKind.i64 n4] 76)).alloc (Obj.cells #[Value.int IntKind.i64 lo, Value.int IntKind.i64 hi] 38)) d) os).cell? ⟨w.heap.size, 1, none⟩ = some (k1) := cell_regrown (by go_simp)
  have c2 : ∀ d os, (grow (redrawn ((w.alloc (Obj.cells #[Value.slice (some ⟨b, o, none⟩) len cap, k1, ts, m, Value.int IntKind.i64 ↑boy, Value.int IntKind.i64 n0, Value.int IntKind.i64 n1, Value.int IntKind.i64 n2, Value.int IntKind.i64 n3, Value.int IntKind.i64 n4] 76)).alloc (Obj.cells #[Value.int IntKind.i64 lo, Value.int IntKind.i64 hi] 38)) d) os).cell? ⟨w.heap.size, 2, none⟩ = some (ts) := cell_regrown (by go_simp)
  have c3 : ∀ d os, (grow (redrawn ((w.alloc (Obj.cells #[Value.slice (some ⟨b, o, none⟩) len cap, k1, ts, m, Value.int IntKind.i64 ↑boy, Value.int IntKind.i64 n0, Value.int IntKind.i64 n1, Value.int IntKind.i64 n2, Value.int IntKind.i64 n3, Value.int IntKind.i64 n4] 76)).alloc (Obj.cells #[Value.int IntKind.i64 lo, Value.int IntKind.i64 hi] 38)) d) os).cell? ⟨w.heap.size, 3, none⟩ = some (m) := cell_regrown (by go_simp)
  have c4 : ∀ d os, (grow (redrawn ((w.alloc (Obj.cells #[Value.slice (some ⟨b, o, none⟩) len cap, k1, ts, m, Value.int IntKind.i64 ↑boy, Value.int IntKind.i64 n0, Value.int IntKind.i64 n1, Value.int IntKind.i64 n2, Value.int IntKind.i64 n3, Value.int IntKind.i64 n4] 76)).alloc (Obj.cells #[Value.int IntKind.i64 lo, Value.int IntKind.i64 hi] 38)) d) os).cell? ⟨w.heap.size, 4, none⟩ = some (Value.int IntKind.i64 ↑boy) := cell_regrown (by go_simp)
  have c5 : ∀ d os, (grow (redrawn ((w.alloc (Obj.cells #[Value.slice (some ⟨b, o, none⟩) len cap, k1, ts, m, Value.int IntKind.i64 ↑boy, Value.int IntKind.i64 n0, Value.int IntKind.i64 n1, Value.int IntKind.i64 n2, Value.int IntKind.i64 n3, Value.int IntKind.i64 n4] 76)).alloc (Obj.cells #[Value.int IntKind.i64 lo, Value.int IntKind.i64 hi] 38)) d) os).cell? ⟨w.heap.size, 5, none⟩ = some (Value.int IntKind.i64 n0) := cell_regrown (by go_simp)
  have c6 : ∀ d os, (grow (redrawn ((w.alloc (Obj.cells #[Value.slice (some ⟨b, o, none⟩) len cap, k1, ts, m, Value.int IntKind.i64 ↑boy, Value.int IntKind.i64 n0, Value.int IntKind.i64 n1, Value.int IntKind.i64 n2, Value.int IntKind.i64 n3, Value.int IntKind.i64 n4] 76)).alloc (Obj.cells #[Value.int IntKind.i64 lo, Value.int IntKind.i64 hi] 38)) d) os).cell? ⟨w.heap.size, 6, none⟩ = some (Value.int IntKind.i64 n1) := cell_regrown (by go_simp)
  have c7 : ∀ d os, (grow (redrawn ((w.alloc (Obj.cells #[Value.slice (some ⟨b, o, none⟩) len cap, k1, ts, m, Value.int IntKind.i64 ↑boy, Value.int IntKind.i64 n0, Value.int IntKind.i64 n1, Value.int IntKind.i64 n2, Value.int IntKind.i64 n3, Value.int IntKind.i64 n4] 76)).alloc (Obj.cells #[Value.int IntKind.i64 lo, Value.int IntKind.i64 hi] 38)) d) os).cell? ⟨w.heap.size, 7, none⟩ = some (Value.int IntKind.i64 n2) := cell_regrown (by go_simp)
  have c8 : ∀ d os, (grow (redrawn ((w.alloc (Obj.cells #[Value.slice (some ⟨b, o, none⟩) len cap, k1, ts, m, Value.int IntKind.i64 ↑boy, Value.int IntKind.i64 n0, Value.int IntKind.i64 n1, Value.int IntKind.i64 n2, Value.int IntKind.i64 n3, Value.int IntKind.i64 n4] 76)).alloc (Obj.cells #[Value.int IntKind.i64 lo, Value.int IntKind.i64 hi] 38)) d) os).cell? ⟨w.heap.size, 8, none⟩ = some (Value.int IntKind.i64 n3) := cell_regrown (by go_simp)
  have c9 : ∀ d os, (grow (redrawn ((w.alloc (Obj.cells #[Value.slice (some ⟨b, o, none⟩) len cap, k1, ts, m, Value.int IntKind.i64 ↑boy, Value.int IntKind.i64 n0, Value.int IntKind.i64 n1, Value.int IntKind.i64 n2, Value.int IntKind.i64 n3, Value.int IntKind.i64 n4] 76)).alloc (Obj.cells #[Value.int IntKind.i64 lo, Value.int IntKind.i64 hi] 38)) d) os).cell? ⟨w.heap.size, 9, none⟩ = some (Value.int IntKind.i64 n4) := cell_regrown (by go_simp)
  have c10 : ∀ d os, (grow (redrawn ((w.alloc (Obj.cells #[Value.slice (some ⟨b, o, none⟩) len cap, k1, ts, m, Value.int IntKind.i64 ↑boy, Value.int IntKind.i64 n0, Value.int IntKind.i64 n1, Value.int IntKind.i64 n2, Value.int IntKind.i64 n3, Value.int IntKind.i64 n4] 76)).alloc (Obj.cells #[Value.int IntKind.i64 lo, Value.int IntKind.i64 hi] 38)) d) os).cell? ⟨w.heap.size + 1, 0, none⟩ = some (Value.int IntKind.i64 lo) := cell_regrown (by go_simp)
  have c11 : ∀ d os, (grow (redrawn ((w.alloc (Obj.cells #[Value.slice (some ⟨b, o, none⟩) len cap, k1, ts, m, Value.int IntKind.i64 ↑boy, Value.int IntKind.i64 n0, Value.int IntKind.i64 n1, Value.int IntKind.i64 n2, Value.int IntKind.i64 n3, Value.int IntKind.i64 n4] 76)).alloc (Obj.cells #[Value.int IntKind.i64 lo, Value.int IntKind.i64 hi] 38)) d) os).cell? ⟨w.heap.size + 1, 1, none⟩ = some (Value.int IntKind.i64 hi) := cell_regrown (by go_simp)
  have kW : Kept w ((w.alloc (Obj.cells #[Value.slice (some ⟨b, o, none⟩) len cap, k1, ts, m, Value.int IntKind.i64 ↑boy, Value.int IntKind.i64 n0, Value.int IntKind.i64 n1, Value.int IntKind.i64 n2, Value.int IntKind.i64 n3, Value.int IntKind.i64 n4] 76)).alloc (Obj.cells #[Value.int IntKind.i64 lo, Value.int IntKind.i64 hi] 38)) := kept_alloc (kept_alloc (kept_refl _) _) _
  have cL : ∀ d os, (grow (redrawn ((w.alloc (Obj.cells #[Value.slice (some ⟨b, o, none⟩) len cap, k1, ts, m, Value.int IntKind.i64 ↑boy, Value.int IntKind.i64 n0, Value.int IntKind.i64 n1, Value.int IntKind.i64 n2, Value.int IntKind.i64 n3, Value.int IntKind.i64 n4] 76)).alloc (Obj.cells #[Value.int IntKind.i64 lo, Value.int IntKind.i64 hi] 38)) d) os).cell? ⟨b, o + boy * 11 + 8, none⟩ = some (.int .i64 loss) := cell_regrown (((bcell kW).1 b _ hin).trans hc)
  have sW : w.heap.size ≤ ((w.alloc (Obj.cells #[Value.slice (some ⟨b, o, none⟩) len cap, k1, ts, m, Value.int IntKind.i64 ↑boy, Value.int IntKind.i64 n0, Value.int IntKind.i64 n1, Value.int IntKind.i64 n2, Value.int IntKind.i64 n3, Value.int IntKind.i64 n4] 76)).alloc (Obj.cells #[Value.int IntKind.i64 lo, Value.int IntKind.i64 hi] 38)).heap.size := by simp; omega
  go_enter Tryd.func40, Tryd.ntmps40
  go_wp2_with fail
  generalize (w.alloc (Obj.cells #[Value.slice (some ⟨b, o, none⟩) len cap, k1, ts, m, Value.int IntKind.i64 ↑boy, Value.int IntKind.i64 n0, Value.int IntKind.i64 n1, Value.int IntKind.i64 n2, Value.int IntKind.i64 n3, Value.int IntKind.i64 n4] 76)).alloc (Obj.cells #[Value.int IntKind.i64 lo, Value.int IntKind.i64 hi] 38) = W at *
  have zL : ∀ d os, b < (grow (redrawn W d) os).heap.size := fun d os => Nat.lt_of_lt_of_le (Nat.lt_of_lt_of_le hin sW) (below_regrown W d os).size
  have HL := Lib.hid cL
  have HZ := Lib.hid zL
  clear cL zL hc
  refine wp_region_quiet_below (by kernel_rfl) (by kernel_rfl) ?_
  repeat (any_goals (quiet_step (first | exact Calls.regrown_of (isBroken_any _ _ _ _ _ _ _ _ _ _ _ _) | exact Calls.regrown_of (highest_any _ _ _ _ _ _ _ _ _ _ _ _ _ _ _ _ hb hl (HL.out _ _) (HZ.out _ _) h1 h2 h3 h4 h5))))
  refine wpQuiet_nil ?_
  intro _ hw'
  obtain ⟨⟨dq, osq⟩, hw''⟩ := hw'
  subst hw''
  have kW2 := kept_trans kW (below_regrown W dq osq)
  go_wp2_with fail
  go_ret
  exact ⟨by simp, kW2⟩
end Go.Proofs.YtchgkfnodcbpiaaDoor
set_option linter.all false
namespace Go.Proofs.YtchgkfnodcbpiaaDoor
open Go.RowKit Go.Sort
set_option maxRecDepth 100000

def singsB (n0 n1 n2 n3 n4 loss wk lo hi : Int) : Bool := decide (wk < n4) && decide (n0 ≤ lo) && decide (hi ≤ top n1 n2 n3 loss wk)

theorem sings_any (b o len cap : Nat) (k1 ts m : Value) (boy : Nat) (n0 n1 n2 n3 n4 loss lo hi wk : Int) (w : World)
   (hb : boy < len) (hl : len ≤ 4) (hc : w.cell? ⟨b, o + boy * 11 + 8, none⟩ = some (.int .i64 loss)) (hin : b < w.heap.size)
   (h1 : 0 ≤ n1 ∧ n1 ≤ 100) (h2 : 0 ≤ n2 ∧ n2 ≤ 100) (h3 : 0 ≤ n3 ∧ n3 ≤ 100) (h4 : 0 ≤ wk ∧ wk ≤ 100) (h5 : 0 ≤ loss ∧ loss ≤ 100) :
   Calls Tryd.prog 40 #[.agg #[Value.slice (some ⟨b, o, none⟩) len cap, k1, ts, m, Value.int IntKind.i64 ↑boy, Value.int IntKind.i64 n0, Value.int IntKind.i64 n1, Value.int IntKind.i64 n2, Value.int IntKind.i64 n3, Value.int IntKind.i64 n4], .int .i64 wk, .agg #[.int .i64 lo, .int .i64 hi]] w fun e w' => e = .returned (.bool (singsB n0 n1 n2 n3 n4 loss wk lo hi)) ∧ Kept w w' := by
  unfold singsB
  by_cases hbr : wk < n4
  · by_cases hlo : n0 ≤ lo
    · simpa [hbr, hlo] using sings_top b o len cap k1 ts m boy n0 n1 n2 n3 n4 loss lo hi wk w hb hl hc hin h1 h2 h3 h4 h5 hbr hlo
    · simpa [hbr, hlo] using sings_low b o len cap k1 ts m boy n0 n1 n2 n3 n4 loss lo hi wk w hb hl hc hin h1 h2 h3 h4 h5 hbr (by omega)
  · simpa [hbr] using sings_broken _ _ _ _ _ _ _ _ _ n4 lo hi wk w (by omega)

def beliesB (n0 n1 n2 n3 n4 loss wk note sang : Int) : Bool := singsB n0 n1 n2 n3 n4 loss wk note note != (sang == 1)

set_option maxHeartbeats 1000000 in
theorem belies_any (b o len cap : Nat) (k1 ts m : Value) (boy : Nat) (n0 n1 n2 n3 n4 loss tb wk note sang : Int) (w : World)
   (hb : boy < len) (hl : len ≤ 4) (hc : w.cell? ⟨b, o + boy * 11 + 8, none⟩ = some (.int .i64 loss)) (hin : b < w.heap.size)
   (h1 : 0 ≤ n1 ∧ n1 ≤ 100) (h2 : 0 ≤ n2 ∧ n2 ≤ 100) (h3 : 0 ≤ n3 ∧ n3 ≤ 100) (h4 : 0 ≤ wk ∧ wk ≤ 100) (h5 : 0 ≤ loss ∧ loss ≤ 100) :
   Calls Tryd.prog 80 #[.agg #[Value.slice (some ⟨b, o, none⟩) len cap, k1, ts, m, Value.int IntKind.i64 ↑boy, Value.int IntKind.i64 n0, Value.int IntKind.i64 n1, Value.int IntKind.i64 n2, Value.int IntKind.i64 n3, Value.int IntKind.i64 n4], .agg #[Value.int IntKind.i64 tb, Value.int IntKind.i64 wk, Value.int IntKind.i64 note, Value.int IntKind.i64 sang]] w fun e w' => e = .returned (.bool (beliesB n0 n1 n2 n3 n4 loss wk note sang)) ∧ Kept w w' := by
  have c0 : ∀ d os, (grow (redrawn ((w.alloc (Obj.cells #[Value.slice (some ⟨b, o, none⟩) len cap, k1, ts, m, Value.int IntKind.i64 ↑boy, Value.int IntKind.i64 n0, Value.int IntKind.i64 n1, Value.int IntKind.i64 n2, Value.int IntKind.i64 n3, Value.int IntKind.i64 n4] 76)).alloc (Obj.cells #[Value.int IntKind.i64 tb, Value.int IntKind.i64 wk, Value.int IntKind.i64 note, Value.int IntKind.i64 sang] 27)) d) os).cell? ⟨w.heap.size, 0, none⟩ = some (Value.slice (some ⟨b, o, none⟩) len cap) := cell_regrown (by go_simp)
  have c1 : ∀ d os, (grow (redrawn ((w.alloc (Obj.cells #[Value.slice (some ⟨b, o, none⟩) len cap, k1, ts, m, Value.int IntKind.i64 ↑boy, Value.int IntKind.i64 n0, Value.int IntKind.i64 n1, Value.int IntKind.i64 n2, Value.int IntKind.i64 n3, Value.int IntKind.i64 n4] 76)).alloc (Obj.cells #[Value.int IntKind.i64 tb, Value.int IntKind.i64 wk, Value.int IntKind.i64 note, Value.int IntKind.i64 sang] 27)) d) os).cell? ⟨w.heap.size, 1, none⟩ = some (k1) := cell_regrown (by go_simp)
  have c2 : ∀ d os, (grow (redrawn ((w.alloc (Obj.cells #[Value.slice (some ⟨b, o, none⟩) len cap, k1, ts, m, Value.int IntKind.i64 ↑boy, Value.int IntKind.i64 n0, Value.int IntKind.i64 n1, Value.int IntKind.i64 n2, Value.int IntKind.i64 n3, Value.int IntKind.i64 n4] 76)).alloc (Obj.cells #[Value.int IntKind.i64 tb, Value.int IntKind.i64 wk, Value.int IntKind.i64 note, Value.int IntKind.i64 sang] 27)) d) os).cell? ⟨w.heap.size, 2, none⟩ = some (ts) := cell_regrown (by go_simp)
  have c3 : ∀ d os, (grow (redrawn ((w.alloc (Obj.cells #[Value.slice (some ⟨b, o, none⟩) len cap, k1, ts, m, Value.int IntKind.i64 ↑boy, Value.int IntKind.i64 n0, Value.int IntKind.i64 n1, Value.int IntKind.i64 n2, Value.int IntKind.i64 n3, Value.int IntKind.i64 n4] 76)).alloc (Obj.cells #[Value.int IntKind.i64 tb, Value.int IntKind.i64 wk, Value.int IntKind.i64 note, Value.int IntKind.i64 sang] 27)) d) os).cell? ⟨w.heap.size, 3, none⟩ = some (m) := cell_regrown (by go_simp)
  have c4 : ∀ d os, (grow (redrawn ((w.alloc (Obj.cells #[Value.slice (some ⟨b, o, none⟩) len cap, k1, ts, m, Value.int IntKind.i64 ↑boy, Value.int IntKind.i64 n0, Value.int IntKind.i64 n1, Value.int IntKind.i64 n2, Value.int IntKind.i64 n3, Value.int IntKind.i64 n4] 76)).alloc (Obj.cells #[Value.int IntKind.i64 tb, Value.int IntKind.i64 wk, Value.int IntKind.i64 note, Value.int IntKind.i64 sang] 27)) d) os).cell? ⟨w.heap.size, 4, none⟩ = some (Value.int IntKind.i64 ↑boy) := cell_regrown (by go_simp)
  have c5 : ∀ d os, (grow (redrawn ((w.alloc (Obj.cells #[Value.slice (some ⟨b, o, none⟩) len cap, k1, ts, m, Value.int IntKind.i64 ↑boy, Value.int IntKind.i64 n0, Value.int IntKind.i64 n1, Value.int IntKind.i64 n2, Value.int IntKind.i64 n3, Value.int IntKind.i64 n4] 76)).alloc (Obj.cells #[Value.int IntKind.i64 tb, Value.int IntKind.i64 wk, Value.int IntKind.i64 note, Value.int IntKind.i64 sang] 27)) d) os).cell? ⟨w.heap.size, 5, none⟩ = some (Value.int IntKind.i64 n0) := cell_regrown (by go_simp)
  have c6 : ∀ d os, (grow (redrawn ((w.alloc (Obj.cells #[Value.slice (some ⟨b, o, none⟩) len cap, k1, ts, m, Value.int IntKind.i64 ↑boy, Value.int IntKind.i64 n0, Value.int IntKind.i64 n1, Value.int IntKind.i64 n2, Value.int IntKind.i64 n3, Value.int IntKind.i64 n4] 76)).alloc (Obj.cells #[Value.int IntKind.i64 tb, Value.int IntKind.i64 wk, Value.int IntKind.i64 note, Value.int IntKind.i64 sang] 27)) d) os).cell? ⟨w.heap.size, 6, none⟩ = some (Value.int IntKind.i64 n1) := cell_regrown (by go_simp)
  have c7 : ∀ d os, (grow (redrawn ((w.alloc (Obj.cells #[Value.slice (some ⟨b, o, none⟩) len cap, k1, ts, m, Value.int IntKind.i64 ↑boy, Value.int IntKind.i64 n0, Value.int IntKind.i64 n1, Value.int IntKind.i64 n2, Value.int IntKind.i64 n3, Value.int IntKind.i64 n4] 76)).alloc (Obj.cells #[Value.int IntKind.i64 tb, Value.int IntKind.i64 wk, Value.int IntKind.i64 note, Value.int IntKind.i64 sang] 27)) d) os).cell? ⟨w.heap.size, 7, none⟩ = some (Value.int IntKind.i64 n2) := cell_regrown (by go_simp)
  have c8 : ∀ d os, (grow (redrawn ((w.alloc (Obj.cells #[Value.slice (some ⟨b, o, none⟩) len cap, k1, ts, m, Value.int IntKind.i64 ↑boy, Value.int IntKind.i64 n0, Value.int IntKind.i64 n1, Value.int IntKind.i64 n2, Value.int IntKind.i64 n3, Value.int IntKind.i64 n4] 76)).alloc (Obj.cells #[Value.int IntKind.i64 tb, Value.int IntKind.i64 wk, Value.int IntKind.i64 note, Value.int IntKind.i64 sang] 27)) d) os).cell? ⟨w.heap.size, 8, none⟩ = some (Value.int IntKind.i64 n3) := cell_regrown (by go_simp)
  have c9 : ∀ d os, (grow (redrawn ((w.alloc (Obj.cells #[Value.slice (some ⟨b, o, none⟩) len cap, k1, ts, m, Value.int IntKind.i64 ↑boy, Value.int IntKind.i64 n0, Value.int IntKind.i64 n1, Value.int IntKind.i64 n2, Value.int IntKind.i64 n3, Value.int IntKind.i64 n4] 76)).alloc (Obj.cells #[Value.int IntKind.i64 tb, Value.int IntKind.i64 wk, Value.int IntKind.i64 note, Value.int IntKind.i64 sang] 27)) d) os).cell? ⟨w.heap.size, 9, none⟩ = some (Value.int IntKind.i64 n4) := cell_regrown (by go_simp)
  have c10 : ∀ d os, (grow (redrawn ((w.alloc (Obj.cells #[Value.slice (some ⟨b, o, none⟩) len cap, k1, ts, m, Value.int IntKind.i64 ↑boy, Value.int IntKind.i64 n0, Value.int IntKind.i64 n1, Value.int IntKind.i64 n2, Value.int IntKind.i64 n3, Value.int IntKind.i64 n4] 76)).alloc (Obj.cells #[Value.int IntKind.i64 tb, Value.int IntKind.i64 wk, Value.int IntKind.i64 note, Value.int IntKind.i64 sang] 27)) d) os).cell? ⟨w.heap.size + 1, 0, none⟩ = some (Value.int IntKind.i64 tb) := cell_regrown (by go_simp)
  have c11 : ∀ d os, (grow (redrawn ((w.alloc (Obj.cells #[Value.slice (some ⟨b, o, none⟩) len cap, k1, ts, m, Value.int IntKind.i64 ↑boy, Value.int IntKind.i64 n0, Value.int IntKind.i64 n1, Value.int IntKind.i64 n2, Value.int IntKind.i64 n3, Value.int IntKind.i64 n4] 76)).alloc (Obj.cells #[Value.int IntKind.i64 tb, Value.int IntKind.i64 wk, Value.int IntKind.i64 note, Value.int IntKind.i64 sang] 27)) d) os).cell? ⟨w.heap.size + 1, 1, none⟩ = some (Value.int IntKind.i64 wk) := cell_regrown (by go_simp)
  have c12 : ∀ d os, (grow (redrawn ((w.alloc (Obj.cells #[Value.slice (some ⟨b, o, none⟩) len cap, k1, ts, m, Value.int IntKind.i64 ↑boy, Value.int IntKind.i64 n0, Value.int IntKind.i64 n1, Value.int IntKind.i64 n2, Value.int IntKind.i64 n3, Value.int IntKind.i64 n4] 76)).alloc (Obj.cells #[Value.int IntKind.i64 tb, Value.int IntKind.i64 wk, Value.int IntKind.i64 note, Value.int IntKind.i64 sang] 27)) d) os).cell? ⟨w.heap.size + 1, 2, none⟩ = some (Value.int IntKind.i64 note) := cell_regrown (by go_simp)
  have c13 : ∀ d os, (grow (redrawn ((w.alloc (Obj.cells #[Value.slice (some ⟨b, o, none⟩) len cap, k1, ts, m, Value.int IntKind.i64 ↑boy, Value.int IntKind.i64 n0, Value.int IntKind.i64 n1, Value.int IntKind.i64 n2, Value.int IntKind.i64 n3, Value.int IntKind.i64 n4] 76)).alloc (Obj.cells #[Value.int IntKind.i64 tb, Value.int IntKind.i64 wk, Value.int IntKind.i64 note, Value.int IntKind.i64 sang] 27)) d) os).cell? ⟨w.heap.size + 1, 3, none⟩ = some (Value.int IntKind.i64 sang) := cell_regrown (by go_simp)
  have kW : Kept w ((w.alloc (Obj.cells #[Value.slice (some ⟨b, o, none⟩) len cap, k1, ts, m, Value.int IntKind.i64 ↑boy, Value.int IntKind.i64 n0, Value.int IntKind.i64 n1, Value.int IntKind.i64 n2, Value.int IntKind.i64 n3, Value.int IntKind.i64 n4] 76)).alloc (Obj.cells #[Value.int IntKind.i64 tb, Value.int IntKind.i64 wk, Value.int IntKind.i64 note, Value.int IntKind.i64 sang] 27)) := kept_alloc (kept_alloc (kept_refl _) _) _
  have cL : ∀ d os, (grow (redrawn ((w.alloc (Obj.cells #[Value.slice (some ⟨b, o, none⟩) len cap, k1, ts, m, Value.int IntKind.i64 ↑boy, Value.int IntKind.i64 n0, Value.int IntKind.i64 n1, Value.int IntKind.i64 n2, Value.int IntKind.i64 n3, Value.int IntKind.i64 n4] 76)).alloc (Obj.cells #[Value.int IntKind.i64 tb, Value.int IntKind.i64 wk, Value.int IntKind.i64 note, Value.int IntKind.i64 sang] 27)) d) os).cell? ⟨b, o + boy * 11 + 8, none⟩ = some (.int .i64 loss) := cell_regrown (((bcell kW).1 b _ hin).trans hc)
  have sW : w.heap.size ≤ ((w.alloc (Obj.cells #[Value.slice (some ⟨b, o, none⟩) len cap, k1, ts, m, Value.int IntKind.i64 ↑boy, Value.int IntKind.i64 n0, Value.int IntKind.i64 n1, Value.int IntKind.i64 n2, Value.int IntKind.i64 n3, Value.int IntKind.i64 n4] 76)).alloc (Obj.cells #[Value.int IntKind.i64 tb, Value.int IntKind.i64 wk, Value.int IntKind.i64 note, Value.int IntKind.i64 sang] 27)).heap.size := by simp; omega
  go_enter Tryd.func80, Tryd.ntmps80
  go_wp2_with fail
  generalize (w.alloc (Obj.cells #[Value.slice (some ⟨b, o, none⟩) len cap, k1, ts, m, Value.int IntKind.i64 ↑boy, Value.int IntKind.i64 n0, Value.int IntKind.i64 n1, Value.int IntKind.i64 n2, Value.int IntKind.i64 n3, Value.int IntKind.i64 n4] 76)).alloc (Obj.cells #[Value.int IntKind.i64 tb, Value.int IntKind.i64 wk, Value.int IntKind.i64 note, Value.int IntKind.i64 sang] 27) = W at *
  have zL : ∀ d os, b < (grow (redrawn W d) os).heap.size := fun d os => Nat.lt_of_lt_of_le (Nat.lt_of_lt_of_le hin sW) (below_regrown W d os).size
  have HL := Lib.hid cL
  have HZ := Lib.hid zL
  clear cL zL hc
  refine wp_region_quiet_below (by kernel_rfl) (by kernel_rfl) ?_
  repeat (any_goals (quiet_step (first | exact Calls.regrown_of (just_any _ _) | exact Calls.regrown_of (sings_any _ _ _ _ _ _ _ _ _ _ _ _ _ _ _ _ _ _ hb hl (HL.out _ _) (HZ.out _ _) h1 h2 h3 h4 h5))))
  refine wpQuiet_nil ?_
  intro _ hw'
  obtain ⟨⟨dq, osq⟩, hw''⟩ := hw'
  subst hw''
  have kW2 := kept_trans kW (below_regrown W dq osq)
  go_wp2_with fail
  go_ret
  exact ⟨rfl, kW2⟩
end Go.Proofs.YtchgkfnodcbpiaaDoor
set_option linter.all false
namespace Go.Proofs.YtchgkfnodcbpiaaDoor
open Go.RowKit Go.Sort
set_option maxRecDepth 100000

theorem forbids_other (k0 k1 ts m n1 n2 n3 : Value) (boy n0 n4 tb wk note sang which : Int) (w : World) (h0 : ¬ tb = boy) :
   Calls Tryd.prog 69 #[.agg #[k0, k1, ts, m, Value.int IntKind.i64 boy, Value.int IntKind.i64 n0, n1, n2, n3, Value.int IntKind.i64 n4], .agg #[Value.int IntKind.i64 tb, Value.int IntKind.i64 wk, Value.int IntKind.i64 note, Value.int IntKind.i64 sang], .int .i64 which] w fun e w' => e = .returned (.bool (false)) ∧ Kept w w' := by
  have p1 : (tb != boy) = true := by simpa using h0
  have q1 : (tb == boy) = false := by simpa using h0

  go_enter Tryd.func69, Tryd.ntmps69
  go_wp2_with (first | (go_at_call 44; refine (isBroken_any _ _ _ _ _ _ _ _ _ _ _ _).mono ?_; rintro e w' ⟨rfl, hkk⟩))
  go_ret
  refine ⟨by simp, ?_⟩
  first | exact kept_alloc (kept_alloc (kept_refl _) _) _ | exact kept_trans (kept_alloc (kept_alloc (kept_refl _) _) _) hkk

theorem forbids_silent (k0 k1 ts m n1 n2 n3 : Value) (boy n0 n4 tb wk note sang which : Int) (w : World) (h0 : tb = boy) (h1 : sang = 0) :
   Calls Tryd.prog 69 #[.agg #[k0, k1, ts, m, Value.int IntKind.i64 boy, Value.int IntKind.i64 n0, n1, n2, n3, Value.int IntKind.i64 n4], .agg #[Value.int IntKind.i64 tb, Value.int IntKind.i64 wk, Value.int IntKind.i64 note, Value.int IntKind.i64 sang], .int .i64 which] w fun e w' => e = .returned (.bool (false)) ∧ Kept w w' := by
  have p1 : (tb != boy) = false := by simpa using h0
  have q1 : (tb == boy) = true := by simpa using h0
  have p2 : (sang != 0) = false := by simpa using h1
  have q2 : (sang == 0) = true := by simpa using h1

  go_enter Tryd.func69, Tryd.ntmps69
  go_wp2_with (first | (go_at_call 44; refine (isBroken_any _ _ _ _ _ _ _ _ _ _ _ _).mono ?_; rintro e w' ⟨rfl, hkk⟩))
  go_ret
  refine ⟨by simp, ?_⟩
  first | exact kept_alloc (kept_alloc (kept_refl _) _) _ | exact kept_trans (kept_alloc (kept_alloc (kept_refl _) _) _) hkk

theorem forbids_low (k0 k1 ts m n1 n2 n3 : Value) (boy n0 n4 tb wk note sang which : Int) (w : World) (h0 : tb = boy) (h1 : ¬ sang = 0) (h2 : which = 0) (h3 : note < n0) :
   Calls Tryd.prog 69 #[.agg #[k0, k1, ts, m, Value.int IntKind.i64 boy, Value.int IntKind.i64 n0, n1, n2, n3, Value.int IntKind.i64 n4], .agg #[Value.int IntKind.i64 tb, Value.int IntKind.i64 wk, Value.int IntKind.i64 note, Value.int IntKind.i64 sang], .int .i64 which] w fun e w' => e = .returned (.bool (true)) ∧ Kept w w' := by
  have p1 : (tb != boy) = false := by simpa using h0
  have q1 : (tb == boy) = true := by simpa using h0
  have p2 : (sang != 0) = true := by simpa using h1
  have q2 : (sang == 0) = false := by simpa using h1
  have p3 : (which != 0) = false := by simpa using h2
  have q3 : (which == 0) = true := by simpa using h2
  have q4 : decide (note < n0) = true := by simpa using h3

  go_enter Tryd.func69, Tryd.ntmps69
  go_wp2_with (first | (go_at_call 44; refine (isBroken_any _ _ _ _ _ _ _ _ _ _ _ _).mono ?_; rintro e w' ⟨rfl, hkk⟩))
  go_ret
  refine ⟨by simp, ?_⟩
  first | exact kept_alloc (kept_alloc (kept_refl _) _) _ | exact kept_trans (kept_alloc (kept_alloc (kept_refl _) _) _) hkk

theorem forbids_lowno (k0 k1 ts m n1 n2 n3 : Value) (boy n0 n4 tb wk note sang which : Int) (w : World) (h0 : tb = boy) (h1 : ¬ sang = 0) (h2 : which = 0) (h3 : ¬ note < n0) :
   Calls Tryd.prog 69 #[.agg #[k0, k1, ts, m, Value.int IntKind.i64 boy, Value.int IntKind.i64 n0, n1, n2, n3, Value.int IntKind.i64 n4], .agg #[Value.int IntKind.i64 tb, Value.int IntKind.i64 wk, Value.int IntKind.i64 note, Value.int IntKind.i64 sang], .int .i64 which] w fun e w' => e = .returned (.bool (false)) ∧ Kept w w' := by
  have p1 : (tb != boy) = false := by simpa using h0
  have q1 : (tb == boy) = true := by simpa using h0
  have p2 : (sang != 0) = true := by simpa using h1
  have q2 : (sang == 0) = false := by simpa using h1
  have p3 : (which != 0) = false := by simpa using h2
  have q3 : (which == 0) = true := by simpa using h2
  have q4 : decide (note < n0) = false := by simpa using h3
  have h24 : ¬ which = 4 := by omega
  have p5 : (which != 4) = true := by simpa using h24
  have q5 : (which == 4) = false := by simpa using h24

  go_enter Tryd.func69, Tryd.ntmps69
  go_wp2_with (first | (go_at_call 44; refine (isBroken_any _ _ _ _ _ _ _ _ _ _ _ _).mono ?_; rintro e w' ⟨rfl, hkk⟩))
  go_ret
  refine ⟨by simp, ?_⟩
  first | exact kept_alloc (kept_alloc (kept_refl _) _) _ | exact kept_trans (kept_alloc (kept_alloc (kept_refl _) _) _) hkk

theorem forbids_broken (k0 k1 ts m n1 n2 n3 : Value) (boy n0 n4 tb wk note sang which : Int) (w : World) (h0 : tb = boy) (h1 : ¬ sang = 0) (h2 : ¬ which = 0) (h3 : which = 4) :
   Calls Tryd.prog 69 #[.agg #[k0, k1, ts, m, Value.int IntKind.i64 boy, Value.int IntKind.i64 n0, n1, n2, n3, Value.int IntKind.i64 n4], .agg #[Value.int IntKind.i64 tb, Value.int IntKind.i64 wk, Value.int IntKind.i64 note, Value.int IntKind.i64 sang], .int .i64 which] w fun e w' => e = .returned (.bool (decide (n4 ≤ wk))) ∧ Kept w w' := by
  have p1 : (tb != boy) = false := by simpa using h0
  have q1 : (tb == boy) = true := by simpa using h0
  have p2 : (sang != 0) = true := by simpa using h1
  have q2 : (sang == 0) = false := by simpa using h1
  have p3 : (which != 0) = true := by simpa using h2
  have q3 : (which == 0) = false := by simpa using h2
  have p4 : (which != 4) = false := by simpa using h3
  have q4 : (which == 4) = true := by simpa using h3

  go_enter Tryd.func69, Tryd.ntmps69
  go_wp2_with (first | (go_at_call 44; refine (isBroken_any _ _ _ _ _ _ _ _ _ _ _ _).mono ?_; rintro e w' ⟨rfl, hkk⟩))
  go_ret
  refine ⟨by simp, ?_⟩
  first | exact kept_alloc (kept_alloc (kept_refl _) _) _ | exact kept_trans (kept_alloc (kept_alloc (kept_refl _) _) _) hkk

theorem forbids_none (k0 k1 ts m n1 n2 n3 : Value) (boy n0 n4 tb wk note sang which : Int) (w : World) (h0 : tb = boy) (h1 : ¬ sang = 0) (h2 : ¬ which = 0) (h3 : ¬ which = 4) :
   Calls Tryd.prog 69 #[.agg #[k0, k1, ts, m, Value.int IntKind.i64 boy, Value.int IntKind.i64 n0, n1, n2, n3, Value.int IntKind.i64 n4], .agg #[Value.int IntKind.i64 tb, Value.int IntKind.i64 wk, Value.int IntKind.i64 note, Value.int IntKind.i64 sang], .int .i64 which] w fun e w' => e = .returned (.bool (false)) ∧ Kept w w' := by
  have p1 : (tb != boy) = false := by simpa using h0
  have q1 : (tb == boy) = true := by simpa using h0
  have p2 : (sang != 0) = true := by simpa using h1
  have q2 : (sang == 0) = false := by simpa using h1
  have p3 : (which != 0) = true := by simpa using h2
  have q3 : (which == 0) = false := by simpa using h2
  have p4 : (which != 4) = true := by simpa using h3
  have q4 : (which == 4) = false := by simpa using h3

  go_enter Tryd.func69, Tryd.ntmps69
  go_wp2_with (first | (go_at_call 44; refine (isBroken_any _ _ _ _ _ _ _ _ _ _ _ _).mono ?_; rintro e w' ⟨rfl, hkk⟩))
  go_ret
  refine ⟨by simp, ?_⟩
  first | exact kept_alloc (kept_alloc (kept_refl _) _) _ | exact kept_trans (kept_alloc (kept_alloc (kept_refl _) _) _) hkk

def forbidsB (boy n0 n4 tb wk note sang which : Int) : Bool := decide (tb = boy) && decide (¬ sang = 0) && (decide (which = 0) && decide (note < n0) || decide (which = 4) && decide (n4 ≤ wk))
theorem forbids_any (k0 k1 ts m n1 n2 n3 : Value) (boy n0 n4 tb wk note sang which : Int) (w : World) :
   Calls Tryd.prog 69 #[.agg #[k0, k1, ts, m, Value.int IntKind.i64 boy, Value.int IntKind.i64 n0, n1, n2, n3, Value.int IntKind.i64 n4], .agg #[Value.int IntKind.i64 tb, Value.int IntKind.i64 wk, Value.int IntKind.i64 note, Value.int IntKind.i64 sang], .int .i64 which] w fun e w' => e = .returned (.bool (forbidsB boy n0 n4 tb wk note sang which)) ∧ Kept w w' := by
  unfold forbidsB
  by_cases h0 : tb = boy
  · by_cases h1 : sang = 0
    · simpa [h1] using forbids_silent k0 k1 ts m n1 n2 n3 boy n0 n4 tb wk note sang which w h0 h1
    · by_cases h2 : which = 0
      · by_cases h3 : note < n0
        · simpa [h0, h1, h2, h3] using forbids_low k0 k1 ts m n1 n2 n3 boy n0 n4 tb wk note sang which w h0 h1 h2 h3
        · simpa [h0, h1, h2, h3] using forbids_lowno k0 k1 ts m n1 n2 n3 boy n0 n4 tb wk note sang which w h0 h1 h2 h3
      · by_cases h3 : which = 4
        · simpa [h0, h1, h2, h3] using forbids_broken k0 k1 ts m n1 n2 n3 boy n0 n4 tb wk note sang which w h0 h1 h2 h3
        · simpa [h0, h1, h2, h3] using forbids_none k0 k1 ts m n1 n2 n3 boy n0 n4 tb wk note sang which w h0 h1 h2 h3
  · simpa [h0] using forbids_other k0 k1 ts m n1 n2 n3 boy n0 n4 tb wk note sang which w h0
end Go.Proofs.YtchgkfnodcbpiaaDoor
set_option linter.all false
namespace Go.Proofs.YtchgkfnodcbpiaaDoor
open Go.RowKit Go.Sort
set_option maxRecDepth 100000

structure Trial where
  boy : Int
  week : Int
  note : Int
  sang : Int
  deriving Inhabited

def Trial.val (t : Trial) : Value := .agg #[.int .i64 t.boy, .int .i64 t.week, .int .i64 t.note, .int .i64 t.sang]

/-- trials that lie in memory, one behind the other -/
def TrialsAt (w : World) (b o : Nat) (l : List Trial) : Prop := b < w.heap.size ∧ ∀ i t, l[i]? = some t → w.cell? ⟨b, o + i * 4, none⟩ = some (.int .i64 t.boy) ∧ w.cell? ⟨b, o + i * 4 + 1, none⟩ = some (.int .i64 t.week) ∧ w.cell? ⟨b, o + i * 4 + 2, none⟩ = some (.int .i64 t.note) ∧ w.cell? ⟨b, o + i * 4 + 3, none⟩ = some (.int .i64 t.sang)

theorem TrialsAt.kept {w W : World} {b o : Nat} {l : List Trial} (h : TrialsAt w b o l) (k : Kept w W) : TrialsAt W b o l := by
  obtain ⟨hc, _, hz⟩ := bcell k
  refine ⟨Nat.lt_of_lt_of_le h.1 hz, fun i t hi => ?_⟩
  have := h.2 i t hi
  rw [hc _ _ h.1, hc _ _ h.1, hc _ _ h.1, hc _ _ h.1]
  exact this

def Told (P : Int → Prop) (w : World) (e : Ending) (w' : World) : Prop := ∃ r : Int, P r ∧ e = .returned (.int .i64 r) ∧ Kept w w'

def FirstP (l : List Trial) (f : Trial → Bool) (r : Int) : Prop := (0 ≤ r) ↔ l.any f = true

def TB (n0 n1 n2 n3 n4 loss : Int) (t : Trial) : Bool := beliesB n0 n1 n2 n3 n4 loss t.week t.note t.sang

set_option maxHeartbeats 1000000 in
theorem index_any (b o len cap bT oT capT : Nat) (k1 ts m : Value) (boy : Nat) (n0 n1 n2 n3 n4 loss : Int) (l : List Trial) (w : World)
   (hb : boy < len) (hl : len ≤ 4) (hc : w.cell? ⟨b, o + boy * 11 + 8, none⟩ = some (.int .i64 loss)) (hin : b < w.heap.size)
   (h1 : 0 ≤ n1 ∧ n1 ≤ 100) (h2 : 0 ≤ n2 ∧ n2 ≤ 100) (h3 : 0 ≤ n3 ∧ n3 ≤ 100) (h5 : 0 ≤ loss ∧ loss ≤ 100) (hT : TrialsAt w bT oT l) (hn : l.length ≤ 6) (hr : ∀ t, t ∈ l → 0 ≤ t.week ∧ t.week ≤ 100) :
   Calls Tryd.prog 93 #[.slice (some ⟨bT, oT, none⟩) l.length capT, .func (.func 80) #[.agg #[Value.slice (some ⟨b, o, none⟩) len cap, k1, ts, m, Value.int IntKind.i64 ↑boy, Value.int IntKind.i64 n0, Value.int IntKind.i64 n1, Value.int IntKind.i64 n2, Value.int IntKind.i64 n3, Value.int IntKind.i64 n4]] #[]] w (Told (FirstP l (TB n0 n1 n2 n3 n4 loss)) w) := by
  go_enter Tryd.func93, Tryd.ntmps93
  go_wp2_with fail
  go_loopw [8] (fun i W => ∃ k : Nat, k ≤ l.length ∧ i = .int .i64 k ∧ (∀ j t, j < k → l[j]? = some t → TB n0 n1 n2 n3 n4 loss t = false) ∧ Kept w W) (fun i W => l.length - (intOf i).toNat)
  case atStart => exact ⟨0, by omega, rfl, fun j t hj => by omega, kept_refl _⟩
  case round =>
    obtain ⟨k, hk, rfl, hno, hkW⟩ := hrel
    rename_i W
    have HNO := Lib.hid hno; clear hno
    by_cases hlt : k < l.length
    · have hget : l[k]? = some l[k] := List.getElem?_eq_getElem hlt
      have hmem : l[k] ∈ l := List.getElem_mem hlt
      generalize l[k] = t at *
      obtain ⟨c0, c1, c2, c3⟩ := (hT.kept hkW).2 k t hget
      have h4 := hr t hmem
      have hcW := ((bcell hkW).1 b (o + boy * 11 + 8) hin).trans hc
      have hinW := Nat.lt_of_lt_of_le hin (bcell hkW).2.2
      have HG := Lib.hid hget; clear hget
      have HC := Lib.hid hcW; clear hcW hc
      go_wp2_with fail
      refine (belies_any _ _ _ _ _ _ _ _ _ _ _ _ _ _ t.boy t.week t.note t.sang wr hb hl HC.out hinW h1 h2 h3 h4 h5).mono ?_
      rintro e w' ⟨rfl, hk2⟩
      have hkW2 := kept_trans hkW hk2
      have HB : TB n0 n1 n2 n3 n4 loss t = beliesB n0 n1 n2 n3 n4 loss t.week t.note t.sang := rfl
      rw [← HB]; clear HB
      rcases hv : TB n0 n1 n2 n3 n4 loss t with _ | _
      · have HV := Lib.hid hv; clear hv
        have HNEW : Hid (∀ (j : Nat) (t : Trial), j < k + 1 → l[j]? = some t → TB n0 n1 n2 n3 n4 loss t = false) := Lib.hid (by
          intro j t' hj hg
          by_cases e : j = k
          · subst e; rw [HG.out] at hg; cases hg; exact HV.out
          · exact HNO.out j t' (by omega) hg)
        go_wp2_with fail
        go_roundw
        case rel => exact ⟨k + 1, by omega, by go_num, HNEW.out, hkW2⟩
        case measure => simp [intOf]; omega
      · have HV := Lib.hid hv; clear hv
        have hkz : (0 : Int) ≤ k := by omega
        have HP : Hid (l.any (TB n0 n1 n2 n3 n4 loss) = true) := Lib.hid (List.any_eq_true.2 ⟨t, hmem, HV.out⟩)
        go_wp2_with fail
        go_ret
        exact ⟨k, (show FirstP _ _ _ from ⟨fun _ => HP.out, fun _ => hkz⟩), rfl, hkW2⟩
    · have hkl : k = l.length := by omega
      have HP : Hid (l.any (TB n0 n1 n2 n3 n4 loss) = false) := Lib.hid (by
        rw [List.any_eq_false]
        intro t ht
        obtain ⟨j, hj, rfl⟩ := List.getElem_of_mem ht
        rw [HNO.out j l[j] (by omega) (List.getElem?_eq_getElem hj)]; simp)
      have hd : decide ((k : Int) < (l.length : Int)) = false := by simp; omega
      have hlt2 : ¬ (k : Int) < l.length := by omega
      clear hkl
      go_wp2_with fail
      go_ret
      exact ⟨-1, (show FirstP _ _ _ from ⟨fun h => by omega, fun h => by rw [HP.out] at h; cases h⟩), rfl, hkW⟩
end Go.Proofs.YtchgkfnodcbpiaaDoor
set_option linter.all false
namespace Go.Proofs.YtchgkfnodcbpiaaDoor
open Go.RowKit Go.Sort
set_option maxRecDepth 100000

/-- a slice value that reads as these trials -/
def SliceIs (w : World) (v : Value) (l : List Trial) : Prop := (v = .slice none 0 0 ∧ l = []) ∨ ∃ b o cap, v = .slice (some ⟨b, o, none⟩) l.length cap ∧ TrialsAt w b o l
theorem SliceIs.kept {w W : World} {v : Value} {l : List Trial} (h : SliceIs w v l) (k : Kept w W) : SliceIs W v l := by
  rcases h with h | ⟨b, o, cap, h, ht⟩
  · exact .inl h
  · exact .inr ⟨b, o, cap, h, ht.kept k⟩

theorem index_nil (f : Value) (w : World) : Calls Tryd.prog 93 #[.slice none 0 0, f] w fun e w' => e = .returned (.int .i64 (-1)) ∧ w = w' := by
  go_enter Tryd.func93, Tryd.ntmps93
  go_wp2_with fail
  go_loop [8] (fun i => i = .int .i64 0) (fun i => 0)
  case atStart => rfl
  case round =>
    obtain rfl := hrel
    go_wp2_with fail
    go_ret
    exact ⟨rfl, rfl⟩

theorem contains_any (b o len cap : Nat) (k1 ts m : Value) (boy : Nat) (n0 n1 n2 n3 n4 loss : Int) (l : List Trial) (v : Value) (w : World)
   (hb : boy < len) (hl : len ≤ 4) (hc : w.cell? ⟨b, o + boy * 11 + 8, none⟩ = some (.int .i64 loss)) (hin : b < w.heap.size)
   (h1 : 0 ≤ n1 ∧ n1 ≤ 100) (h2 : 0 ≤ n2 ∧ n2 ≤ 100) (h3 : 0 ≤ n3 ∧ n3 ≤ 100) (h5 : 0 ≤ loss ∧ loss ≤ 100) (hT : SliceIs w v l) (hn : l.length ≤ 6) (hr : ∀ t, t ∈ l → 0 ≤ t.week ∧ t.week ≤ 100) :
   Calls Tryd.prog 79 #[v, .func (.func 80) #[.agg #[Value.slice (some ⟨b, o, none⟩) len cap, k1, ts, m, Value.int IntKind.i64 ↑boy, Value.int IntKind.i64 n0, Value.int IntKind.i64 n1, Value.int IntKind.i64 n2, Value.int IntKind.i64 n3, Value.int IntKind.i64 n4]] #[]] w fun e w' => e = .returned (.bool (l.any (TB n0 n1 n2 n3 n4 loss))) ∧ Kept w w' := by
  rcases hT with ⟨rfl, rfl⟩ | ⟨bT, oT, capT, rfl, hT⟩
  · go_enter Tryd.func79, Tryd.ntmps79
    go_wp2_with fail
    refine (index_nil _ w).mono ?_
    rintro e w' ⟨rfl, rfl⟩
    go_wp2_with fail
    go_ret
    exact ⟨by simp, kept_refl _⟩
  · generalize hg : l.any (TB n0 n1 n2 n3 n4 loss) = g
    have HG := Lib.hid hg; clear hg
    go_enter Tryd.func79, Tryd.ntmps79
    go_wp2_with fail
    refine (index_any b o len cap bT oT capT k1 ts m boy n0 n1 n2 n3 n4 loss l w hb hl hc hin h1 h2 h3 h5 hT hn hr).mono ?_
    rintro e w' ⟨r, hr1, rfl, hk⟩
    have HR := Lib.hid hr1; clear hr1
    go_wp2_with fail
    go_ret
    refine ⟨?_, hk⟩
    have h : FirstP l (TB n0 n1 n2 n3 n4 loss) r := HR.out
    unfold FirstP at h
    rw [HG.out] at h
    have e : decide (0 ≤ r) = g := by cases g <;> simp_all
    simpa using e

end Go.Proofs.YtchgkfnodcbpiaaDoor
set_option linter.all false
namespace Go.Proofs.YtchgkfnodcbpiaaDoor
open Go.RowKit Go.Sort
set_option maxRecDepth 100000

/-- what a map of trials by boy and week tells at a key, now and behind whatever is laid -/
def LooksAt (w : World) (m : Value) (boy wk : Nat) (l : List Trial) : Prop :=
  ∃ v, (∀ W, Kept w W → (Instr.lookup 62 m (.agg #[.int .i64 boy, .int .i64 wk]) false).run Tryd.prog W = .ok v W) ∧ SliceIs w v l

def ToldB (P : Bool → Prop) (w : World) (e : Ending) (w' : World) : Prop := ∃ r : Bool, P r ∧ e = .returned (.bool r) ∧ Kept w w'
def KeepsP (wks : Nat) (ls : Nat → List Trial) (f : Trial → Bool) (r : Bool) : Prop := r = true ↔ ∀ k, k < wks → (ls k).any f = false

set_option maxHeartbeats 1000000 in
theorem keeps_any (b o len cap : Nat) (ts m : Value) (wks boy : Nat) (n0 n1 n2 n3 n4 loss : Int) (ls : Nat → List Trial) (w : World)
   (hb : boy < len) (hl : len ≤ 4) (hc : w.cell? ⟨b, o + boy * 11 + 8, none⟩ = some (.int .i64 loss)) (hin : b < w.heap.size)
   (h1 : 0 ≤ n1 ∧ n1 ≤ 100) (h2 : 0 ≤ n2 ∧ n2 ≤ 100) (h3 : 0 ≤ n3 ∧ n3 ≤ 100) (h5 : 0 ≤ loss ∧ loss ≤ 100) (hw : wks ≤ 6) (hT : ∀ k, k < wks → LooksAt w m boy k (ls k)) (hn : ∀ k, k < wks → (ls k).length ≤ 6) (hr : ∀ k, k < wks → ∀ t, t ∈ ls k → 0 ≤ t.week ∧ t.week ≤ 100) :
   Calls Tryd.prog 68 #[.agg #[Value.slice (some ⟨b, o, none⟩) len cap, Value.int IntKind.i64 ↑wks, ts, m, Value.int IntKind.i64 ↑boy, Value.int IntKind.i64 n0, Value.int IntKind.i64 n1, Value.int IntKind.i64 n2, Value.int IntKind.i64 n3, Value.int IntKind.i64 n4]] w (ToldB (KeepsP wks ls (TB n0 n1 n2 n3 n4 loss)) w) := by
  have HT := Lib.hid hT; clear hT
  have HN := Lib.hid hn; clear hn
  have HR := Lib.hid hr; clear hr
  have hk0 : Kept w (w.alloc (Obj.cells #[Value.slice (some ⟨b, o, none⟩) len cap, Value.int IntKind.i64 ↑wks, ts, m, Value.int IntKind.i64 ↑boy, Value.int IntKind.i64 n0, Value.int IntKind.i64 n1, Value.int IntKind.i64 n2, Value.int IntKind.i64 n3, Value.int IntKind.i64 n4] 76)) := kept_alloc (kept_refl _) _
  go_enter Tryd.func68, Tryd.ntmps68
  go_wp2_with fail
  go_loopw [8] (fun i W => ∃ k : Nat, k ≤ wks ∧ i = .int .i64 k ∧ (∀ j, j < k → (ls j).any (TB n0 n1 n2 n3 n4 loss) = false) ∧ Kept (w.alloc (Obj.cells #[Value.slice (some ⟨b, o, none⟩) len cap, Value.int IntKind.i64 ↑wks, ts, m, Value.int IntKind.i64 ↑boy, Value.int IntKind.i64 n0, Value.int IntKind.i64 n1, Value.int IntKind.i64 n2, Value.int IntKind.i64 n3, Value.int IntKind.i64 n4] 76)) W) (fun i W => wks - (intOf i).toNat)
  case atStart => exact ⟨0, by omega, rfl, fun j hj => by omega, kept_refl _⟩
  case round =>
    obtain ⟨k, hk, rfl, hno, hkW⟩ := hrel
    have HNO := Lib.hid hno; clear hno
    have hkw := kept_trans hk0 hkW
    by_cases hlt : k < wks
    · have hltI : (k : Int) < wks := by omega
      have c0 : ∀ d os, (grow (redrawn wr d) os).cell? ⟨w.heap.size, 0, none⟩ = some (Value.slice (some ⟨b, o, none⟩) len cap) := cell_regrown (((bcell hkW).1 _ _ (by simp)).trans (by go_simp))
      have c1 : ∀ d os, (grow (redrawn wr d) os).cell? ⟨w.heap.size, 1, none⟩ = some (Value.int IntKind.i64 ↑wks) := cell_regrown (((bcell hkW).1 _ _ (by simp)).trans (by go_simp))
      have c2 : ∀ d os, (grow (redrawn wr d) os).cell? ⟨w.heap.size, 2, none⟩ = some (ts) := cell_regrown (((bcell hkW).1 _ _ (by simp)).trans (by go_simp))
      have c3 : ∀ d os, (grow (redrawn wr d) os).cell? ⟨w.heap.size, 3, none⟩ = some (m) := cell_regrown (((bcell hkW).1 _ _ (by simp)).trans (by go_simp))
      have c4 : ∀ d os, (grow (redrawn wr d) os).cell? ⟨w.heap.size, 4, none⟩ = some (Value.int IntKind.i64 ↑boy) := cell_regrown (((bcell hkW).1 _ _ (by simp)).trans (by go_simp))
      have c5 : ∀ d os, (grow (redrawn wr d) os).cell? ⟨w.heap.size, 5, none⟩ = some (Value.int IntKind.i64 n0) := cell_regrown (((bcell hkW).1 _ _ (by simp)).trans (by go_simp))
      have c6 : ∀ d os, (grow (redrawn wr d) os).cell? ⟨w.heap.size, 6, none⟩ = some (Value.int IntKind.i64 n1) := cell_regrown (((bcell hkW).1 _ _ (by simp)).trans (by go_simp))
      have c7 : ∀ d os, (grow (redrawn wr d) os).cell? ⟨w.heap.size, 7, none⟩ = some (Value.int IntKind.i64 n2) := cell_regrown (((bcell hkW).1 _ _ (by simp)).trans (by go_simp))
      have c8 : ∀ d os, (grow (redrawn wr d) os).cell? ⟨w.heap.size, 8, none⟩ = some (Value.int IntKind.i64 n3) := cell_regrown (((bcell hkW).1 _ _ (by simp)).trans (by go_simp))
      have c9 : ∀ d os, (grow (redrawn wr d) os).cell? ⟨w.heap.size, 9, none⟩ = some (Value.int IntKind.i64 n4) := cell_regrown (((bcell hkW).1 _ _ (by simp)).trans (by go_simp))
      obtain ⟨v, hlook, hs⟩ := HT.out k hlt
      have hlk : ∀ d os, (Instr.lookup 62 m (.agg #[.int .i64 boy, .int .i64 k]) false).run Tryd.prog (grow (redrawn wr d) os) = .ok v (grow (redrawn wr d) os) := fun d os => hlook _ (kept_trans hkw (below_regrown wr d os))
      clear hlook
      have hca : ∀ d os, Calls Tryd.prog 79 #[v, .func (.func 80) #[.agg #[Value.slice (some ⟨b, o, none⟩) len cap, Value.int IntKind.i64 ↑wks, ts, m, Value.int IntKind.i64 ↑boy, Value.int IntKind.i64 n0, Value.int IntKind.i64 n1, Value.int IntKind.i64 n2, Value.int IntKind.i64 n3, Value.int IntKind.i64 n4]] #[]] (grow (redrawn wr d) os) fun e w'' => e = .returned (.bool ((ls k).any (TB n0 n1 n2 n3 n4 loss))) ∧ ∃ p : Regrown, w'' = grow (redrawn wr p.d) p.os := by
        intro d os
        have hkx := kept_trans hkw (below_regrown wr d os)
        exact Calls.regrown_of (contains_any b o len cap _ ts m boy n0 n1 n2 n3 n4 loss (ls k) v _ hb hl (((bcell hkx).1 b (o + boy * 11 + 8) hin).trans hc) (Nat.lt_of_lt_of_le hin (bcell hkx).2.2) h1 h2 h3 h5 (hs.kept hkx) (HN.out k hlt) (HR.out k hlt))
      have HCA := Lib.hid hca; clear hca
      clear hc
      go_wp2_with fail
      refine wp_region_quiet_below (by kernel_rfl) (by kernel_rfl) ?_
      repeat (any_goals (quiet_step (first | exact HCA.out _ _)))
      refine wpQuiet_nil ?_
      intro _ hw'
      obtain ⟨⟨dq, osq⟩, hw''⟩ := hw'
      subst hw''
      have hkW2 := kept_trans hkW (below_regrown wr dq osq)
      have hkw2 := kept_trans hkw (below_regrown wr dq osq)
      clear c0 c1 c2 c3 c4 c5 c6 c7 c8 c9 hlk
      rcases hv : (ls k).any (TB n0 n1 n2 n3 n4 loss) with _ | _
      · have HNEW : Hid (∀ j, j < k + 1 → (ls j).any (TB n0 n1 n2 n3 n4 loss) = false) := Lib.hid (by
          intro j hj
          by_cases e : j = k
          · subst e; exact hv
          · exact HNO.out j (by omega))
        clear hv
        go_wp2_with fail
        go_roundw
        case rel => exact ⟨k + 1, by omega, by go_num, HNEW.out, hkW2⟩
        case measure => simp [intOf]; omega
      · have HP : Hid ((ls k).any (TB n0 n1 n2 n3 n4 loss) = true) := Lib.hid hv
        clear hv
        go_wp2_with fail
        go_ret
        exact ⟨false, (show KeepsP _ _ _ _ from ⟨(fun h => by cases h), (fun h => by have := h k hlt; rw [HP.out] at this; cases this)⟩), rfl, hkw2⟩
    · have hkl : wks ≤ k := by omega
      have HP : Hid (∀ j, j < wks → (ls j).any (TB n0 n1 n2 n3 n4 loss) = false) := Lib.hid (fun j hj => HNO.out j (by omega))
      have hltI : ¬ (k : Int) < wks := by omega
      go_wp2_with fail
      go_ret
      exact ⟨true, (show KeepsP _ _ _ _ from ⟨fun _ => HP.out, fun _ => rfl⟩), rfl, hkw⟩
end Go.Proofs.YtchgkfnodcbpiaaDoor
set_option linter.all false
namespace Go.Proofs.YtchgkfnodcbpiaaDoor
open Go.RowKit Go.Sort
set_option maxRecDepth 100000

theorem isBoy_any (p : Option Addr) (len cap : Nat) (k1 ts : Value) (n : Int) (w : World) (hl : len ≤ 140737488355328) : Calls Tryd.prog 35 #[.agg #[.slice p len cap, k1, ts], .int .i64 n] w fun e w' => e = .returned (.bool (inB n 0 (len - 1))) ∧ Kept w w' := by
  go_enter Tryd.func35, Tryd.ntmps35
  go_wp2_with (go_at_call 54; refine (isIn_any _ _ _ _).mono ?_; rintro e w' ⟨rfl, rfl⟩)
  go_ret
  exact ⟨rfl, kept_alloc (kept_refl _) _⟩

def validTrialB (len wks : Nat) (t : Trial) : Bool := inB t.boy 0 (len - 1) && inB t.week 0 (wks - 1) && inB t.note 0 40 && inB t.sang 0 1

theorem vt_a (p : Option Addr) (len cap wks : Nat) (ts : Value) (t : Trial) (w : World) (hl : len ≤ 140737488355328) (hw : wks ≤ 1000) (ha : inB t.boy 0 (len - 1) = false) :
   Calls Tryd.prog 30 #[.agg #[.slice p len cap, .int .i64 wks, ts], .agg #[.int .i64 t.boy, .int .i64 t.week, .int .i64 t.note, .int .i64 t.sang]] w fun e w' => e = .returned (.bool (false)) ∧ Kept w w' := by
  have HA := Lib.hid ha; clear ha
  have hk0 : Kept w ((w.alloc (Obj.cells #[.slice p len cap, .int .i64 wks, ts] 25)).alloc (Obj.cells #[.int .i64 t.boy, .int .i64 t.week, .int .i64 t.note, .int .i64 t.sang] 27)) := kept_alloc (kept_alloc (kept_refl _) _) _
  go_enter Tryd.func30, Tryd.ntmps30
  go_wp2_with fail
  refine (isBoy_any _ _ _ _ _ _ _ hl).mono ?_
  rintro e w1 ⟨rfl, hk1⟩
  obtain ⟨hc1, hf1, hz1⟩ := bcell hk1
  have hk1' := kept_trans hk0 hk1
  have hs1 : w.heap.size + 1 < w1.heap.size := by simp at hz1; omega
  clear hz1
  rw [HA.out]
  go_wp2_with fail
  go_ret
  exact ⟨by simp, hk1'⟩

theorem vt_b (p : Option Addr) (len cap wks : Nat) (ts : Value) (t : Trial) (w : World) (hl : len ≤ 140737488355328) (hw : wks ≤ 1000) (ha : inB t.boy 0 (len - 1) = true) (hb : inB t.week 0 (wks - 1) = false) :
   Calls Tryd.prog 30 #[.agg #[.slice p len cap, .int .i64 wks, ts], .agg #[.int .i64 t.boy, .int .i64 t.week, .int .i64 t.note, .int .i64 t.sang]] w fun e w' => e = .returned (.bool (false)) ∧ Kept w w' := by
  have HA := Lib.hid ha; clear ha
  have HB := Lib.hid hb; clear hb
  have hk0 : Kept w ((w.alloc (Obj.cells #[.slice p len cap, .int .i64 wks, ts] 25)).alloc (Obj.cells #[.int .i64 t.boy, .int .i64 t.week, .int .i64 t.note, .int .i64 t.sang] 27)) := kept_alloc (kept_alloc (kept_refl _) _) _
  go_enter Tryd.func30, Tryd.ntmps30
  go_wp2_with fail
  refine (isBoy_any _ _ _ _ _ _ _ hl).mono ?_
  rintro e w1 ⟨rfl, hk1⟩
  obtain ⟨hc1, hf1, hz1⟩ := bcell hk1
  have hk1' := kept_trans hk0 hk1
  have hs1 : w.heap.size + 1 < w1.heap.size := by simp at hz1; omega
  clear hz1
  rw [HA.out]
  go_wp2_with fail
  refine (isWeek_any _ _ _ _ _ (by omega) (by omega)).mono ?_
  rintro e w2 ⟨rfl, hk2⟩
  obtain ⟨hc2, hf2, hz2⟩ := bcell hk2
  have hk2' := kept_trans hk1' hk2
  have hs2 : w.heap.size + 1 < w2.heap.size := by omega
  rw [HB.out]
  go_wp2_with fail
  go_ret
  exact ⟨by simp, hk2'⟩

theorem vt_c (p : Option Addr) (len cap wks : Nat) (ts : Value) (t : Trial) (w : World) (hl : len ≤ 140737488355328) (hw : wks ≤ 1000) (ha : inB t.boy 0 (len - 1) = true) (hb : inB t.week 0 (wks - 1) = true) (hc : inB t.note 0 40 = false) :
   Calls Tryd.prog 30 #[.agg #[.slice p len cap, .int .i64 wks, ts], .agg #[.int .i64 t.boy, .int .i64 t.week, .int .i64 t.note, .int .i64 t.sang]] w fun e w' => e = .returned (.bool (false)) ∧ Kept w w' := by
  have HA := Lib.hid ha; clear ha
  have HB := Lib.hid hb; clear hb
  have HC := Lib.hid hc; clear hc
  have hk0 : Kept w ((w.alloc (Obj.cells #[.slice p len cap, .int .i64 wks, ts] 25)).alloc (Obj.cells #[.int .i64 t.boy, .int .i64 t.week, .int .i64 t.note, .int .i64 t.sang] 27)) := kept_alloc (kept_alloc (kept_refl _) _) _
  go_enter Tryd.func30, Tryd.ntmps30
  go_wp2_with fail
  refine (isBoy_any _ _ _ _ _ _ _ hl).mono ?_
  rintro e w1 ⟨rfl, hk1⟩
  obtain ⟨hc1, hf1, hz1⟩ := bcell hk1
  have hk1' := kept_trans hk0 hk1
  have hs1 : w.heap.size + 1 < w1.heap.size := by simp at hz1; omega
  clear hz1
  rw [HA.out]
  go_wp2_with fail
  refine (isWeek_any _ _ _ _ _ (by omega) (by omega)).mono ?_
  rintro e w2 ⟨rfl, hk2⟩
  obtain ⟨hc2, hf2, hz2⟩ := bcell hk2
  have hk2' := kept_trans hk1' hk2
  have hs2 : w.heap.size + 1 < w2.heap.size := by omega
  rw [HB.out]
  go_wp2_with fail
  refine (isNote_any _ _).mono ?_
  rintro e w3 ⟨rfl, rfl⟩
  rw [HC.out]
  go_wp2_with fail
  go_ret
  exact ⟨by simp, hk2'⟩

theorem vt_d (p : Option Addr) (len cap wks : Nat) (ts : Value) (t : Trial) (w : World) (hl : len ≤ 140737488355328) (hw : wks ≤ 1000) (ha : inB t.boy 0 (len - 1) = true) (hb : inB t.week 0 (wks - 1) = true) (hc : inB t.note 0 40 = true) :
   Calls Tryd.prog 30 #[.agg #[.slice p len cap, .int .i64 wks, ts], .agg #[.int .i64 t.boy, .int .i64 t.week, .int .i64 t.note, .int .i64 t.sang]] w fun e w' => e = .returned (.bool (inB t.sang 0 1)) ∧ Kept w w' := by
  have HA := Lib.hid ha; clear ha
  have HB := Lib.hid hb; clear hb
  have HC := Lib.hid hc; clear hc
  have hk0 : Kept w ((w.alloc (Obj.cells #[.slice p len cap, .int .i64 wks, ts] 25)).alloc (Obj.cells #[.int .i64 t.boy, .int .i64 t.week, .int .i64 t.note, .int .i64 t.sang] 27)) := kept_alloc (kept_alloc (kept_refl _) _) _
  go_enter Tryd.func30, Tryd.ntmps30
  go_wp2_with fail
  refine (isBoy_any _ _ _ _ _ _ _ hl).mono ?_
  rintro e w1 ⟨rfl, hk1⟩
  obtain ⟨hc1, hf1, hz1⟩ := bcell hk1
  have hk1' := kept_trans hk0 hk1
  have hs1 : w.heap.size + 1 < w1.heap.size := by simp at hz1; omega
  clear hz1
  rw [HA.out]
  go_wp2_with fail
  refine (isWeek_any _ _ _ _ _ (by omega) (by omega)).mono ?_
  rintro e w2 ⟨rfl, hk2⟩
  obtain ⟨hc2, hf2, hz2⟩ := bcell hk2
  have hk2' := kept_trans hk1' hk2
  have hs2 : w.heap.size + 1 < w2.heap.size := by omega
  rw [HB.out]
  go_wp2_with fail
  refine (isNote_any _ _).mono ?_
  rintro e w3 ⟨rfl, rfl⟩
  rw [HC.out]
  go_wp2_with fail
  refine (isIn_any _ _ _ _).mono ?_
  rintro e w4 ⟨rfl, rfl⟩
  go_wp2_with fail
  go_ret
  exact ⟨by simp, hk2'⟩

theorem validTrial_any (p : Option Addr) (len cap wks : Nat) (ts : Value) (t : Trial) (w : World) (hl : len ≤ 140737488355328) (hw : wks ≤ 1000) :
   Calls Tryd.prog 30 #[.agg #[.slice p len cap, .int .i64 wks, ts], .agg #[.int .i64 t.boy, .int .i64 t.week, .int .i64 t.note, .int .i64 t.sang]] w fun e w' => e = .returned (.bool (validTrialB len wks t)) ∧ Kept w w' := by
  unfold validTrialB
  cases ha : inB t.boy 0 (len - 1)
  · exact vt_a p len cap wks ts t w hl hw ha
  · cases hb : inB t.week 0 (wks - 1)
    · exact vt_b p len cap wks ts t w hl hw ha hb
    · cases hc : inB t.note 0 40
      · exact vt_c p len cap wks ts t w hl hw ha hb hc
      · simpa using vt_d p len cap wks ts t w hl hw ha hb hc
end Go.Proofs.YtchgkfnodcbpiaaDoor
set_option linter.all false
namespace Go.Proofs.YtchgkfnodcbpiaaDoor
open Go.RowKit Go.Sort
set_option maxRecDepth 100000

theorem known_any (l0 l1 h0 h1 g0 g1 t0 t1 ls b0 b1 : Int) (w : World) : Calls Tryd.prog 66 #[.agg #[.int .i64 l0, .int .i64 l1, .int .i64 h0, .int .i64 h1, .int .i64 g0, .int .i64 g1, .int .i64 t0, .int .i64 t1, .int .i64 ls, .int .i64 b0, .int .i64 b1]] w fun e w' => e = .returned (.agg #[.int .i64 l0, .int .i64 l1, .int .i64 h0, .int .i64 h1, .int .i64 g0, .int .i64 g1, .int .i64 t0, .int .i64 t1, .int .i64 b0, .int .i64 b1]) ∧ Kept w w' := by
  go_enter Tryd.func66, Tryd.ntmps66
  go_wp2
  refine bodyPost_ret (v := .agg #[.int .i64 l0, .int .i64 l1, .int .i64 h0, .int .i64 h1, .int .i64 g0, .int .i64 g1, .int .i64 t0, .int .i64 t1, .int .i64 b0, .int .i64 b1]) (by simp [results, Tryd.results66, go_sem]) rfl ⟨rfl, ?_⟩
  unfold Kept
  repeat (first | exact Below.refl _ _ | refine Below.alloc ?_ (by simp) _ | refine Below.setCell ?_ (by simp [Addr.add]; done) _ )

end Go.Proofs.YtchgkfnodcbpiaaDoor
set_option linter.all false
namespace Go.Proofs.YtchgkfnodcbpiaaDoor
open Go.RowKit Go.Sort
set_option maxRecDepth 100000
theorem idx0 (a0 a1 a2 a3 a4 a5 a6 a7 a8 a9 : Value) (w : World) : (Instr.index 105 (.agg #[a0, a1, a2, a3, a4, a5, a6, a7, a8, a9]) (.int .i64 0)).run Tryd.prog w = .ok (.agg #[a0, a1]) w := by kernel_rfl
theorem idx1 (a0 a1 a2 a3 a4 a5 a6 a7 a8 a9 : Value) (w : World) : (Instr.index 105 (.agg #[a0, a1, a2, a3, a4, a5, a6, a7, a8, a9]) (.int .i64 1)).run Tryd.prog w = .ok (.agg #[a2, a3]) w := by kernel_rfl
theorem idx2 (a0 a1 a2 a3 a4 a5 a6 a7 a8 a9 : Value) (w : World) : (Instr.index 105 (.agg #[a0, a1, a2, a3, a4, a5, a6, a7, a8, a9]) (.int .i64 2)).run Tryd.prog w = .ok (.agg #[a4, a5]) w := by kernel_rfl
theorem idx3 (a0 a1 a2 a3 a4 a5 a6 a7 a8 a9 : Value) (w : World) : (Instr.index 105 (.agg #[a0, a1, a2, a3, a4, a5, a6, a7, a8, a9]) (.int .i64 3)).run Tryd.prog w = .ok (.agg #[a6, a7]) w := by kernel_rfl
theorem idx4 (a0 a1 a2 a3 a4 a5 a6 a7 a8 a9 : Value) (w : World) : (Instr.index 105 (.agg #[a0, a1, a2, a3, a4, a5, a6, a7, a8, a9]) (.int .i64 4)).run Tryd.prog w = .ok (.agg #[a8, a9]) w := by kernel_rfl
end Go.Proofs.YtchgkfnodcbpiaaDoor
