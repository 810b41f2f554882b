import Derived.Test.YtbhgicggpkibeaaDoorVW1
import Derived.IntWalk
set_option linter.all false
set_option linter.all false
namespace Go.Proofs.YtbhgicggpkibeaaDoor
open Go.RowKit
set_option maxRecDepth 100000
set_option maxHeartbeats 400000

def top (hi ga tu lo wk : Int) : Int := hi + min wk tu * ga - (wk - min wk tu) * lo

theorem mul_rng {x y : Int} (hx : 0 ≤ x ∧ x ≤ 100) (hy : 0 ≤ y ∧ y ≤ 100) : 0 ≤ x * y ∧ x * y ≤ 10000 :=
  ⟨Int.mul_nonneg hx.1 hy.1, by have := Int.mul_le_mul hx.2 hy.2 hy.1 (by omega); omega⟩

theorem below_drewN' {B : Nat} {a w : World} (h : Below B a w) (n : Nat) : Below B a (w.drewN n) := ⟨h.os, h.tape, h.output, h.size, h.block⟩

theorem highest_any (b o len cap : Nat) (k1 ts m : Value) (boy : Nat) (n0 n4 : Value) (n1 n2 n3 lo wk : Int) (w : World)
   (hb : boy < len) (hl : len ≤ 4) (hc : w.cell? ⟨b, o + boy * 11 + 8, none⟩ = some (.int .i64 lo)) (hin : b < w.heap.size)
   (h1 : 0 ≤ n1 ∧ n1 ≤ 100) (h2 : 0 ≤ n2 ∧ n2 ≤ 100) (h3 : 0 ≤ n3 ∧ n3 ≤ 100) (h4 : 0 ≤ wk ∧ wk ≤ 100) (h5 : 0 ≤ lo ∧ lo ≤ 100) :
   Calls Tryd.prog 86 #[.agg #[.slice (some ⟨b, o, none⟩) len cap, k1, ts, m, .int .i64 boy, n0, .int .i64 n1, .int .i64 n2, .int .i64 n3, n4], .int .i64 wk] w fun e w' => e = .returned (.int .i64 (top n1 n2 n3 lo wk)) ∧ Kept w w' := by
  have hr : 0 ≤ min wk n3 ∧ min wk n3 ≤ 100 := by omega
  have hr2 : 0 ≤ wk - min wk n3 ∧ wk - min wk n3 ≤ 100 := by omega
  have Htop : top n1 n2 n3 lo wk = n1 + min wk n3 * n2 - (wk - min wk n3) * lo := rfl
  rw [Htop]; clear Htop
  generalize hrr : min wk n3 = r at *
  have H := Lib.hid hrr; clear hrr
  go_enter Tryd.func86, Tryd.ntmps86
  go_wp2_with fail
  have hq : ((w.alloc
          (Obj.cells
            #[Value.slice (some ⟨b, o, none⟩) len cap, k1, ts, m, Value.int IntKind.i64 ↑boy, n0, Value.int IntKind.i64 n1,
              Value.int IntKind.i64 n2, Value.int IntKind.i64 n3, n4]
            92)).alloc
      (Obj.cells #[Value.int IntKind.i64 n3] 3)).cell? { block := w.heap.size + 1, off := 0 } = some (.int .i64 n3) := by go_simp
  refine (least2 wk n3 _ _ hq).mono ?_
  rintro e w' ⟨rfl, rfl⟩
  clear hq
  rw [H.out]
  have hp := mul_rng hr h2
  have hp2 := mul_rng hr2 h5
  have e1 : IntKind.i64.wrap (r * n2) = r * n2 := IntWalk.i64_in _ (by omega)
  have e2 : IntKind.i64.wrap (n1 + r * n2) = n1 + r * n2 := IntWalk.i64_in _ (by omega)
  have e3 : IntKind.i64.wrap (wk - r) = wk - r := IntWalk.i64_in _ (by omega)
  have e4 : IntKind.i64.wrap ((wk - r) * lo) = (wk - r) * lo := IntWalk.i64_in _ (by omega)
  have e5 : IntKind.i64.wrap (n1 + r * n2 - (wk - r) * lo) = n1 + r * n2 - (wk - r) * lo := IntWalk.i64_in _ (by omega)
  have hb2 : (boy : Int) < len := by omega
  have hb3 : (0 : Int) ≤ boy := by omega
  go_wp2_with fail
  go_quiet (fail)
  go_wp2_with fail
  go_ret
  refine ⟨rfl, ?_⟩
  unfold Kept
  exact below_drewN' (((Below.refl _ _).alloc (Nat.le_refl _) _).alloc (by simp) _) _
end Go.Proofs.YtbhgicggpkibeaaDoor
