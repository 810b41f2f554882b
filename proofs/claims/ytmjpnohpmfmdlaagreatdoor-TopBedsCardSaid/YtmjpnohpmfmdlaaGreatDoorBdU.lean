/- The remainder (decaniref00.Turn) for every input, and as known calls of a token. No conditions. -/
import Derived.Test.YtmjpnohpmfmdlaaGreatDoorEnv
import Derived.Test.YtmjpnohpmfmdlaaGreatDoorAiL
import Derived.Test.YtmjpnohpmfmdlaaGreatDoorProg
import Derived.WalkKit
import Derived.WalkSpells
set_option linter.all false
namespace Go.Proofs.YtmjpnohpmfmdlaaGreatDoor
open Go.RowKit
set_option maxRecDepth 100000
set_option maxHeartbeats 400000
theorem bdtmod (n : Int) (b : Int) (hb : 1 ≤ b) : -b < Int.tmod n b ∧ Int.tmod n b < b := by
  have h1 := Int.tmod_lt_of_pos n (show 0 < b by omega)
  have h2 := Int.tmod_lt_of_pos (-n) (show 0 < b by omega)
  rw [Int.neg_tmod] at h2
  omega
theorem bdturn (n b : Int) (w : World) (hb : 1 ≤ b) (hb2 : b ≤ 1000) : Calls Tryz.prog 6 #[.int .i64 n, .int .i64 b] w fun e w' => e = .returned (.int .i64 (Go.Ai.turnI n b)) ∧ w = w' := by
  have hb0 : decide (b < 1) = false := by simp; omega
  have hbz : (b == 0) = false := by simp; omega
  obtain ⟨m1, m2⟩ := bdtmod n b hb
  by_cases hr : Int.tmod n b < 0
  · have hd : decide (Int.tmod n b < 0) = true := by simpa using hr
    have H : Go.Ai.turnI n b = Int.tmod n b + b := if_pos hr
    rw [H]; clear H
    go_enter Tryz.func6, Tryz.ntmps6
    go_wp2_with fail
    go_ret
    exact ⟨rfl, rfl⟩
  · have hd : decide (Int.tmod n b < 0) = false := by simpa using hr
    have H : Go.Ai.turnI n b = Int.tmod n b := if_neg hr
    rw [H]; clear H
    go_enter Tryz.func6, Tryz.ntmps6
    go_wp2_with fail
    go_ret
    exact ⟨rfl, rfl⟩
open Go.Ai
noncomputable def bdG : List (Nat × Blk) := [(0, .dead), (1, .cells false 0 [iN 0, iN 0]), (2, .cells false 0 [iN 300, iN 300]), (3, .cells false 0 [iP 6, iP 6, iP 6, iP 6, iP 6]), (4, .dead), (5, .cells false 0 [iN 0, iN 0, iN 0])]
theorem bdG_lt : ∀ p ∈ bdG, p.1 ≠ 6 := fun p hp => Nat.ne_of_lt (by
  have h : bdG.all (fun p => Nat.blt p.1 6) = true := by kernel_rfl
  have := List.all_eq_true.1 h p hp
  simpa [Nat.blt_eq] using this)
theorem bdturn_holds (k c : Nat) (hok : (turnE 6 bdG 6 k c).okS EE.G = true) : (turnE 6 bdG 6 k c).holds EE :=
  turn_holds hok bdG_lt ⟨Tryz.f6, Tryz.func6, by kernel_rfl, by kernel_rfl⟩ fun n k w h1 h2 => callsIn_wide.2 (bdturn n k w h1 h2)
noncomputable def bdt2_0 : Ent := turnE 6 bdG 6 2 0
theorem bdt2_0_h : bdt2_0.holds EE := bdturn_holds 2 0 (by kernel_rfl)
noncomputable def bdt2_1 : Ent := turnE 6 bdG 6 2 1
theorem bdt2_1_h : bdt2_1.holds EE := bdturn_holds 2 1 (by kernel_rfl)
noncomputable def bdt3_0 : Ent := turnE 6 bdG 6 3 0
theorem bdt3_0_h : bdt3_0.holds EE := bdturn_holds 3 0 (by kernel_rfl)
noncomputable def bdt3_1 : Ent := turnE 6 bdG 6 3 1
theorem bdt3_1_h : bdt3_1.holds EE := bdturn_holds 3 1 (by kernel_rfl)
noncomputable def bdt3_2 : Ent := turnE 6 bdG 6 3 2
theorem bdt3_2_h : bdt3_2.holds EE := bdturn_holds 3 2 (by kernel_rfl)
noncomputable def bdt5_0 : Ent := turnE 6 bdG 6 5 0
theorem bdt5_0_h : bdt5_0.holds EE := bdturn_holds 5 0 (by kernel_rfl)
noncomputable def bdt5_1 : Ent := turnE 6 bdG 6 5 1
theorem bdt5_1_h : bdt5_1.holds EE := bdturn_holds 5 1 (by kernel_rfl)
noncomputable def bdt5_2 : Ent := turnE 6 bdG 6 5 2
theorem bdt5_2_h : bdt5_2.holds EE := bdturn_holds 5 2 (by kernel_rfl)
noncomputable def bdt5_3 : Ent := turnE 6 bdG 6 5 3
theorem bdt5_3_h : bdt5_3.holds EE := bdturn_holds 5 3 (by kernel_rfl)
noncomputable def bdt5_4 : Ent := turnE 6 bdG 6 5 4
theorem bdt5_4_h : bdt5_4.holds EE := bdturn_holds 5 4 (by kernel_rfl)
end Go.Proofs.YtmjpnohpmfmdlaaGreatDoor
