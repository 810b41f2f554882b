/- The remainder (decaniref00.Turn) for every input, and as known calls of a token. No conditions. -/
import Derived.Test.YtmjpnohpmfmdlaaGreatDoorEnv
import Derived.Test.YtmjpnohpmfmdlaaGreatDoorAiL
import Derived.Test.YtmjpnohpmfmdlaaGreatDoorProg
import Derived.WalkKit
import Derived.WalkSpells
set_option linter.all false
namespace Go.Proofs.YtmjpnohpmfmdlaaGreatDoor
open Go.RowKit
set_option maxRecDepth 100000
set_option maxHeartbeats 400000
theorem pitmod (n : Int) (b : Int) (hb : 1 ≤ b) : -b < Int.tmod n b ∧ Int.tmod n b < b := by
  have h1 := Int.tmod_lt_of_pos n (show 0 < b by omega)
  have h2 := Int.tmod_lt_of_pos (-n) (show 0 < b by omega)
  rw [Int.neg_tmod] at h2
  omega
theorem piturn (n b : Int) (w : World) (hb : 1 ≤ b) (hb2 : b ≤ 1000) : Calls Tryz.prog 6 #[.int .i64 n, .int .i64 b] w fun e w' => e = .returned (.int .i64 (Go.Ai.turnI n b)) ∧ w = w' := by
  have hb0 : decide (b < 1) = false := by simp; omega
  have hbz : (b == 0) = false := by simp; omega
  obtain ⟨m1, m2⟩ := pitmod n b hb
  by_cases hr : Int.tmod n b < 0
  · have hd : decide (Int.tmod n b < 0) = true := by simpa using hr
    have H : Go.Ai.turnI n b = Int.tmod n b + b := if_pos hr
    rw [H]; clear H
    go_enter Tryz.func6, Tryz.ntmps6
    go_wp2_with fail
    go_ret
    exact ⟨rfl, rfl⟩
  · have hd : decide (Int.tmod n b < 0) = false := by simpa using hr
    have H : Go.Ai.turnI n b = Int.tmod n b := if_neg hr
    rw [H]; clear H
    go_enter Tryz.func6, Tryz.ntmps6
    go_wp2_with fail
    go_ret
    exact ⟨rfl, rfl⟩
open Go.Ai
noncomputable def piG : List (Nat × Blk) := [(0, .cells false 0 [.int .i64 (.negSucc 0), .int .i64 (.negSucc 0), .int .i64 (.negSucc 0), .int .i64 (.negSucc 0)]), (1, .cells false 0 [.int .i64 (.negSucc 0), .int .i64 (.negSucc 0)]), (2, .dead), (3, .cells false 0 [.int .i64 (.ofNat 6), .int .i64 (.ofNat 6), .int .i64 (.ofNat 6), .int .i64 (.ofNat 6), .int .i64 (.ofNat 6)]), (4, .cells false 0 [.int .i64 (.negSucc 0), .int .i64 (.negSucc 0), .int .i64 (.negSucc 0)]), (5, .dead)]
theorem piG_lt : ∀ p ∈ piG, p.1 ≠ 6 := fun p hp => Nat.ne_of_lt (by
  have h : piG.all (fun p => Nat.blt p.1 6) = true := by kernel_rfl
  have := List.all_eq_true.1 h p hp
  simpa [Nat.blt_eq] using this)
theorem piturn_holds (k c : Nat) (hok : (turnE 6 piG 6 k c).okS EE.G = true) : (turnE 6 piG 6 k c).holds EE :=
  turn_holds hok piG_lt ⟨Tryz.f6, Tryz.func6, by kernel_rfl, by kernel_rfl⟩ fun n k w h1 h2 => callsIn_wide.2 (piturn n k w h1 h2)
noncomputable def pit1_0 : Ent := turnE 6 piG 6 1 0
theorem pit1_0_h : pit1_0.holds EE := piturn_holds 1 0 (by kernel_rfl)
noncomputable def pit2_0 : Ent := turnE 6 piG 6 2 0
theorem pit2_0_h : pit2_0.holds EE := piturn_holds 2 0 (by kernel_rfl)
noncomputable def pit2_1 : Ent := turnE 6 piG 6 2 1
theorem pit2_1_h : pit2_1.holds EE := piturn_holds 2 1 (by kernel_rfl)
noncomputable def pit3_0 : Ent := turnE 6 piG 6 3 0
theorem pit3_0_h : pit3_0.holds EE := piturn_holds 3 0 (by kernel_rfl)
noncomputable def pit3_1 : Ent := turnE 6 piG 6 3 1
theorem pit3_1_h : pit3_1.holds EE := piturn_holds 3 1 (by kernel_rfl)
noncomputable def pit3_2 : Ent := turnE 6 piG 6 3 2
theorem pit3_2_h : pit3_2.holds EE := piturn_holds 3 2 (by kernel_rfl)
noncomputable def pit4_0 : Ent := turnE 6 piG 6 4 0
theorem pit4_0_h : pit4_0.holds EE := piturn_holds 4 0 (by kernel_rfl)
noncomputable def pit4_1 : Ent := turnE 6 piG 6 4 1
theorem pit4_1_h : pit4_1.holds EE := piturn_holds 4 1 (by kernel_rfl)
noncomputable def pit4_2 : Ent := turnE 6 piG 6 4 2
theorem pit4_2_h : pit4_2.holds EE := piturn_holds 4 2 (by kernel_rfl)
noncomputable def pit4_3 : Ent := turnE 6 piG 6 4 3
theorem pit4_3_h : pit4_3.holds EE := piturn_holds 4 3 (by kernel_rfl)
noncomputable def pit5_0 : Ent := turnE 6 piG 6 5 0
theorem pit5_0_h : pit5_0.holds EE := piturn_holds 5 0 (by kernel_rfl)
noncomputable def pit5_1 : Ent := turnE 6 piG 6 5 1
theorem pit5_1_h : pit5_1.holds EE := piturn_holds 5 1 (by kernel_rfl)
noncomputable def pit5_2 : Ent := turnE 6 piG 6 5 2
theorem pit5_2_h : pit5_2.holds EE := piturn_holds 5 2 (by kernel_rfl)
noncomputable def pit5_3 : Ent := turnE 6 piG 6 5 3
theorem pit5_3_h : pit5_3.holds EE := piturn_holds 5 3 (by kernel_rfl)
noncomputable def pit5_4 : Ent := turnE 6 piG 6 5 4
theorem pit5_4_h : pit5_4.holds EE := piturn_holds 5 4 (by kernel_rfl)
noncomputable def pit6_0 : Ent := turnE 6 piG 6 6 0
theorem pit6_0_h : pit6_0.holds EE := piturn_holds 6 0 (by kernel_rfl)
noncomputable def pit6_1 : Ent := turnE 6 piG 6 6 1
theorem pit6_1_h : pit6_1.holds EE := piturn_holds 6 1 (by kernel_rfl)
noncomputable def pit6_2 : Ent := turnE 6 piG 6 6 2
theorem pit6_2_h : pit6_2.holds EE := piturn_holds 6 2 (by kernel_rfl)
noncomputable def pit6_3 : Ent := turnE 6 piG 6 6 3
theorem pit6_3_h : pit6_3.holds EE := piturn_holds 6 3 (by kernel_rfl)
noncomputable def pit6_4 : Ent := turnE 6 piG 6 6 4
theorem pit6_4_h : pit6_4.holds EE := piturn_holds 6 4 (by kernel_rfl)
noncomputable def pit6_5 : Ent := turnE 6 piG 6 6 5
theorem pit6_5_h : pit6_5.holds EE := piturn_holds 6 5 (by kernel_rfl)
end Go.Proofs.YtmjpnohpmfmdlaaGreatDoor
