/- The law's call, whatever the numbers. No conditions. -/
import Derived.Test.YtmjpnohpmfmdlaaGreatDoorMeC0
import Derived.Test.YtmjpnohpmfmdlaaGreatDoorMeC1
import Derived.Test.YtmjpnohpmfmdlaaGreatDoorMeC2
import Derived.Test.YtmjpnohpmfmdlaaGreatDoorMeC3
set_option linter.all false
namespace Go.Proofs.YtmjpnohpmfmdlaaGreatDoor
open Go.RowKit
open Go.Ai
set_option maxRecDepth 1000000
noncomputable def mecase (c0 c1 c2 c3 c4 : Nat) : Ent := ⟨4, [.agg ⟨[.chan (some 6), .chan (some 7), .chan (some 8), .chan (some 9), .chan (some 10)]⟩], 11, meG ++ [(6, .res (3) c0), (7, .res (2) c1), (8, .res (2) c2), (9, .res (2) c3), (10, .res (6) c4)], [], .bool true⟩
def melist : List (List Nat) := [[0, 0, 0, 0, 0], [0, 0, 0, 0, 1], [0, 0, 0, 0, 2], [0, 0, 0, 0, 3], [0, 0, 0, 0, 4], [0, 0, 0, 0, 5], [0, 0, 0, 1, 0], [0, 0, 0, 1, 1], [0, 0, 0, 1, 2], [0, 0, 0, 1, 3], [0, 0, 0, 1, 4], [0, 0, 0, 1, 5], [0, 0, 1, 0, 0], [0, 0, 1, 0, 1], [0, 0, 1, 0, 2], [0, 0, 1, 0, 3], [0, 0, 1, 0, 4], [0, 0, 1, 0, 5], [0, 0, 1, 1, 0], [0, 0, 1, 1, 1], [0, 0, 1, 1, 2], [0, 0, 1, 1, 3], [0, 0, 1, 1, 4], [0, 0, 1, 1, 5], [0, 1, 0, 0, 0], [0, 1, 0, 0, 1], [0, 1, 0, 0, 2], [0, 1, 0, 0, 3], [0, 1, 0, 0, 4], [0, 1, 0, 0, 5], [0, 1, 0, 1, 0], [0, 1, 0, 1, 1], [0, 1, 0, 1, 2], [0, 1, 0, 1, 3], [0, 1, 0, 1, 4], [0, 1, 0, 1, 5], [0, 1, 1, 0, 0], [0, 1, 1, 0, 1], [0, 1, 1, 0, 2], [0, 1, 1, 0, 3], [0, 1, 1, 0, 4], [0, 1, 1, 0, 5], [0, 1, 1, 1, 0], [0, 1, 1, 1, 1], [0, 1, 1, 1, 2], [0, 1, 1, 1, 3], [0, 1, 1, 1, 4], [0, 1, 1, 1, 5], [1, 0, 0, 0, 0], [1, 0, 0, 0, 1], [1, 0, 0, 0, 2], [1, 0, 0, 0, 3], [1, 0, 0, 0, 4], [1, 0, 0, 0, 5], [1, 0, 0, 1, 0], [1, 0, 0, 1, 1], [1, 0, 0, 1, 2], [1, 0, 0, 1, 3], [1, 0, 0, 1, 4], [1, 0, 0, 1, 5], [1, 0, 1, 0, 0], [1, 0, 1, 0, 1], [1, 0, 1, 0, 2], [1, 0, 1, 0, 3], [1, 0, 1, 0, 4], [1, 0, 1, 0, 5], [1, 0, 1, 1, 0], [1, 0, 1, 1, 1], [1, 0, 1, 1, 2], [1, 0, 1, 1, 3], [1, 0, 1, 1, 4], [1, 0, 1, 1, 5], [1, 1, 0, 0, 0], [1, 1, 0, 0, 1], [1, 1, 0, 0, 2], [1, 1, 0, 0, 3], [1, 1, 0, 0, 4], [1, 1, 0, 0, 5], [1, 1, 0, 1, 0], [1, 1, 0, 1, 1], [1, 1, 0, 1, 2], [1, 1, 0, 1, 3], [1, 1, 0, 1, 4], [1, 1, 0, 1, 5], [1, 1, 1, 0, 0], [1, 1, 1, 0, 1], [1, 1, 1, 0, 2], [1, 1, 1, 0, 3], [1, 1, 1, 0, 4], [1, 1, 1, 0, 5], [1, 1, 1, 1, 0], [1, 1, 1, 1, 1], [1, 1, 1, 1, 2], [1, 1, 1, 1, 3], [1, 1, 1, 1, 4], [1, 1, 1, 1, 5], [2, 0, 0, 0, 0], [2, 0, 0, 0, 1], [2, 0, 0, 0, 2], [2, 0, 0, 0, 3], [2, 0, 0, 0, 4], [2, 0, 0, 0, 5], [2, 0, 0, 1, 0], [2, 0, 0, 1, 1], [2, 0, 0, 1, 2], [2, 0, 0, 1, 3], [2, 0, 0, 1, 4], [2, 0, 0, 1, 5], [2, 0, 1, 0, 0], [2, 0, 1, 0, 1], [2, 0, 1, 0, 2], [2, 0, 1, 0, 3], [2, 0, 1, 0, 4], [2, 0, 1, 0, 5], [2, 0, 1, 1, 0], [2, 0, 1, 1, 1], [2, 0, 1, 1, 2], [2, 0, 1, 1, 3], [2, 0, 1, 1, 4], [2, 0, 1, 1, 5], [2, 1, 0, 0, 0], [2, 1, 0, 0, 1], [2, 1, 0, 0, 2], [2, 1, 0, 0, 3], [2, 1, 0, 0, 4], [2, 1, 0, 0, 5], [2, 1, 0, 1, 0], [2, 1, 0, 1, 1], [2, 1, 0, 1, 2], [2, 1, 0, 1, 3], [2, 1, 0, 1, 4], [2, 1, 0, 1, 5], [2, 1, 1, 0, 0], [2, 1, 1, 0, 1], [2, 1, 1, 0, 2], [2, 1, 1, 0, 3], [2, 1, 1, 0, 4], [2, 1, 1, 0, 5], [2, 1, 1, 1, 0], [2, 1, 1, 1, 1], [2, 1, 1, 1, 2], [2, 1, 1, 1, 3], [2, 1, 1, 1, 4], [2, 1, 1, 1, 5]]
def menth (c : List Nat) (i : Nat) : Nat := match c, i with | [], _ => 0 | x :: _, 0 => x | _ :: l, i + 1 => menth l i
theorem meall : ∀ c ∈ melist, (mecase (menth c 0) (menth c 1) (menth c 2) (menth c 3) (menth c 4)).holds EE :=
  List.forall_mem_cons.2 ⟨mec0_h,
  List.forall_mem_cons.2 ⟨mec1_h,
  List.forall_mem_cons.2 ⟨mec2_h,
  List.forall_mem_cons.2 ⟨mec3_h,
  List.forall_mem_cons.2 ⟨mec4_h,
  List.forall_mem_cons.2 ⟨mec5_h,
  List.forall_mem_cons.2 ⟨mec6_h,
  List.forall_mem_cons.2 ⟨mec7_h,
  List.forall_mem_cons.2 ⟨mec8_h,
  List.forall_mem_cons.2 ⟨mec9_h,
  List.forall_mem_cons.2 ⟨mec10_h,
  List.forall_mem_cons.2 ⟨mec11_h,
  List.forall_mem_cons.2 ⟨mec12_h,
  List.forall_mem_cons.2 ⟨mec13_h,
  List.forall_mem_cons.2 ⟨mec14_h,
  List.forall_mem_cons.2 ⟨mec15_h,
  List.forall_mem_cons.2 ⟨mec16_h,
  List.forall_mem_cons.2 ⟨mec17_h,
  List.forall_mem_cons.2 ⟨mec18_h,
  List.forall_mem_cons.2 ⟨mec19_h,
  List.forall_mem_cons.2 ⟨mec20_h,
  List.forall_mem_cons.2 ⟨mec21_h,
  List.forall_mem_cons.2 ⟨mec22_h,
  List.forall_mem_cons.2 ⟨mec23_h,
  List.forall_mem_cons.2 ⟨mec24_h,
  List.forall_mem_cons.2 ⟨mec25_h,
  List.forall_mem_cons.2 ⟨mec26_h,
  List.forall_mem_cons.2 ⟨mec27_h,
  List.forall_mem_cons.2 ⟨mec28_h,
  List.forall_mem_cons.2 ⟨mec29_h,
  List.forall_mem_cons.2 ⟨mec30_h,
  List.forall_mem_cons.2 ⟨mec31_h,
  List.forall_mem_cons.2 ⟨mec32_h,
  List.forall_mem_cons.2 ⟨mec33_h,
  List.forall_mem_cons.2 ⟨mec34_h,
  List.forall_mem_cons.2 ⟨mec35_h,
  List.forall_mem_cons.2 ⟨mec36_h,
  List.forall_mem_cons.2 ⟨mec37_h,
  List.forall_mem_cons.2 ⟨mec38_h,
  List.forall_mem_cons.2 ⟨mec39_h,
  List.forall_mem_cons.2 ⟨mec40_h,
  List.forall_mem_cons.2 ⟨mec41_h,
  List.forall_mem_cons.2 ⟨mec42_h,
  List.forall_mem_cons.2 ⟨mec43_h,
  List.forall_mem_cons.2 ⟨mec44_h,
  List.forall_mem_cons.2 ⟨mec45_h,
  List.forall_mem_cons.2 ⟨mec46_h,
  List.forall_mem_cons.2 ⟨mec47_h,
  List.forall_mem_cons.2 ⟨mec48_h,
  List.forall_mem_cons.2 ⟨mec49_h,
  List.forall_mem_cons.2 ⟨mec50_h,
  List.forall_mem_cons.2 ⟨mec51_h,
  List.forall_mem_cons.2 ⟨mec52_h,
  List.forall_mem_cons.2 ⟨mec53_h,
  List.forall_mem_cons.2 ⟨mec54_h,
  List.forall_mem_cons.2 ⟨mec55_h,
  List.forall_mem_cons.2 ⟨mec56_h,
  List.forall_mem_cons.2 ⟨mec57_h,
  List.forall_mem_cons.2 ⟨mec58_h,
  List.forall_mem_cons.2 ⟨mec59_h,
  List.forall_mem_cons.2 ⟨mec60_h,
  List.forall_mem_cons.2 ⟨mec61_h,
  List.forall_mem_cons.2 ⟨mec62_h,
  List.forall_mem_cons.2 ⟨mec63_h,
  List.forall_mem_cons.2 ⟨mec64_h,
  List.forall_mem_cons.2 ⟨mec65_h,
  List.forall_mem_cons.2 ⟨mec66_h,
  List.forall_mem_cons.2 ⟨mec67_h,
  List.forall_mem_cons.2 ⟨mec68_h,
  List.forall_mem_cons.2 ⟨mec69_h,
  List.forall_mem_cons.2 ⟨mec70_h,
  List.forall_mem_cons.2 ⟨mec71_h,
  List.forall_mem_cons.2 ⟨mec72_h,
  List.forall_mem_cons.2 ⟨mec73_h,
  List.forall_mem_cons.2 ⟨mec74_h,
  List.forall_mem_cons.2 ⟨mec75_h,
  List.forall_mem_cons.2 ⟨mec76_h,
  List.forall_mem_cons.2 ⟨mec77_h,
  List.forall_mem_cons.2 ⟨mec78_h,
  List.forall_mem_cons.2 ⟨mec79_h,
  List.forall_mem_cons.2 ⟨mec80_h,
  List.forall_mem_cons.2 ⟨mec81_h,
  List.forall_mem_cons.2 ⟨mec82_h,
  List.forall_mem_cons.2 ⟨mec83_h,
  List.forall_mem_cons.2 ⟨mec84_h,
  List.forall_mem_cons.2 ⟨mec85_h,
  List.forall_mem_cons.2 ⟨mec86_h,
  List.forall_mem_cons.2 ⟨mec87_h,
  List.forall_mem_cons.2 ⟨mec88_h,
  List.forall_mem_cons.2 ⟨mec89_h,
  List.forall_mem_cons.2 ⟨mec90_h,
  List.forall_mem_cons.2 ⟨mec91_h,
  List.forall_mem_cons.2 ⟨mec92_h,
  List.forall_mem_cons.2 ⟨mec93_h,
  List.forall_mem_cons.2 ⟨mec94_h,
  List.forall_mem_cons.2 ⟨mec95_h,
  List.forall_mem_cons.2 ⟨mec96_h,
  List.forall_mem_cons.2 ⟨mec97_h,
  List.forall_mem_cons.2 ⟨mec98_h,
  List.forall_mem_cons.2 ⟨mec99_h,
  List.forall_mem_cons.2 ⟨mec100_h,
  List.forall_mem_cons.2 ⟨mec101_h,
  List.forall_mem_cons.2 ⟨mec102_h,
  List.forall_mem_cons.2 ⟨mec103_h,
  List.forall_mem_cons.2 ⟨mec104_h,
  List.forall_mem_cons.2 ⟨mec105_h,
  List.forall_mem_cons.2 ⟨mec106_h,
  List.forall_mem_cons.2 ⟨mec107_h,
  List.forall_mem_cons.2 ⟨mec108_h,
  List.forall_mem_cons.2 ⟨mec109_h,
  List.forall_mem_cons.2 ⟨mec110_h,
  List.forall_mem_cons.2 ⟨mec111_h,
  List.forall_mem_cons.2 ⟨mec112_h,
  List.forall_mem_cons.2 ⟨mec113_h,
  List.forall_mem_cons.2 ⟨mec114_h,
  List.forall_mem_cons.2 ⟨mec115_h,
  List.forall_mem_cons.2 ⟨mec116_h,
  List.forall_mem_cons.2 ⟨mec117_h,
  List.forall_mem_cons.2 ⟨mec118_h,
  List.forall_mem_cons.2 ⟨mec119_h,
  List.forall_mem_cons.2 ⟨mec120_h,
  List.forall_mem_cons.2 ⟨mec121_h,
  List.forall_mem_cons.2 ⟨mec122_h,
  List.forall_mem_cons.2 ⟨mec123_h,
  List.forall_mem_cons.2 ⟨mec124_h,
  List.forall_mem_cons.2 ⟨mec125_h,
  List.forall_mem_cons.2 ⟨mec126_h,
  List.forall_mem_cons.2 ⟨mec127_h,
  List.forall_mem_cons.2 ⟨mec128_h,
  List.forall_mem_cons.2 ⟨mec129_h,
  List.forall_mem_cons.2 ⟨mec130_h,
  List.forall_mem_cons.2 ⟨mec131_h,
  List.forall_mem_cons.2 ⟨mec132_h,
  List.forall_mem_cons.2 ⟨mec133_h,
  List.forall_mem_cons.2 ⟨mec134_h,
  List.forall_mem_cons.2 ⟨mec135_h,
  List.forall_mem_cons.2 ⟨mec136_h,
  List.forall_mem_cons.2 ⟨mec137_h,
  List.forall_mem_cons.2 ⟨mec138_h,
  List.forall_mem_cons.2 ⟨mec139_h,
  List.forall_mem_cons.2 ⟨mec140_h,
  List.forall_mem_cons.2 ⟨mec141_h,
  List.forall_mem_cons.2 ⟨mec142_h,
  List.forall_mem_cons.2 ⟨mec143_h,
  (fun _ h => by cases h)⟩⟩⟩⟩⟩⟩⟩⟩⟩⟩⟩⟩⟩⟩⟩⟩⟩⟩⟩⟩⟩⟩⟩⟩⟩⟩⟩⟩⟩⟩⟩⟩⟩⟩⟩⟩⟩⟩⟩⟩⟩⟩⟩⟩⟩⟩⟩⟩⟩⟩⟩⟩⟩⟩⟩⟩⟩⟩⟩⟩⟩⟩⟩⟩⟩⟩⟩⟩⟩⟩⟩⟩⟩⟩⟩⟩⟩⟩⟩⟩⟩⟩⟩⟩⟩⟩⟩⟩⟩⟩⟩⟩⟩⟩⟩⟩⟩⟩⟩⟩⟩⟩⟩⟩⟩⟩⟩⟩⟩⟩⟩⟩⟩⟩⟩⟩⟩⟩⟩⟩⟩⟩⟩⟩⟩⟩⟩⟩⟩⟩⟩⟩⟩⟩⟩⟩⟩⟩⟩⟩⟩⟩⟩⟩
theorem memem : ∀ c0 < 3, ∀ c1 < 2, ∀ c2 < 2, ∀ c3 < 2, ∀ c4 < 6, [c0, c1, c2, c3, c4] ∈ melist := by
  have h : ((List.range (3)).all fun c0 => (List.range (2)).all fun c1 => (List.range (2)).all fun c2 => (List.range (2)).all fun c3 => (List.range (6)).all fun c4 => melist.contains [c0, c1, c2, c3, c4]) = true := by kernel_rfl
  intro c0 g0 c1 g1 c2 g2 c3 g3 c4 g4
  have h := List.all_eq_true.1 h c0 (List.mem_range.2 g0)
  have h := List.all_eq_true.1 h c1 (List.mem_range.2 g1)
  have h := List.all_eq_true.1 h c2 (List.mem_range.2 g2)
  have h := List.all_eq_true.1 h c3 (List.mem_range.2 g3)
  have h := List.all_eq_true.1 h c4 (List.mem_range.2 g4)
  simpa using h
theorem mekpos (c0 c1 c2 c3 c4 : Nat) (h0 : c0 < 3) (h1 : c1 < 2) (h2 : c2 < 2) (h3 : c3 < 2) : (1 ≤ 3 ∧ 3 ≤ 1000) ∧ (1 ≤ 2 ∧ 2 ≤ 1000) ∧ (1 ≤ 2 ∧ 2 ≤ 1000) ∧ (1 ≤ 2 ∧ 2 ≤ 1000) ∧ (1 ≤ 6 ∧ 6 ≤ 1000) := by
  refine ⟨?_, ?_, ?_, ?_, ?_⟩ <;> omega
def mel1 : List Int := [(-1), (-1)]
def mel3 : List Int := [6, 6, 6, 6, 6]
def mel0 : List Int := [(-1), (-1), (-1), (-1)]
def mel4 : List Int := [(-1), (-1), (-1)]
theorem mestart (n0 n1 n2 n3 n4 : Int) (c0 c1 c2 c3 c4 : Nat) (W : World) (h1 : ∀ i, i < 2 → W.cell? ⟨1, i, none⟩ = some (.int .i64 (mel1.getD i 0))) (h3 : ∀ i, i < 5 → W.cell? ⟨3, i, none⟩ = some (.int .i64 (mel3.getD i 0))) (h0 : ∀ i, i < 4 → W.cell? ⟨0, i, none⟩ = some (.int .i64 (mel0.getD i 0))) (h4 : ∀ i, i < 3 → W.cell? ⟨4, i, none⟩ = some (.int .i64 (mel4.getD i 0)))
    (q0 : 1 ≤ 3 ∧ 3 ≤ 1000) (e0 : turnI n0 ((3 : Nat) : Int) = (c0 : Int)) (q1 : 1 ≤ 2 ∧ 2 ≤ 1000) (e1 : turnI n1 ((2 : Nat) : Int) = (c1 : Int)) (q2 : 1 ≤ 2 ∧ 2 ≤ 1000) (e2 : turnI n2 ((2 : Nat) : Int) = (c2 : Int)) (q3 : 1 ≤ 2 ∧ 2 ≤ 1000) (e3 : turnI n3 ((2 : Nat) : Int) = (c3 : Int)) (q4 : 1 ≤ 6 ∧ 6 ≤ 1000) (e4 : turnI n4 ((6 : Nat) : Int) = (c4 : Int)) :
    ∃ j : Nat → RB, Inv 6 j (mecase c0 c1 c2 c3 c4).heap W ∧ (mecase c0 c1 c2 c3 c4).args.map (conc j) = [.agg #[.int .i64 n0, .int .i64 n1, .int .i64 n2, .int .i64 n3, .int .i64 n4]] := by
  have I := start_tok (G := 6) (blks := meG) (toks := [(3, c0, n0), (2, c1, n1), (2, c2, n2), (2, c3, n3), (6, c4, n4)]) (W := W) (fun x hx => by
      have h : meG.all (fun p => Nat.blt p.1 6) = true := by kernel_rfl
      have := List.all_eq_true.1 h x hx
      simpa [Nat.blt_eq] using this) (by decide) (show 6 + 5 < 2 ^ 62 by decide) (fun b x hx => by
    simp only [meG, List.mem_cons, List.not_mem_nil, or_false, Prod.mk.injEq] at hx
    rcases hx with ⟨rfl, rfl⟩ | ⟨rfl, rfl⟩ | ⟨rfl, rfl⟩ | ⟨rfl, rfl⟩ | ⟨rfl, rfl⟩ | ⟨rfl, rfl⟩
    · refine .inr ⟨_, rfl, by decide, fun i v hv => ?_, lt_of_cell (h0 0 (by omega))⟩
      match i, hv with
      | 0, hv => cases hv; exact h0 0 (by omega)
      | 1, hv => cases hv; exact h0 1 (by omega)
      | 2, hv => cases hv; exact h0 2 (by omega)
      | 3, hv => cases hv; exact h0 3 (by omega)
    · refine .inr ⟨_, rfl, by decide, fun i v hv => ?_, lt_of_cell (h1 0 (by omega))⟩
      match i, hv with
      | 0, hv => cases hv; exact h1 0 (by omega)
      | 1, hv => cases hv; exact h1 1 (by omega)
    · exact .inl rfl
    · refine .inr ⟨_, rfl, by decide, fun i v hv => ?_, lt_of_cell (h3 0 (by omega))⟩
      match i, hv with
      | 0, hv => cases hv; exact h3 0 (by omega)
      | 1, hv => cases hv; exact h3 1 (by omega)
      | 2, hv => cases hv; exact h3 2 (by omega)
      | 3, hv => cases hv; exact h3 3 (by omega)
      | 4, hv => cases hv; exact h3 4 (by omega)
    · refine .inr ⟨_, rfl, by decide, fun i v hv => ?_, lt_of_cell (h4 0 (by omega))⟩
      match i, hv with
      | 0, hv => cases hv; exact h4 0 (by omega)
      | 1, hv => cases hv; exact h4 1 (by omega)
      | 2, hv => cases hv; exact h4 2 (by omega)
    · exact .inl rfl) (fun t ht => by
    simp only [List.mem_cons, List.not_mem_nil, or_false] at ht
    rcases ht with rfl | rfl | rfl | rfl | rfl
    · exact ⟨q0.1, q0.2, e0⟩
    · exact ⟨q1.1, q1.2, e1⟩
    · exact ⟨q2.1, q2.2, e2⟩
    · exact ⟨q3.1, q3.2, e3⟩
    · exact ⟨q4.1, q4.2, e4⟩)
  refine ⟨_, I, ?_⟩
  show [Value.agg ⟨[.int .i64 (dec (enc n0)), .int .i64 (dec (enc n1)), .int .i64 (dec (enc n2)), .int .i64 (dec (enc n3)), .int .i64 (dec (enc n4))]⟩] = _
  simp only [dec_enc]
theorem mecalls (n0 n1 n2 n3 n4 : Int) (W : World) (h1 : ∀ i, i < 2 → W.cell? ⟨1, i, none⟩ = some (.int .i64 (mel1.getD i 0))) (h3 : ∀ i, i < 5 → W.cell? ⟨3, i, none⟩ = some (.int .i64 (mel3.getD i 0))) (h0 : ∀ i, i < 4 → W.cell? ⟨0, i, none⟩ = some (.int .i64 (mel0.getD i 0))) (h4 : ∀ i, i < 3 → W.cell? ⟨4, i, none⟩ = some (.int .i64 (mel4.getD i 0))) :
    Calls Tryz.prog 4 #[.agg #[.int .i64 n0, .int .i64 n1, .int .i64 n2, .int .i64 n3, .int .i64 n4]] W fun e w' => e = .returned (.bool true) ∧ Below W.heap.size W w' := by
  obtain ⟨c0, g0, e0⟩ := turnI_range n0 (3) (by omega)
  obtain ⟨c1, g1, e1⟩ := turnI_range n1 (2) (by omega)
  obtain ⟨c2, g2, e2⟩ := turnI_range n2 (2) (by omega)
  obtain ⟨c3, g3, e3⟩ := turnI_range n3 (2) (by omega)
  obtain ⟨c4, g4, e4⟩ := turnI_range n4 (6) (by omega)
  have kp := mekpos c0 c1 c2 c3 c4 g0 g1 g2 g3
  obtain ⟨q0, q1, q2, q3, q4⟩ := kp
  obtain ⟨j, I, ha⟩ := mestart n0 n1 n2 n3 n4 c0 c1 c2 c3 c4 W h1 h3 h0 h4 q0 e0 q1 e1 q2 e2 q3 e3 q4 e4
  have H : (mecase c0 c1 c2 c3 c4).holds EE := meall _ (memem c0 g0 c1 g1 c2 g2 c3 g3 c4 g4)
  have := (H.2 ⟨_, W, I⟩).2 _ W I
  rw [ha] at this
  refine (callsIn_wide.1 this).mono fun e w' ⟨j2, he, A⟩ => ⟨?_, A.os, A.tape, A.output, A.size, A.heap⟩
  rw [he]; rfl
end Go.Proofs.YtmjpnohpmfmdlaaGreatDoor
