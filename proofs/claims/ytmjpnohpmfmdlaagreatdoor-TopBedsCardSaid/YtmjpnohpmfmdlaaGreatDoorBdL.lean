/- The law's call, whatever the numbers. No conditions. -/
import Derived.Test.YtmjpnohpmfmdlaaGreatDoorBdC0
import Derived.Test.YtmjpnohpmfmdlaaGreatDoorBdC1
import Derived.Test.YtmjpnohpmfmdlaaGreatDoorBdC2
import Derived.Test.YtmjpnohpmfmdlaaGreatDoorBdC3
set_option linter.all false
namespace Go.Proofs.YtmjpnohpmfmdlaaGreatDoor
open Go.RowKit
open Go.Ai
set_option maxRecDepth 1000000
noncomputable def bdcase (c0 c1 c2 c3 c4 : Nat) : Ent := ⟨5, [.agg ⟨[.chan (some 6), .chan (some 7), .chan (some 8), .chan (some 9), .chan (some 10)]⟩], 11, bdG ++ [(6, .res (2) c0), (7, .res (3) c1), (8, .res (2) c2), (9, .res (3) c3), (10, .res (5) c4)], [], .bool true⟩
def bdlist : List (List Nat) := [[0, 0, 0, 0, 0], [0, 0, 0, 0, 1], [0, 0, 0, 0, 2], [0, 0, 0, 0, 3], [0, 0, 0, 0, 4], [0, 0, 0, 1, 0], [0, 0, 0, 1, 1], [0, 0, 0, 1, 2], [0, 0, 0, 1, 3], [0, 0, 0, 1, 4], [0, 0, 0, 2, 0], [0, 0, 0, 2, 1], [0, 0, 0, 2, 2], [0, 0, 0, 2, 3], [0, 0, 0, 2, 4], [0, 0, 1, 0, 0], [0, 0, 1, 0, 1], [0, 0, 1, 0, 2], [0, 0, 1, 0, 3], [0, 0, 1, 0, 4], [0, 0, 1, 1, 0], [0, 0, 1, 1, 1], [0, 0, 1, 1, 2], [0, 0, 1, 1, 3], [0, 0, 1, 1, 4], [0, 0, 1, 2, 0], [0, 0, 1, 2, 1], [0, 0, 1, 2, 2], [0, 0, 1, 2, 3], [0, 0, 1, 2, 4], [0, 1, 0, 0, 0], [0, 1, 0, 0, 1], [0, 1, 0, 0, 2], [0, 1, 0, 0, 3], [0, 1, 0, 0, 4], [0, 1, 0, 1, 0], [0, 1, 0, 1, 1], [0, 1, 0, 1, 2], [0, 1, 0, 1, 3], [0, 1, 0, 1, 4], [0, 1, 0, 2, 0], [0, 1, 0, 2, 1], [0, 1, 0, 2, 2], [0, 1, 0, 2, 3], [0, 1, 0, 2, 4], [0, 1, 1, 0, 0], [0, 1, 1, 0, 1], [0, 1, 1, 0, 2], [0, 1, 1, 0, 3], [0, 1, 1, 0, 4], [0, 1, 1, 1, 0], [0, 1, 1, 1, 1], [0, 1, 1, 1, 2], [0, 1, 1, 1, 3], [0, 1, 1, 1, 4], [0, 1, 1, 2, 0], [0, 1, 1, 2, 1], [0, 1, 1, 2, 2], [0, 1, 1, 2, 3], [0, 1, 1, 2, 4], [0, 2, 0, 0, 0], [0, 2, 0, 0, 1], [0, 2, 0, 0, 2], [0, 2, 0, 0, 3], [0, 2, 0, 0, 4], [0, 2, 0, 1, 0], [0, 2, 0, 1, 1], [0, 2, 0, 1, 2], [0, 2, 0, 1, 3], [0, 2, 0, 1, 4], [0, 2, 0, 2, 0], [0, 2, 0, 2, 1], [0, 2, 0, 2, 2], [0, 2, 0, 2, 3], [0, 2, 0, 2, 4], [0, 2, 1, 0, 0], [0, 2, 1, 0, 1], [0, 2, 1, 0, 2], [0, 2, 1, 0, 3], [0, 2, 1, 0, 4], [0, 2, 1, 1, 0], [0, 2, 1, 1, 1], [0, 2, 1, 1, 2], [0, 2, 1, 1, 3], [0, 2, 1, 1, 4], [0, 2, 1, 2, 0], [0, 2, 1, 2, 1], [0, 2, 1, 2, 2], [0, 2, 1, 2, 3], [0, 2, 1, 2, 4], [1, 0, 0, 0, 0], [1, 0, 0, 0, 1], [1, 0, 0, 0, 2], [1, 0, 0, 0, 3], [1, 0, 0, 0, 4], [1, 0, 0, 1, 0], [1, 0, 0, 1, 1], [1, 0, 0, 1, 2], [1, 0, 0, 1, 3], [1, 0, 0, 1, 4], [1, 0, 0, 2, 0], [1, 0, 0, 2, 1], [1, 0, 0, 2, 2], [1, 0, 0, 2, 3], [1, 0, 0, 2, 4], [1, 0, 1, 0, 0], [1, 0, 1, 0, 1], [1, 0, 1, 0, 2], [1, 0, 1, 0, 3], [1, 0, 1, 0, 4], [1, 0, 1, 1, 0], [1, 0, 1, 1, 1], [1, 0, 1, 1, 2], [1, 0, 1, 1, 3], [1, 0, 1, 1, 4], [1, 0, 1, 2, 0], [1, 0, 1, 2, 1], [1, 0, 1, 2, 2], [1, 0, 1, 2, 3], [1, 0, 1, 2, 4], [1, 1, 0, 0, 0], [1, 1, 0, 0, 1], [1, 1, 0, 0, 2], [1, 1, 0, 0, 3], [1, 1, 0, 0, 4], [1, 1, 0, 1, 0], [1, 1, 0, 1, 1], [1, 1, 0, 1, 2], [1, 1, 0, 1, 3], [1, 1, 0, 1, 4], [1, 1, 0, 2, 0], [1, 1, 0, 2, 1], [1, 1, 0, 2, 2], [1, 1, 0, 2, 3], [1, 1, 0, 2, 4], [1, 1, 1, 0, 0], [1, 1, 1, 0, 1], [1, 1, 1, 0, 2], [1, 1, 1, 0, 3], [1, 1, 1, 0, 4], [1, 1, 1, 1, 0], [1, 1, 1, 1, 1], [1, 1, 1, 1, 2], [1, 1, 1, 1, 3], [1, 1, 1, 1, 4], [1, 1, 1, 2, 0], [1, 1, 1, 2, 1], [1, 1, 1, 2, 2], [1, 1, 1, 2, 3], [1, 1, 1, 2, 4], [1, 2, 0, 0, 0], [1, 2, 0, 0, 1], [1, 2, 0, 0, 2], [1, 2, 0, 0, 3], [1, 2, 0, 0, 4], [1, 2, 0, 1, 0], [1, 2, 0, 1, 1], [1, 2, 0, 1, 2], [1, 2, 0, 1, 3], [1, 2, 0, 1, 4], [1, 2, 0, 2, 0], [1, 2, 0, 2, 1], [1, 2, 0, 2, 2], [1, 2, 0, 2, 3], [1, 2, 0, 2, 4], [1, 2, 1, 0, 0], [1, 2, 1, 0, 1], [1, 2, 1, 0, 2], [1, 2, 1, 0, 3], [1, 2, 1, 0, 4], [1, 2, 1, 1, 0], [1, 2, 1, 1, 1], [1, 2, 1, 1, 2], [1, 2, 1, 1, 3], [1, 2, 1, 1, 4], [1, 2, 1, 2, 0], [1, 2, 1, 2, 1], [1, 2, 1, 2, 2], [1, 2, 1, 2, 3], [1, 2, 1, 2, 4]]
def bdnth (c : List Nat) (i : Nat) : Nat := match c, i with | [], _ => 0 | x :: _, 0 => x | _ :: l, i + 1 => bdnth l i
theorem bdall : ∀ c ∈ bdlist, (bdcase (bdnth c 0) (bdnth c 1) (bdnth c 2) (bdnth c 3) (bdnth c 4)).holds EE :=
  List.forall_mem_cons.2 ⟨bdc0_h,
  List.forall_mem_cons.2 ⟨bdc1_h,
  List.forall_mem_cons.2 ⟨bdc2_h,
  List.forall_mem_cons.2 ⟨bdc3_h,
  List.forall_mem_cons.2 ⟨bdc4_h,
  List.forall_mem_cons.2 ⟨bdc5_h,
  List.forall_mem_cons.2 ⟨bdc6_h,
  List.forall_mem_cons.2 ⟨bdc7_h,
  List.forall_mem_cons.2 ⟨bdc8_h,
  List.forall_mem_cons.2 ⟨bdc9_h,
  List.forall_mem_cons.2 ⟨bdc10_h,
  List.forall_mem_cons.2 ⟨bdc11_h,
  List.forall_mem_cons.2 ⟨bdc12_h,
  List.forall_mem_cons.2 ⟨bdc13_h,
  List.forall_mem_cons.2 ⟨bdc14_h,
  List.forall_mem_cons.2 ⟨bdc15_h,
  List.forall_mem_cons.2 ⟨bdc16_h,
  List.forall_mem_cons.2 ⟨bdc17_h,
  List.forall_mem_cons.2 ⟨bdc18_h,
  List.forall_mem_cons.2 ⟨bdc19_h,
  List.forall_mem_cons.2 ⟨bdc20_h,
  List.forall_mem_cons.2 ⟨bdc21_h,
  List.forall_mem_cons.2 ⟨bdc22_h,
  List.forall_mem_cons.2 ⟨bdc23_h,
  List.forall_mem_cons.2 ⟨bdc24_h,
  List.forall_mem_cons.2 ⟨bdc25_h,
  List.forall_mem_cons.2 ⟨bdc26_h,
  List.forall_mem_cons.2 ⟨bdc27_h,
  List.forall_mem_cons.2 ⟨bdc28_h,
  List.forall_mem_cons.2 ⟨bdc29_h,
  List.forall_mem_cons.2 ⟨bdc30_h,
  List.forall_mem_cons.2 ⟨bdc31_h,
  List.forall_mem_cons.2 ⟨bdc32_h,
  List.forall_mem_cons.2 ⟨bdc33_h,
  List.forall_mem_cons.2 ⟨bdc34_h,
  List.forall_mem_cons.2 ⟨bdc35_h,
  List.forall_mem_cons.2 ⟨bdc36_h,
  List.forall_mem_cons.2 ⟨bdc37_h,
  List.forall_mem_cons.2 ⟨bdc38_h,
  List.forall_mem_cons.2 ⟨bdc39_h,
  List.forall_mem_cons.2 ⟨bdc40_h,
  List.forall_mem_cons.2 ⟨bdc41_h,
  List.forall_mem_cons.2 ⟨bdc42_h,
  List.forall_mem_cons.2 ⟨bdc43_h,
  List.forall_mem_cons.2 ⟨bdc44_h,
  List.forall_mem_cons.2 ⟨bdc45_h,
  List.forall_mem_cons.2 ⟨bdc46_h,
  List.forall_mem_cons.2 ⟨bdc47_h,
  List.forall_mem_cons.2 ⟨bdc48_h,
  List.forall_mem_cons.2 ⟨bdc49_h,
  List.forall_mem_cons.2 ⟨bdc50_h,
  List.forall_mem_cons.2 ⟨bdc51_h,
  List.forall_mem_cons.2 ⟨bdc52_h,
  List.forall_mem_cons.2 ⟨bdc53_h,
  List.forall_mem_cons.2 ⟨bdc54_h,
  List.forall_mem_cons.2 ⟨bdc55_h,
  List.forall_mem_cons.2 ⟨bdc56_h,
  List.forall_mem_cons.2 ⟨bdc57_h,
  List.forall_mem_cons.2 ⟨bdc58_h,
  List.forall_mem_cons.2 ⟨bdc59_h,
  List.forall_mem_cons.2 ⟨bdc60_h,
  List.forall_mem_cons.2 ⟨bdc61_h,
  List.forall_mem_cons.2 ⟨bdc62_h,
  List.forall_mem_cons.2 ⟨bdc63_h,
  List.forall_mem_cons.2 ⟨bdc64_h,
  List.forall_mem_cons.2 ⟨bdc65_h,
  List.forall_mem_cons.2 ⟨bdc66_h,
  List.forall_mem_cons.2 ⟨bdc67_h,
  List.forall_mem_cons.2 ⟨bdc68_h,
  List.forall_mem_cons.2 ⟨bdc69_h,
  List.forall_mem_cons.2 ⟨bdc70_h,
  List.forall_mem_cons.2 ⟨bdc71_h,
  List.forall_mem_cons.2 ⟨bdc72_h,
  List.forall_mem_cons.2 ⟨bdc73_h,
  List.forall_mem_cons.2 ⟨bdc74_h,
  List.forall_mem_cons.2 ⟨bdc75_h,
  List.forall_mem_cons.2 ⟨bdc76_h,
  List.forall_mem_cons.2 ⟨bdc77_h,
  List.forall_mem_cons.2 ⟨bdc78_h,
  List.forall_mem_cons.2 ⟨bdc79_h,
  List.forall_mem_cons.2 ⟨bdc80_h,
  List.forall_mem_cons.2 ⟨bdc81_h,
  List.forall_mem_cons.2 ⟨bdc82_h,
  List.forall_mem_cons.2 ⟨bdc83_h,
  List.forall_mem_cons.2 ⟨bdc84_h,
  List.forall_mem_cons.2 ⟨bdc85_h,
  List.forall_mem_cons.2 ⟨bdc86_h,
  List.forall_mem_cons.2 ⟨bdc87_h,
  List.forall_mem_cons.2 ⟨bdc88_h,
  List.forall_mem_cons.2 ⟨bdc89_h,
  List.forall_mem_cons.2 ⟨bdc90_h,
  List.forall_mem_cons.2 ⟨bdc91_h,
  List.forall_mem_cons.2 ⟨bdc92_h,
  List.forall_mem_cons.2 ⟨bdc93_h,
  List.forall_mem_cons.2 ⟨bdc94_h,
  List.forall_mem_cons.2 ⟨bdc95_h,
  List.forall_mem_cons.2 ⟨bdc96_h,
  List.forall_mem_cons.2 ⟨bdc97_h,
  List.forall_mem_cons.2 ⟨bdc98_h,
  List.forall_mem_cons.2 ⟨bdc99_h,
  List.forall_mem_cons.2 ⟨bdc100_h,
  List.forall_mem_cons.2 ⟨bdc101_h,
  List.forall_mem_cons.2 ⟨bdc102_h,
  List.forall_mem_cons.2 ⟨bdc103_h,
  List.forall_mem_cons.2 ⟨bdc104_h,
  List.forall_mem_cons.2 ⟨bdc105_h,
  List.forall_mem_cons.2 ⟨bdc106_h,
  List.forall_mem_cons.2 ⟨bdc107_h,
  List.forall_mem_cons.2 ⟨bdc108_h,
  List.forall_mem_cons.2 ⟨bdc109_h,
  List.forall_mem_cons.2 ⟨bdc110_h,
  List.forall_mem_cons.2 ⟨bdc111_h,
  List.forall_mem_cons.2 ⟨bdc112_h,
  List.forall_mem_cons.2 ⟨bdc113_h,
  List.forall_mem_cons.2 ⟨bdc114_h,
  List.forall_mem_cons.2 ⟨bdc115_h,
  List.forall_mem_cons.2 ⟨bdc116_h,
  List.forall_mem_cons.2 ⟨bdc117_h,
  List.forall_mem_cons.2 ⟨bdc118_h,
  List.forall_mem_cons.2 ⟨bdc119_h,
  List.forall_mem_cons.2 ⟨bdc120_h,
  List.forall_mem_cons.2 ⟨bdc121_h,
  List.forall_mem_cons.2 ⟨bdc122_h,
  List.forall_mem_cons.2 ⟨bdc123_h,
  List.forall_mem_cons.2 ⟨bdc124_h,
  List.forall_mem_cons.2 ⟨bdc125_h,
  List.forall_mem_cons.2 ⟨bdc126_h,
  List.forall_mem_cons.2 ⟨bdc127_h,
  List.forall_mem_cons.2 ⟨bdc128_h,
  List.forall_mem_cons.2 ⟨bdc129_h,
  List.forall_mem_cons.2 ⟨bdc130_h,
  List.forall_mem_cons.2 ⟨bdc131_h,
  List.forall_mem_cons.2 ⟨bdc132_h,
  List.forall_mem_cons.2 ⟨bdc133_h,
  List.forall_mem_cons.2 ⟨bdc134_h,
  List.forall_mem_cons.2 ⟨bdc135_h,
  List.forall_mem_cons.2 ⟨bdc136_h,
  List.forall_mem_cons.2 ⟨bdc137_h,
  List.forall_mem_cons.2 ⟨bdc138_h,
  List.forall_mem_cons.2 ⟨bdc139_h,
  List.forall_mem_cons.2 ⟨bdc140_h,
  List.forall_mem_cons.2 ⟨bdc141_h,
  List.forall_mem_cons.2 ⟨bdc142_h,
  List.forall_mem_cons.2 ⟨bdc143_h,
  List.forall_mem_cons.2 ⟨bdc144_h,
  List.forall_mem_cons.2 ⟨bdc145_h,
  List.forall_mem_cons.2 ⟨bdc146_h,
  List.forall_mem_cons.2 ⟨bdc147_h,
  List.forall_mem_cons.2 ⟨bdc148_h,
  List.forall_mem_cons.2 ⟨bdc149_h,
  List.forall_mem_cons.2 ⟨bdc150_h,
  List.forall_mem_cons.2 ⟨bdc151_h,
  List.forall_mem_cons.2 ⟨bdc152_h,
  List.forall_mem_cons.2 ⟨bdc153_h,
  List.forall_mem_cons.2 ⟨bdc154_h,
  List.forall_mem_cons.2 ⟨bdc155_h,
  List.forall_mem_cons.2 ⟨bdc156_h,
  List.forall_mem_cons.2 ⟨bdc157_h,
  List.forall_mem_cons.2 ⟨bdc158_h,
  List.forall_mem_cons.2 ⟨bdc159_h,
  List.forall_mem_cons.2 ⟨bdc160_h,
  List.forall_mem_cons.2 ⟨bdc161_h,
  List.forall_mem_cons.2 ⟨bdc162_h,
  List.forall_mem_cons.2 ⟨bdc163_h,
  List.forall_mem_cons.2 ⟨bdc164_h,
  List.forall_mem_cons.2 ⟨bdc165_h,
  List.forall_mem_cons.2 ⟨bdc166_h,
  List.forall_mem_cons.2 ⟨bdc167_h,
  List.forall_mem_cons.2 ⟨bdc168_h,
  List.forall_mem_cons.2 ⟨bdc169_h,
  List.forall_mem_cons.2 ⟨bdc170_h,
  List.forall_mem_cons.2 ⟨bdc171_h,
  List.forall_mem_cons.2 ⟨bdc172_h,
  List.forall_mem_cons.2 ⟨bdc173_h,
  List.forall_mem_cons.2 ⟨bdc174_h,
  List.forall_mem_cons.2 ⟨bdc175_h,
  List.forall_mem_cons.2 ⟨bdc176_h,
  List.forall_mem_cons.2 ⟨bdc177_h,
  List.forall_mem_cons.2 ⟨bdc178_h,
  List.forall_mem_cons.2 ⟨bdc179_h,
  (fun _ h => by cases h)⟩⟩⟩⟩⟩⟩⟩⟩⟩⟩⟩⟩⟩⟩⟩⟩⟩⟩⟩⟩⟩⟩⟩⟩⟩⟩⟩⟩⟩⟩⟩⟩⟩⟩⟩⟩⟩⟩⟩⟩⟩⟩⟩⟩⟩⟩⟩⟩⟩⟩⟩⟩⟩⟩⟩⟩⟩⟩⟩⟩⟩⟩⟩⟩⟩⟩⟩⟩⟩⟩⟩⟩⟩⟩⟩⟩⟩⟩⟩⟩⟩⟩⟩⟩⟩⟩⟩⟩⟩⟩⟩⟩⟩⟩⟩⟩⟩⟩⟩⟩⟩⟩⟩⟩⟩⟩⟩⟩⟩⟩⟩⟩⟩⟩⟩⟩⟩⟩⟩⟩⟩⟩⟩⟩⟩⟩⟩⟩⟩⟩⟩⟩⟩⟩⟩⟩⟩⟩⟩⟩⟩⟩⟩⟩⟩⟩⟩⟩⟩⟩⟩⟩⟩⟩⟩⟩⟩⟩⟩⟩⟩⟩⟩⟩⟩⟩⟩⟩⟩⟩⟩⟩⟩⟩⟩⟩⟩⟩⟩⟩
theorem bdmem : ∀ c0 < 2, ∀ c1 < 3, ∀ c2 < 2, ∀ c3 < 3, ∀ c4 < 5, [c0, c1, c2, c3, c4] ∈ bdlist := by
  have h : ((List.range (2)).all fun c0 => (List.range (3)).all fun c1 => (List.range (2)).all fun c2 => (List.range (3)).all fun c3 => (List.range (5)).all fun c4 => bdlist.contains [c0, c1, c2, c3, c4]) = true := by kernel_rfl
  intro c0 g0 c1 g1 c2 g2 c3 g3 c4 g4
  have h := List.all_eq_true.1 h c0 (List.mem_range.2 g0)
  have h := List.all_eq_true.1 h c1 (List.mem_range.2 g1)
  have h := List.all_eq_true.1 h c2 (List.mem_range.2 g2)
  have h := List.all_eq_true.1 h c3 (List.mem_range.2 g3)
  have h := List.all_eq_true.1 h c4 (List.mem_range.2 g4)
  simpa using h
theorem bdkpos (c0 c1 c2 c3 c4 : Nat) (h0 : c0 < 2) (h1 : c1 < 3) (h2 : c2 < 2) (h3 : c3 < 3) : (1 ≤ 2 ∧ 2 ≤ 1000) ∧ (1 ≤ 3 ∧ 3 ≤ 1000) ∧ (1 ≤ 2 ∧ 2 ≤ 1000) ∧ (1 ≤ 3 ∧ 3 ≤ 1000) ∧ (1 ≤ 5 ∧ 5 ≤ 1000) := by
  refine ⟨?_, ?_, ?_, ?_, ?_⟩ <;> omega
def bdl2 : List Int := [(-301), (-301)]
def bdl1 : List Int := [(-1), (-1)]
def bdl3 : List Int := [6, 6, 6, 6, 6]
def bdl5 : List Int := [(-1), (-1), (-1)]
theorem bdstart (n0 n1 n2 n3 n4 : Int) (c0 c1 c2 c3 c4 : Nat) (W : World) (h2 : ∀ i, i < 2 → W.cell? ⟨2, i, none⟩ = some (.int .i64 (bdl2.getD i 0))) (h1 : ∀ i, i < 2 → W.cell? ⟨1, i, none⟩ = some (.int .i64 (bdl1.getD i 0))) (h3 : ∀ i, i < 5 → W.cell? ⟨3, i, none⟩ = some (.int .i64 (bdl3.getD i 0))) (h5 : ∀ i, i < 3 → W.cell? ⟨5, i, none⟩ = some (.int .i64 (bdl5.getD i 0)))
    (q0 : 1 ≤ 2 ∧ 2 ≤ 1000) (e0 : turnI n0 ((2 : Nat) : Int) = (c0 : Int)) (q1 : 1 ≤ 3 ∧ 3 ≤ 1000) (e1 : turnI n1 ((3 : Nat) : Int) = (c1 : Int)) (q2 : 1 ≤ 2 ∧ 2 ≤ 1000) (e2 : turnI n2 ((2 : Nat) : Int) = (c2 : Int)) (q3 : 1 ≤ 3 ∧ 3 ≤ 1000) (e3 : turnI n3 ((3 : Nat) : Int) = (c3 : Int)) (q4 : 1 ≤ 5 ∧ 5 ≤ 1000) (e4 : turnI n4 ((5 : Nat) : Int) = (c4 : Int)) :
    ∃ j : Nat → RB, Inv 6 j (bdcase c0 c1 c2 c3 c4).heap W ∧ (bdcase c0 c1 c2 c3 c4).args.map (conc j) = [.agg #[.int .i64 n0, .int .i64 n1, .int .i64 n2, .int .i64 n3, .int .i64 n4]] := by
  have I := start_tok (G := 6) (blks := bdG) (toks := [(2, c0, n0), (3, c1, n1), (2, c2, n2), (3, c3, n3), (5, c4, n4)]) (W := W) (fun x hx => by
      have h : bdG.all (fun p => Nat.blt p.1 6) = true := by kernel_rfl
      have := List.all_eq_true.1 h x hx
      simpa [Nat.blt_eq] using this) (by decide) (show 6 + 5 < 2 ^ 62 by decide) (fun b x hx => by
    simp only [bdG, List.mem_cons, List.not_mem_nil, or_false, Prod.mk.injEq] at hx
    rcases hx with ⟨rfl, rfl⟩ | ⟨rfl, rfl⟩ | ⟨rfl, rfl⟩ | ⟨rfl, rfl⟩ | ⟨rfl, rfl⟩ | ⟨rfl, rfl⟩
    · exact .inl rfl
    · refine .inr ⟨_, rfl, by decide, fun i v hv => ?_, lt_of_cell (h1 0 (by omega))⟩
      match i, hv with
      | 0, hv => cases hv; exact h1 0 (by omega)
      | 1, hv => cases hv; exact h1 1 (by omega)
    · refine .inr ⟨_, rfl, by decide, fun i v hv => ?_, lt_of_cell (h2 0 (by omega))⟩
      match i, hv with
      | 0, hv => cases hv; exact h2 0 (by omega)
      | 1, hv => cases hv; exact h2 1 (by omega)
    · refine .inr ⟨_, rfl, by decide, fun i v hv => ?_, lt_of_cell (h3 0 (by omega))⟩
      match i, hv with
      | 0, hv => cases hv; exact h3 0 (by omega)
      | 1, hv => cases hv; exact h3 1 (by omega)
      | 2, hv => cases hv; exact h3 2 (by omega)
      | 3, hv => cases hv; exact h3 3 (by omega)
      | 4, hv => cases hv; exact h3 4 (by omega)
    · exact .inl rfl
    · refine .inr ⟨_, rfl, by decide, fun i v hv => ?_, lt_of_cell (h5 0 (by omega))⟩
      match i, hv with
      | 0, hv => cases hv; exact h5 0 (by omega)
      | 1, hv => cases hv; exact h5 1 (by omega)
      | 2, hv => cases hv; exact h5 2 (by omega)) (fun t ht => by
    simp only [List.mem_cons, List.not_mem_nil, or_false] at ht
    rcases ht with rfl | rfl | rfl | rfl | rfl
    · exact ⟨q0.1, q0.2, e0⟩
    · exact ⟨q1.1, q1.2, e1⟩
    · exact ⟨q2.1, q2.2, e2⟩
    · exact ⟨q3.1, q3.2, e3⟩
    · exact ⟨q4.1, q4.2, e4⟩)
  refine ⟨_, I, ?_⟩
  show [Value.agg ⟨[.int .i64 (dec (enc n0)), .int .i64 (dec (enc n1)), .int .i64 (dec (enc n2)), .int .i64 (dec (enc n3)), .int .i64 (dec (enc n4))]⟩] = _
  simp only [dec_enc]
theorem bdcalls (n0 n1 n2 n3 n4 : Int) (W : World) (h2 : ∀ i, i < 2 → W.cell? ⟨2, i, none⟩ = some (.int .i64 (bdl2.getD i 0))) (h1 : ∀ i, i < 2 → W.cell? ⟨1, i, none⟩ = some (.int .i64 (bdl1.getD i 0))) (h3 : ∀ i, i < 5 → W.cell? ⟨3, i, none⟩ = some (.int .i64 (bdl3.getD i 0))) (h5 : ∀ i, i < 3 → W.cell? ⟨5, i, none⟩ = some (.int .i64 (bdl5.getD i 0))) :
    Calls Tryz.prog 5 #[.agg #[.int .i64 n0, .int .i64 n1, .int .i64 n2, .int .i64 n3, .int .i64 n4]] W fun e w' => e = .returned (.bool true) ∧ Below W.heap.size W w' := by
  obtain ⟨c0, g0, e0⟩ := turnI_range n0 (2) (by omega)
  obtain ⟨c1, g1, e1⟩ := turnI_range n1 (3) (by omega)
  obtain ⟨c2, g2, e2⟩ := turnI_range n2 (2) (by omega)
  obtain ⟨c3, g3, e3⟩ := turnI_range n3 (3) (by omega)
  obtain ⟨c4, g4, e4⟩ := turnI_range n4 (5) (by omega)
  have kp := bdkpos c0 c1 c2 c3 c4 g0 g1 g2 g3
  obtain ⟨q0, q1, q2, q3, q4⟩ := kp
  obtain ⟨j, I, ha⟩ := bdstart n0 n1 n2 n3 n4 c0 c1 c2 c3 c4 W h2 h1 h3 h5 q0 e0 q1 e1 q2 e2 q3 e3 q4 e4
  have H : (bdcase c0 c1 c2 c3 c4).holds EE := bdall _ (bdmem c0 g0 c1 g1 c2 g2 c3 g3 c4 g4)
  have := (H.2 ⟨_, W, I⟩).2 _ W I
  rw [ha] at this
  refine (callsIn_wide.1 this).mono fun e w' ⟨j2, he, A⟩ => ⟨?_, A.os, A.tape, A.output, A.size, A.heap⟩
  rw [he]; rfl
end Go.Proofs.YtmjpnohpmfmdlaaGreatDoor
