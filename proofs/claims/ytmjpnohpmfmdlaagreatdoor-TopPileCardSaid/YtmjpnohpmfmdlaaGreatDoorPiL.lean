/- The law's call, whatever the numbers. No conditions. -/
import Derived.Test.YtmjpnohpmfmdlaaGreatDoorPiC0
import Derived.Test.YtmjpnohpmfmdlaaGreatDoorPiC1
import Derived.Test.YtmjpnohpmfmdlaaGreatDoorPiC2
import Derived.Test.YtmjpnohpmfmdlaaGreatDoorPiC3
set_option linter.all false
namespace Go.Proofs.YtmjpnohpmfmdlaaGreatDoor
open Go.RowKit
open Go.Ai
set_option maxRecDepth 1000000
noncomputable def picase (c0 c1 c2 c3 : Nat) : Ent := ⟨3, [.agg ⟨[.chan (some 6), .chan (some 7), .chan (some 8), .chan (some 9)]⟩], 10, piG ++ [(6, .res (6) c0), (7, .res (4) c1), (8, .res (1 + c0) c2), (9, .res (1 + c1) c3)], [], .bool true⟩
def pilist : List (List Nat) := [[0, 0, 0, 0], [0, 1, 0, 0], [0, 1, 0, 1], [0, 2, 0, 0], [0, 2, 0, 1], [0, 2, 0, 2], [0, 3, 0, 0], [0, 3, 0, 1], [0, 3, 0, 2], [0, 3, 0, 3], [1, 0, 0, 0], [1, 0, 1, 0], [1, 1, 0, 0], [1, 1, 0, 1], [1, 1, 1, 0], [1, 1, 1, 1], [1, 2, 0, 0], [1, 2, 0, 1], [1, 2, 0, 2], [1, 2, 1, 0], [1, 2, 1, 1], [1, 2, 1, 2], [1, 3, 0, 0], [1, 3, 0, 1], [1, 3, 0, 2], [1, 3, 0, 3], [1, 3, 1, 0], [1, 3, 1, 1], [1, 3, 1, 2], [1, 3, 1, 3], [2, 0, 0, 0], [2, 0, 1, 0], [2, 0, 2, 0], [2, 1, 0, 0], [2, 1, 0, 1], [2, 1, 1, 0], [2, 1, 1, 1], [2, 1, 2, 0], [2, 1, 2, 1], [2, 2, 0, 0], [2, 2, 0, 1], [2, 2, 0, 2], [2, 2, 1, 0], [2, 2, 1, 1], [2, 2, 1, 2], [2, 2, 2, 0], [2, 2, 2, 1], [2, 2, 2, 2], [2, 3, 0, 0], [2, 3, 0, 1], [2, 3, 0, 2], [2, 3, 0, 3], [2, 3, 1, 0], [2, 3, 1, 1], [2, 3, 1, 2], [2, 3, 1, 3], [2, 3, 2, 0], [2, 3, 2, 1], [2, 3, 2, 2], [2, 3, 2, 3], [3, 0, 0, 0], [3, 0, 1, 0], [3, 0, 2, 0], [3, 0, 3, 0], [3, 1, 0, 0], [3, 1, 0, 1], [3, 1, 1, 0], [3, 1, 1, 1], [3, 1, 2, 0], [3, 1, 2, 1], [3, 1, 3, 0], [3, 1, 3, 1], [3, 2, 0, 0], [3, 2, 0, 1], [3, 2, 0, 2], [3, 2, 1, 0], [3, 2, 1, 1], [3, 2, 1, 2], [3, 2, 2, 0], [3, 2, 2, 1], [3, 2, 2, 2], [3, 2, 3, 0], [3, 2, 3, 1], [3, 2, 3, 2], [3, 3, 0, 0], [3, 3, 0, 1], [3, 3, 0, 2], [3, 3, 0, 3], [3, 3, 1, 0], [3, 3, 1, 1], [3, 3, 1, 2], [3, 3, 1, 3], [3, 3, 2, 0], [3, 3, 2, 1], [3, 3, 2, 2], [3, 3, 2, 3], [3, 3, 3, 0], [3, 3, 3, 1], [3, 3, 3, 2], [3, 3, 3, 3], [4, 0, 0, 0], [4, 0, 1, 0], [4, 0, 2, 0], [4, 0, 3, 0], [4, 0, 4, 0], [4, 1, 0, 0], [4, 1, 0, 1], [4, 1, 1, 0], [4, 1, 1, 1], [4, 1, 2, 0], [4, 1, 2, 1], [4, 1, 3, 0], [4, 1, 3, 1], [4, 1, 4, 0], [4, 1, 4, 1], [4, 2, 0, 0], [4, 2, 0, 1], [4, 2, 0, 2], [4, 2, 1, 0], [4, 2, 1, 1], [4, 2, 1, 2], [4, 2, 2, 0], [4, 2, 2, 1], [4, 2, 2, 2], [4, 2, 3, 0], [4, 2, 3, 1], [4, 2, 3, 2], [4, 2, 4, 0], [4, 2, 4, 1], [4, 2, 4, 2], [4, 3, 0, 0], [4, 3, 0, 1], [4, 3, 0, 2], [4, 3, 0, 3], [4, 3, 1, 0], [4, 3, 1, 1], [4, 3, 1, 2], [4, 3, 1, 3], [4, 3, 2, 0], [4, 3, 2, 1], [4, 3, 2, 2], [4, 3, 2, 3], [4, 3, 3, 0], [4, 3, 3, 1], [4, 3, 3, 2], [4, 3, 3, 3], [4, 3, 4, 0], [4, 3, 4, 1], [4, 3, 4, 2], [4, 3, 4, 3], [5, 0, 0, 0], [5, 0, 1, 0], [5, 0, 2, 0], [5, 0, 3, 0], [5, 0, 4, 0], [5, 0, 5, 0], [5, 1, 0, 0], [5, 1, 0, 1], [5, 1, 1, 0], [5, 1, 1, 1], [5, 1, 2, 0], [5, 1, 2, 1], [5, 1, 3, 0], [5, 1, 3, 1], [5, 1, 4, 0], [5, 1, 4, 1], [5, 1, 5, 0], [5, 1, 5, 1], [5, 2, 0, 0], [5, 2, 0, 1], [5, 2, 0, 2], [5, 2, 1, 0], [5, 2, 1, 1], [5, 2, 1, 2], [5, 2, 2, 0], [5, 2, 2, 1], [5, 2, 2, 2], [5, 2, 3, 0], [5, 2, 3, 1], [5, 2, 3, 2], [5, 2, 4, 0], [5, 2, 4, 1], [5, 2, 4, 2], [5, 2, 5, 0], [5, 2, 5, 1], [5, 2, 5, 2], [5, 3, 0, 0], [5, 3, 0, 1], [5, 3, 0, 2], [5, 3, 0, 3], [5, 3, 1, 0], [5, 3, 1, 1], [5, 3, 1, 2], [5, 3, 1, 3], [5, 3, 2, 0], [5, 3, 2, 1], [5, 3, 2, 2], [5, 3, 2, 3], [5, 3, 3, 0], [5, 3, 3, 1], [5, 3, 3, 2], [5, 3, 3, 3], [5, 3, 4, 0], [5, 3, 4, 1], [5, 3, 4, 2], [5, 3, 4, 3], [5, 3, 5, 0], [5, 3, 5, 1], [5, 3, 5, 2], [5, 3, 5, 3]]
def pinth (c : List Nat) (i : Nat) : Nat := match c, i with | [], _ => 0 | x :: _, 0 => x | _ :: l, i + 1 => pinth l i
theorem piall : ∀ c ∈ pilist, (picase (pinth c 0) (pinth c 1) (pinth c 2) (pinth c 3)).holds EE :=
  List.forall_mem_cons.2 ⟨pic0_h,
  List.forall_mem_cons.2 ⟨pic1_h,
  List.forall_mem_cons.2 ⟨pic2_h,
  List.forall_mem_cons.2 ⟨pic3_h,
  List.forall_mem_cons.2 ⟨pic4_h,
  List.forall_mem_cons.2 ⟨pic5_h,
  List.forall_mem_cons.2 ⟨pic6_h,
  List.forall_mem_cons.2 ⟨pic7_h,
  List.forall_mem_cons.2 ⟨pic8_h,
  List.forall_mem_cons.2 ⟨pic9_h,
  List.forall_mem_cons.2 ⟨pic10_h,
  List.forall_mem_cons.2 ⟨pic11_h,
  List.forall_mem_cons.2 ⟨pic12_h,
  List.forall_mem_cons.2 ⟨pic13_h,
  List.forall_mem_cons.2 ⟨pic14_h,
  List.forall_mem_cons.2 ⟨pic15_h,
  List.forall_mem_cons.2 ⟨pic16_h,
  List.forall_mem_cons.2 ⟨pic17_h,
  List.forall_mem_cons.2 ⟨pic18_h,
  List.forall_mem_cons.2 ⟨pic19_h,
  List.forall_mem_cons.2 ⟨pic20_h,
  List.forall_mem_cons.2 ⟨pic21_h,
  List.forall_mem_cons.2 ⟨pic22_h,
  List.forall_mem_cons.2 ⟨pic23_h,
  List.forall_mem_cons.2 ⟨pic24_h,
  List.forall_mem_cons.2 ⟨pic25_h,
  List.forall_mem_cons.2 ⟨pic26_h,
  List.forall_mem_cons.2 ⟨pic27_h,
  List.forall_mem_cons.2 ⟨pic28_h,
  List.forall_mem_cons.2 ⟨pic29_h,
  List.forall_mem_cons.2 ⟨pic30_h,
  List.forall_mem_cons.2 ⟨pic31_h,
  List.forall_mem_cons.2 ⟨pic32_h,
  List.forall_mem_cons.2 ⟨pic33_h,
  List.forall_mem_cons.2 ⟨pic34_h,
  List.forall_mem_cons.2 ⟨pic35_h,
  List.forall_mem_cons.2 ⟨pic36_h,
  List.forall_mem_cons.2 ⟨pic37_h,
  List.forall_mem_cons.2 ⟨pic38_h,
  List.forall_mem_cons.2 ⟨pic39_h,
  List.forall_mem_cons.2 ⟨pic40_h,
  List.forall_mem_cons.2 ⟨pic41_h,
  List.forall_mem_cons.2 ⟨pic42_h,
  List.forall_mem_cons.2 ⟨pic43_h,
  List.forall_mem_cons.2 ⟨pic44_h,
  List.forall_mem_cons.2 ⟨pic45_h,
  List.forall_mem_cons.2 ⟨pic46_h,
  List.forall_mem_cons.2 ⟨pic47_h,
  List.forall_mem_cons.2 ⟨pic48_h,
  List.forall_mem_cons.2 ⟨pic49_h,
  List.forall_mem_cons.2 ⟨pic50_h,
  List.forall_mem_cons.2 ⟨pic51_h,
  List.forall_mem_cons.2 ⟨pic52_h,
  List.forall_mem_cons.2 ⟨pic53_h,
  List.forall_mem_cons.2 ⟨pic54_h,
  List.forall_mem_cons.2 ⟨pic55_h,
  List.forall_mem_cons.2 ⟨pic56_h,
  List.forall_mem_cons.2 ⟨pic57_h,
  List.forall_mem_cons.2 ⟨pic58_h,
  List.forall_mem_cons.2 ⟨pic59_h,
  List.forall_mem_cons.2 ⟨pic60_h,
  List.forall_mem_cons.2 ⟨pic61_h,
  List.forall_mem_cons.2 ⟨pic62_h,
  List.forall_mem_cons.2 ⟨pic63_h,
  List.forall_mem_cons.2 ⟨pic64_h,
  List.forall_mem_cons.2 ⟨pic65_h,
  List.forall_mem_cons.2 ⟨pic66_h,
  List.forall_mem_cons.2 ⟨pic67_h,
  List.forall_mem_cons.2 ⟨pic68_h,
  List.forall_mem_cons.2 ⟨pic69_h,
  List.forall_mem_cons.2 ⟨pic70_h,
  List.forall_mem_cons.2 ⟨pic71_h,
  List.forall_mem_cons.2 ⟨pic72_h,
  List.forall_mem_cons.2 ⟨pic73_h,
  List.forall_mem_cons.2 ⟨pic74_h,
  List.forall_mem_cons.2 ⟨pic75_h,
  List.forall_mem_cons.2 ⟨pic76_h,
  List.forall_mem_cons.2 ⟨pic77_h,
  List.forall_mem_cons.2 ⟨pic78_h,
  List.forall_mem_cons.2 ⟨pic79_h,
  List.forall_mem_cons.2 ⟨pic80_h,
  List.forall_mem_cons.2 ⟨pic81_h,
  List.forall_mem_cons.2 ⟨pic82_h,
  List.forall_mem_cons.2 ⟨pic83_h,
  List.forall_mem_cons.2 ⟨pic84_h,
  List.forall_mem_cons.2 ⟨pic85_h,
  List.forall_mem_cons.2 ⟨pic86_h,
  List.forall_mem_cons.2 ⟨pic87_h,
  List.forall_mem_cons.2 ⟨pic88_h,
  List.forall_mem_cons.2 ⟨pic89_h,
  List.forall_mem_cons.2 ⟨pic90_h,
  List.forall_mem_cons.2 ⟨pic91_h,
  List.forall_mem_cons.2 ⟨pic92_h,
  List.forall_mem_cons.2 ⟨pic93_h,
  List.forall_mem_cons.2 ⟨pic94_h,
  List.forall_mem_cons.2 ⟨pic95_h,
  List.forall_mem_cons.2 ⟨pic96_h,
  List.forall_mem_cons.2 ⟨pic97_h,
  List.forall_mem_cons.2 ⟨pic98_h,
  List.forall_mem_cons.2 ⟨pic99_h,
  List.forall_mem_cons.2 ⟨pic100_h,
  List.forall_mem_cons.2 ⟨pic101_h,
  List.forall_mem_cons.2 ⟨pic102_h,
  List.forall_mem_cons.2 ⟨pic103_h,
  List.forall_mem_cons.2 ⟨pic104_h,
  List.forall_mem_cons.2 ⟨pic105_h,
  List.forall_mem_cons.2 ⟨pic106_h,
  List.forall_mem_cons.2 ⟨pic107_h,
  List.forall_mem_cons.2 ⟨pic108_h,
  List.forall_mem_cons.2 ⟨pic109_h,
  List.forall_mem_cons.2 ⟨pic110_h,
  List.forall_mem_cons.2 ⟨pic111_h,
  List.forall_mem_cons.2 ⟨pic112_h,
  List.forall_mem_cons.2 ⟨pic113_h,
  List.forall_mem_cons.2 ⟨pic114_h,
  List.forall_mem_cons.2 ⟨pic115_h,
  List.forall_mem_cons.2 ⟨pic116_h,
  List.forall_mem_cons.2 ⟨pic117_h,
  List.forall_mem_cons.2 ⟨pic118_h,
  List.forall_mem_cons.2 ⟨pic119_h,
  List.forall_mem_cons.2 ⟨pic120_h,
  List.forall_mem_cons.2 ⟨pic121_h,
  List.forall_mem_cons.2 ⟨pic122_h,
  List.forall_mem_cons.2 ⟨pic123_h,
  List.forall_mem_cons.2 ⟨pic124_h,
  List.forall_mem_cons.2 ⟨pic125_h,
  List.forall_mem_cons.2 ⟨pic126_h,
  List.forall_mem_cons.2 ⟨pic127_h,
  List.forall_mem_cons.2 ⟨pic128_h,
  List.forall_mem_cons.2 ⟨pic129_h,
  List.forall_mem_cons.2 ⟨pic130_h,
  List.forall_mem_cons.2 ⟨pic131_h,
  List.forall_mem_cons.2 ⟨pic132_h,
  List.forall_mem_cons.2 ⟨pic133_h,
  List.forall_mem_cons.2 ⟨pic134_h,
  List.forall_mem_cons.2 ⟨pic135_h,
  List.forall_mem_cons.2 ⟨pic136_h,
  List.forall_mem_cons.2 ⟨pic137_h,
  List.forall_mem_cons.2 ⟨pic138_h,
  List.forall_mem_cons.2 ⟨pic139_h,
  List.forall_mem_cons.2 ⟨pic140_h,
  List.forall_mem_cons.2 ⟨pic141_h,
  List.forall_mem_cons.2 ⟨pic142_h,
  List.forall_mem_cons.2 ⟨pic143_h,
  List.forall_mem_cons.2 ⟨pic144_h,
  List.forall_mem_cons.2 ⟨pic145_h,
  List.forall_mem_cons.2 ⟨pic146_h,
  List.forall_mem_cons.2 ⟨pic147_h,
  List.forall_mem_cons.2 ⟨pic148_h,
  List.forall_mem_cons.2 ⟨pic149_h,
  List.forall_mem_cons.2 ⟨pic150_h,
  List.forall_mem_cons.2 ⟨pic151_h,
  List.forall_mem_cons.2 ⟨pic152_h,
  List.forall_mem_cons.2 ⟨pic153_h,
  List.forall_mem_cons.2 ⟨pic154_h,
  List.forall_mem_cons.2 ⟨pic155_h,
  List.forall_mem_cons.2 ⟨pic156_h,
  List.forall_mem_cons.2 ⟨pic157_h,
  List.forall_mem_cons.2 ⟨pic158_h,
  List.forall_mem_cons.2 ⟨pic159_h,
  List.forall_mem_cons.2 ⟨pic160_h,
  List.forall_mem_cons.2 ⟨pic161_h,
  List.forall_mem_cons.2 ⟨pic162_h,
  List.forall_mem_cons.2 ⟨pic163_h,
  List.forall_mem_cons.2 ⟨pic164_h,
  List.forall_mem_cons.2 ⟨pic165_h,
  List.forall_mem_cons.2 ⟨pic166_h,
  List.forall_mem_cons.2 ⟨pic167_h,
  List.forall_mem_cons.2 ⟨pic168_h,
  List.forall_mem_cons.2 ⟨pic169_h,
  List.forall_mem_cons.2 ⟨pic170_h,
  List.forall_mem_cons.2 ⟨pic171_h,
  List.forall_mem_cons.2 ⟨pic172_h,
  List.forall_mem_cons.2 ⟨pic173_h,
  List.forall_mem_cons.2 ⟨pic174_h,
  List.forall_mem_cons.2 ⟨pic175_h,
  List.forall_mem_cons.2 ⟨pic176_h,
  List.forall_mem_cons.2 ⟨pic177_h,
  List.forall_mem_cons.2 ⟨pic178_h,
  List.forall_mem_cons.2 ⟨pic179_h,
  List.forall_mem_cons.2 ⟨pic180_h,
  List.forall_mem_cons.2 ⟨pic181_h,
  List.forall_mem_cons.2 ⟨pic182_h,
  List.forall_mem_cons.2 ⟨pic183_h,
  List.forall_mem_cons.2 ⟨pic184_h,
  List.forall_mem_cons.2 ⟨pic185_h,
  List.forall_mem_cons.2 ⟨pic186_h,
  List.forall_mem_cons.2 ⟨pic187_h,
  List.forall_mem_cons.2 ⟨pic188_h,
  List.forall_mem_cons.2 ⟨pic189_h,
  List.forall_mem_cons.2 ⟨pic190_h,
  List.forall_mem_cons.2 ⟨pic191_h,
  List.forall_mem_cons.2 ⟨pic192_h,
  List.forall_mem_cons.2 ⟨pic193_h,
  List.forall_mem_cons.2 ⟨pic194_h,
  List.forall_mem_cons.2 ⟨pic195_h,
  List.forall_mem_cons.2 ⟨pic196_h,
  List.forall_mem_cons.2 ⟨pic197_h,
  List.forall_mem_cons.2 ⟨pic198_h,
  List.forall_mem_cons.2 ⟨pic199_h,
  List.forall_mem_cons.2 ⟨pic200_h,
  List.forall_mem_cons.2 ⟨pic201_h,
  List.forall_mem_cons.2 ⟨pic202_h,
  List.forall_mem_cons.2 ⟨pic203_h,
  List.forall_mem_cons.2 ⟨pic204_h,
  List.forall_mem_cons.2 ⟨pic205_h,
  List.forall_mem_cons.2 ⟨pic206_h,
  List.forall_mem_cons.2 ⟨pic207_h,
  List.forall_mem_cons.2 ⟨pic208_h,
  List.forall_mem_cons.2 ⟨pic209_h,
  (fun _ h => by cases h)⟩⟩⟩⟩⟩⟩⟩⟩⟩⟩⟩⟩⟩⟩⟩⟩⟩⟩⟩⟩⟩⟩⟩⟩⟩⟩⟩⟩⟩⟩⟩⟩⟩⟩⟩⟩⟩⟩⟩⟩⟩⟩⟩⟩⟩⟩⟩⟩⟩⟩⟩⟩⟩⟩⟩⟩⟩⟩⟩⟩⟩⟩⟩⟩⟩⟩⟩⟩⟩⟩⟩⟩⟩⟩⟩⟩⟩⟩⟩⟩⟩⟩⟩⟩⟩⟩⟩⟩⟩⟩⟩⟩⟩⟩⟩⟩⟩⟩⟩⟩⟩⟩⟩⟩⟩⟩⟩⟩⟩⟩⟩⟩⟩⟩⟩⟩⟩⟩⟩⟩⟩⟩⟩⟩⟩⟩⟩⟩⟩⟩⟩⟩⟩⟩⟩⟩⟩⟩⟩⟩⟩⟩⟩⟩⟩⟩⟩⟩⟩⟩⟩⟩⟩⟩⟩⟩⟩⟩⟩⟩⟩⟩⟩⟩⟩⟩⟩⟩⟩⟩⟩⟩⟩⟩⟩⟩⟩⟩⟩⟩⟩⟩⟩⟩⟩⟩⟩⟩⟩⟩⟩⟩⟩⟩⟩⟩⟩⟩⟩⟩⟩⟩⟩⟩⟩⟩⟩⟩⟩⟩
theorem pimem : ∀ c0 < 6, ∀ c1 < 4, ∀ c2 < 1 + c0, ∀ c3 < 1 + c1, [c0, c1, c2, c3] ∈ pilist := by
  have h : ((List.range (6)).all fun c0 => (List.range (4)).all fun c1 => (List.range (1 + c0)).all fun c2 => (List.range (1 + c1)).all fun c3 => pilist.contains [c0, c1, c2, c3]) = true := by kernel_rfl
  intro c0 g0 c1 g1 c2 g2 c3 g3
  have h := List.all_eq_true.1 h c0 (List.mem_range.2 g0)
  have h := List.all_eq_true.1 h c1 (List.mem_range.2 g1)
  have h := List.all_eq_true.1 h c2 (List.mem_range.2 g2)
  have h := List.all_eq_true.1 h c3 (List.mem_range.2 g3)
  simpa using h
theorem pikpos (c0 c1 c2 c3 : Nat) (h0 : c0 < 6) (h1 : c1 < 4) (h2 : c2 < 1 + c0) : (1 ≤ 6 ∧ 6 ≤ 1000) ∧ (1 ≤ 4 ∧ 4 ≤ 1000) ∧ (1 ≤ 1 + c0 ∧ 1 + c0 ≤ 1000) ∧ (1 ≤ 1 + c1 ∧ 1 + c1 ≤ 1000) := by
  refine ⟨?_, ?_, ?_, ?_⟩ <;> omega
def pil1 : List Int := [(-1), (-1)]
def pil3 : List Int := [6, 6, 6, 6, 6]
def pil0 : List Int := [(-1), (-1), (-1), (-1)]
def pil4 : List Int := [(-1), (-1), (-1)]
theorem pistart (n0 n1 n2 n3 : Int) (c0 c1 c2 c3 : Nat) (W : World) (h1 : ∀ i, i < 2 → W.cell? ⟨1, i, none⟩ = some (.int .i64 (pil1.getD i 0))) (h3 : ∀ i, i < 5 → W.cell? ⟨3, i, none⟩ = some (.int .i64 (pil3.getD i 0))) (h0 : ∀ i, i < 4 → W.cell? ⟨0, i, none⟩ = some (.int .i64 (pil0.getD i 0))) (h4 : ∀ i, i < 3 → W.cell? ⟨4, i, none⟩ = some (.int .i64 (pil4.getD i 0)))
    (q0 : 1 ≤ 6 ∧ 6 ≤ 1000) (e0 : turnI n0 ((6 : Nat) : Int) = (c0 : Int)) (q1 : 1 ≤ 4 ∧ 4 ≤ 1000) (e1 : turnI n1 ((4 : Nat) : Int) = (c1 : Int)) (q2 : 1 ≤ 1 + c0 ∧ 1 + c0 ≤ 1000) (e2 : turnI n2 ((1 + c0 : Nat) : Int) = (c2 : Int)) (q3 : 1 ≤ 1 + c1 ∧ 1 + c1 ≤ 1000) (e3 : turnI n3 ((1 + c1 : Nat) : Int) = (c3 : Int)) :
    ∃ j : Nat → RB, Inv 6 j (picase c0 c1 c2 c3).heap W ∧ (picase c0 c1 c2 c3).args.map (conc j) = [.agg #[.int .i64 n0, .int .i64 n1, .int .i64 n2, .int .i64 n3]] := by
  have I := start_tok (G := 6) (blks := piG) (toks := [(6, c0, n0), (4, c1, n1), (1 + c0, c2, n2), (1 + c1, c3, n3)]) (W := W) (fun x hx => by
      have h : piG.all (fun p => Nat.blt p.1 6) = true := by kernel_rfl
      have := List.all_eq_true.1 h x hx
      simpa [Nat.blt_eq] using this) (by decide) (show 6 + 4 < 2 ^ 62 by decide) (fun b x hx => by
    simp only [piG, List.mem_cons, List.not_mem_nil, or_false, Prod.mk.injEq] at hx
    rcases hx with ⟨rfl, rfl⟩ | ⟨rfl, rfl⟩ | ⟨rfl, rfl⟩ | ⟨rfl, rfl⟩ | ⟨rfl, rfl⟩ | ⟨rfl, rfl⟩
    · refine .inr ⟨_, rfl, by decide, fun i v hv => ?_, lt_of_cell (h0 0 (by omega))⟩
      match i, hv with
      | 0, hv => cases hv; exact h0 0 (by omega)
      | 1, hv => cases hv; exact h0 1 (by omega)
      | 2, hv => cases hv; exact h0 2 (by omega)
      | 3, hv => cases hv; exact h0 3 (by omega)
    · refine .inr ⟨_, rfl, by decide, fun i v hv => ?_, lt_of_cell (h1 0 (by omega))⟩
      match i, hv with
      | 0, hv => cases hv; exact h1 0 (by omega)
      | 1, hv => cases hv; exact h1 1 (by omega)
    · exact .inl rfl
    · refine .inr ⟨_, rfl, by decide, fun i v hv => ?_, lt_of_cell (h3 0 (by omega))⟩
      match i, hv with
      | 0, hv => cases hv; exact h3 0 (by omega)
      | 1, hv => cases hv; exact h3 1 (by omega)
      | 2, hv => cases hv; exact h3 2 (by omega)
      | 3, hv => cases hv; exact h3 3 (by omega)
      | 4, hv => cases hv; exact h3 4 (by omega)
    · refine .inr ⟨_, rfl, by decide, fun i v hv => ?_, lt_of_cell (h4 0 (by omega))⟩
      match i, hv with
      | 0, hv => cases hv; exact h4 0 (by omega)
      | 1, hv => cases hv; exact h4 1 (by omega)
      | 2, hv => cases hv; exact h4 2 (by omega)
    · exact .inl rfl) (fun t ht => by
    simp only [List.mem_cons, List.not_mem_nil, or_false] at ht
    rcases ht with rfl | rfl | rfl | rfl
    · exact ⟨q0.1, q0.2, e0⟩
    · exact ⟨q1.1, q1.2, e1⟩
    · exact ⟨q2.1, q2.2, e2⟩
    · exact ⟨q3.1, q3.2, e3⟩)
  refine ⟨_, I, ?_⟩
  show [Value.agg ⟨[.int .i64 (dec (enc n0)), .int .i64 (dec (enc n1)), .int .i64 (dec (enc n2)), .int .i64 (dec (enc n3))]⟩] = _
  simp only [dec_enc]
theorem picalls (n0 n1 n2 n3 : Int) (W : World) (h1 : ∀ i, i < 2 → W.cell? ⟨1, i, none⟩ = some (.int .i64 (pil1.getD i 0))) (h3 : ∀ i, i < 5 → W.cell? ⟨3, i, none⟩ = some (.int .i64 (pil3.getD i 0))) (h0 : ∀ i, i < 4 → W.cell? ⟨0, i, none⟩ = some (.int .i64 (pil0.getD i 0))) (h4 : ∀ i, i < 3 → W.cell? ⟨4, i, none⟩ = some (.int .i64 (pil4.getD i 0))) :
    Calls Tryz.prog 3 #[.agg #[.int .i64 n0, .int .i64 n1, .int .i64 n2, .int .i64 n3]] W fun e w' => e = .returned (.bool true) ∧ Below W.heap.size W w' := by
  obtain ⟨c0, g0, e0⟩ := turnI_range n0 (6) (by omega)
  obtain ⟨c1, g1, e1⟩ := turnI_range n1 (4) (by omega)
  obtain ⟨c2, g2, e2⟩ := turnI_range n2 (1 + c0) (by omega)
  obtain ⟨c3, g3, e3⟩ := turnI_range n3 (1 + c1) (by omega)
  have kp := pikpos c0 c1 c2 c3 g0 g1 g2
  obtain ⟨q0, q1, q2, q3⟩ := kp
  obtain ⟨j, I, ha⟩ := pistart n0 n1 n2 n3 c0 c1 c2 c3 W h1 h3 h0 h4 q0 e0 q1 e1 q2 e2 q3 e3
  have H : (picase c0 c1 c2 c3).holds EE := piall _ (pimem c0 g0 c1 g1 c2 g2 c3 g3)
  have := (H.2 ⟨_, W, I⟩).2 _ W I
  rw [ha] at this
  refine (callsIn_wide.1 this).mono fun e w' ⟨j2, he, A⟩ => ⟨?_, A.os, A.tape, A.output, A.size, A.heap⟩
  rw [he]; rfl
end Go.Proofs.YtmjpnohpmfmdlaaGreatDoor
