/- Known calls, part 1: what single calls hand back, at small heaps, by the kernel's own run of the evaluator. No conditions. -/
import Derived.Test.YtlnbhokokhecdaaGreatDoorFBT
set_option linter.all false
namespace Go.Proofs.YtlnbhokokhecdaaGreatDoor
open Go.Ai
set_option maxRecDepth 1000000
-- (decani/founder.chest).best, 117831 steps
noncomputable def fc1 : Ent :=
  ⟨31, [.agg ⟨[iP 4, iP 28, .slice (some ⟨3, 0, none⟩) 3 3, .slice (some ⟨4, 0, none⟩) 2 2, .bool false, .slice (some ⟨5, 0, none⟩) 1 1, .bool true, .slice (some ⟨6, 0, none⟩) 1 1, .slice (some ⟨7, 0, none⟩) 3 3, .map (some 8), iP 1]⟩], 9,
   gC ++ [(3, .cells true 0 [iP 1, iP 2, iP 2, iP 1, iP 1, iP 1, iP 2, iP 2, iP 1]),
    (4, .cells true 0 [iP 1, iP 2, iP 1, iP 1, iP 1, iP 2]),
    (5, .cells true 0 [iP 1, iP 2, iP 2]),
    (6, .cells true 0 [iP 0, iP 3, iP 2]),
    (7, .cells true 0 [iP 0, iN 0, iP 2, iP 10, iP 0, iP 1, iP 2, iP 6, iP 1, iP 1, iP 1, iP 4]),
    (8, .map [⟨.agg ⟨[iP 0, iP 0]⟩, .bool true, 0⟩, ⟨.agg ⟨[iP 1, iP 0]⟩, .bool false, 1⟩, ⟨.agg ⟨[iP 2, iP 0]⟩, .bool false, 2⟩, ⟨.agg ⟨[iP 3, iP 0]⟩, .bool false, 3⟩, ⟨.agg ⟨[iP 0, iP 1]⟩, .bool true, 4⟩, ⟨.agg ⟨[iP 1, iP 1]⟩, .bool true, 5⟩, ⟨.agg ⟨[iP 2, iP 1]⟩, .bool false, 6⟩, ⟨.agg ⟨[iP 3, iP 1]⟩, .bool true, 7⟩, ⟨.agg ⟨[iP 0, iP 2]⟩, .bool true, 8⟩, ⟨.agg ⟨[iP 1, iP 2]⟩, .bool true, 9⟩, ⟨.agg ⟨[iP 2, iP 2]⟩, .bool false, 10⟩, ⟨.agg ⟨[iP 3, iP 2]⟩, .bool true, 11⟩] 12)],
   [.cells true 3 [iP 0, iP 0, iP 1, iP 1, iP 1, iP 2, iP 3, iP 1]],
   .slice (some ⟨9, 0, none⟩) 4 18446744073709551616⟩
theorem fc1_h : fc1.holds EE := ent_run envOk (T := [fb260, fb2, fb12, fb7, fb20, fb24, fb41, fb47, fb51, fb85, fb76, fb77, fb104, fb78, fb105, fb106, fb107, fb154, fb79, fb108, fb109, fb155, fb92, fb138, fb139, fb140, fb181, fb141, fb182, fb183, fb184, fb263]) (List.forall_mem_cons.2 ⟨fb260_h, List.forall_mem_cons.2 ⟨fb2_h, List.forall_mem_cons.2 ⟨fb12_h, List.forall_mem_cons.2 ⟨fb7_h, List.forall_mem_cons.2 ⟨fb20_h, List.forall_mem_cons.2 ⟨fb24_h, List.forall_mem_cons.2 ⟨fb41_h, List.forall_mem_cons.2 ⟨fb47_h, List.forall_mem_cons.2 ⟨fb51_h, List.forall_mem_cons.2 ⟨fb85_h, List.forall_mem_cons.2 ⟨fb76_h, List.forall_mem_cons.2 ⟨fb77_h, List.forall_mem_cons.2 ⟨fb104_h, List.forall_mem_cons.2 ⟨fb78_h, List.forall_mem_cons.2 ⟨fb105_h, List.forall_mem_cons.2 ⟨fb106_h, List.forall_mem_cons.2 ⟨fb107_h, List.forall_mem_cons.2 ⟨fb154_h, List.forall_mem_cons.2 ⟨fb79_h, List.forall_mem_cons.2 ⟨fb108_h, List.forall_mem_cons.2 ⟨fb109_h, List.forall_mem_cons.2 ⟨fb155_h, List.forall_mem_cons.2 ⟨fb92_h, List.forall_mem_cons.2 ⟨fb138_h, List.forall_mem_cons.2 ⟨fb139_h, List.forall_mem_cons.2 ⟨fb140_h, List.forall_mem_cons.2 ⟨fb181_h, List.forall_mem_cons.2 ⟨fb141_h, List.forall_mem_cons.2 ⟨fb182_h, List.forall_mem_cons.2 ⟨fb183_h, List.forall_mem_cons.2 ⟨fb184_h, List.forall_mem_cons.2 ⟨fb263_h, fun _ h => by cases h⟩⟩⟩⟩⟩⟩⟩⟩⟩⟩⟩⟩⟩⟩⟩⟩⟩⟩⟩⟩⟩⟩⟩⟩⟩⟩⟩⟩⟩⟩⟩⟩) 1000000000 _ (by kernel_rfl) (by kernel_rfl)
-- (decani/founder.chest).best, 45135 steps
noncomputable def fc6 : Ent :=
  ⟨31, [.agg ⟨[iP 4, iP 28, .slice (some ⟨3, 0, none⟩) 3 3, .slice (some ⟨4, 0, none⟩) 2 2, .bool false, .slice (some ⟨5, 0, none⟩) 1 1, .bool true, .slice none 0 0, .slice (some ⟨6, 0, none⟩) 3 3, .map (some 7), iP 3]⟩], 8,
   gC ++ [(3, .cells true 0 [iP 1, iP 2, iP 2, iP 1, iP 1, iP 1, iP 2, iP 2, iP 1]),
    (4, .cells true 0 [iP 1, iP 2, iP 1, iP 1, iP 1, iP 2]),
    (5, .cells true 0 [iP 1, iP 2, iP 2]),
    (6, .cells true 0 [iP 0, iN 0, iP 2, iP 10, iP 0, iP 1, iP 2, iP 6, iP 1, iP 1, iP 1, iP 4]),
    (7, .map [⟨.agg ⟨[iP 0, iP 0]⟩, .bool true, 0⟩, ⟨.agg ⟨[iP 1, iP 0]⟩, .bool false, 1⟩, ⟨.agg ⟨[iP 2, iP 0]⟩, .bool false, 2⟩, ⟨.agg ⟨[iP 3, iP 0]⟩, .bool false, 3⟩, ⟨.agg ⟨[iP 0, iP 1]⟩, .bool true, 4⟩, ⟨.agg ⟨[iP 1, iP 1]⟩, .bool false, 5⟩, ⟨.agg ⟨[iP 2, iP 1]⟩, .bool false, 6⟩, ⟨.agg ⟨[iP 3, iP 1]⟩, .bool true, 7⟩, ⟨.agg ⟨[iP 0, iP 2]⟩, .bool true, 8⟩, ⟨.agg ⟨[iP 1, iP 2]⟩, .bool false, 9⟩, ⟨.agg ⟨[iP 2, iP 2]⟩, .bool false, 10⟩, ⟨.agg ⟨[iP 3, iP 2]⟩, .bool true, 11⟩] 12)],
   [.cells true 3 [iP 0, iP 0, iP 3, iP 1, iP 3, iP 2]],
   .slice (some ⟨8, 0, none⟩) 3 18446744073709551616⟩
theorem fc6_h : fc6.holds EE := ent_run envOk (T := [fb283, fb29, fb56, fb124, fb120, fb168, fb169, fb208, fb170, fb209, fb192, fb220, fb221, fb287]) (List.forall_mem_cons.2 ⟨fb283_h, List.forall_mem_cons.2 ⟨fb29_h, List.forall_mem_cons.2 ⟨fb56_h, List.forall_mem_cons.2 ⟨fb124_h, List.forall_mem_cons.2 ⟨fb120_h, List.forall_mem_cons.2 ⟨fb168_h, List.forall_mem_cons.2 ⟨fb169_h, List.forall_mem_cons.2 ⟨fb208_h, List.forall_mem_cons.2 ⟨fb170_h, List.forall_mem_cons.2 ⟨fb209_h, List.forall_mem_cons.2 ⟨fb192_h, List.forall_mem_cons.2 ⟨fb220_h, List.forall_mem_cons.2 ⟨fb221_h, List.forall_mem_cons.2 ⟨fb287_h, fun _ h => by cases h⟩⟩⟩⟩⟩⟩⟩⟩⟩⟩⟩⟩⟩⟩) 1000000000 _ (by kernel_rfl) (by kernel_rfl)
-- (decani/founder.chest).best, 38609 steps
noncomputable def fc8 : Ent :=
  ⟨31, [.agg ⟨[iP 4, iP 28, .slice (some ⟨3, 0, none⟩) 3 3, .slice (some ⟨4, 0, none⟩) 2 2, .bool false, .slice (some ⟨5, 0, none⟩) 1 1, .bool true, .slice none 0 0, .slice (some ⟨6, 0, none⟩) 1 1, .map (some 7), iP 0]⟩], 8,
   gC ++ [(3, .cells true 0 [iP 1, iP 2, iP 2, iP 1, iP 1, iP 1, iP 2, iP 2, iP 1]),
    (4, .cells true 0 [iP 1, iP 2, iP 1, iP 1, iP 1, iP 2]),
    (5, .cells true 0 [iP 1, iP 2, iP 2]),
    (6, .cells true 0 [iP 0, iP 3, iP 4, iP 1]),
    (7, .map [⟨.agg ⟨[iP 0, iP 0]⟩, .bool true, 0⟩, ⟨.agg ⟨[iP 1, iP 0]⟩, .bool true, 1⟩, ⟨.agg ⟨[iP 2, iP 0]⟩, .bool true, 2⟩, ⟨.agg ⟨[iP 3, iP 0]⟩, .bool true, 3⟩] 4)],
   [.cells true 3 [iP 0, iP 0, iP 1, iP 0, iP 2, iP 0, iP 3, iP 0]],
   .slice (some ⟨8, 0, none⟩) 4 18446744073709551616⟩
theorem fc8_h : fc8.holds EE := ent_run envOk (T := [fb295, fb15, fb31, fb67, fb88, fb127, fb128, fb235, fb240, fb247, fb248, fb268, fb249, fb269, fb270, fb300]) (List.forall_mem_cons.2 ⟨fb295_h, List.forall_mem_cons.2 ⟨fb15_h, List.forall_mem_cons.2 ⟨fb31_h, List.forall_mem_cons.2 ⟨fb67_h, List.forall_mem_cons.2 ⟨fb88_h, List.forall_mem_cons.2 ⟨fb127_h, List.forall_mem_cons.2 ⟨fb128_h, List.forall_mem_cons.2 ⟨fb235_h, List.forall_mem_cons.2 ⟨fb240_h, List.forall_mem_cons.2 ⟨fb247_h, List.forall_mem_cons.2 ⟨fb248_h, List.forall_mem_cons.2 ⟨fb268_h, List.forall_mem_cons.2 ⟨fb249_h, List.forall_mem_cons.2 ⟨fb269_h, List.forall_mem_cons.2 ⟨fb270_h, List.forall_mem_cons.2 ⟨fb300_h, fun _ h => by cases h⟩⟩⟩⟩⟩⟩⟩⟩⟩⟩⟩⟩⟩⟩⟩⟩) 1000000000 _ (by kernel_rfl) (by kernel_rfl)
-- (decani/founder.chest).best, 36214 steps
noncomputable def fc12 : Ent :=
  ⟨31, [.agg ⟨[iP 4, iP 28, .slice (some ⟨3, 0, none⟩) 3 3, .slice (some ⟨4, 0, none⟩) 2 2, .bool false, .slice (some ⟨5, 0, none⟩) 1 1, .bool true, .slice none 0 0, .slice (some ⟨6, 0, none⟩) 3 3, .map (some 7), iN 0]⟩], 8,
   gC ++ [(3, .cells true 0 [iP 1, iP 2, iP 2, iP 1, iP 1, iP 1, iP 2, iP 2, iP 1]),
    (4, .cells true 0 [iP 1, iP 2, iP 1, iP 1, iP 1, iP 2]),
    (5, .cells true 0 [iP 1, iP 2, iP 2]),
    (6, .cells true 0 [iP 0, iN 0, iP 2, iP 10, iP 0, iP 1, iP 2, iP 6, iP 1, iP 1, iP 1, iP 4]),
    (7, .map [⟨.agg ⟨[iP 0, iP 0]⟩, .bool true, 0⟩, ⟨.agg ⟨[iP 1, iP 0]⟩, .bool false, 1⟩, ⟨.agg ⟨[iP 2, iP 0]⟩, .bool false, 2⟩, ⟨.agg ⟨[iP 3, iP 0]⟩, .bool false, 3⟩, ⟨.agg ⟨[iP 0, iP 1]⟩, .bool true, 4⟩, ⟨.agg ⟨[iP 1, iP 1]⟩, .bool false, 5⟩, ⟨.agg ⟨[iP 2, iP 1]⟩, .bool false, 6⟩, ⟨.agg ⟨[iP 3, iP 1]⟩, .bool true, 7⟩, ⟨.agg ⟨[iP 0, iP 2]⟩, .bool true, 8⟩, ⟨.agg ⟨[iP 1, iP 2]⟩, .bool false, 9⟩, ⟨.agg ⟨[iP 2, iP 2]⟩, .bool false, 10⟩, ⟨.agg ⟨[iP 3, iP 2]⟩, .bool true, 11⟩] 12)],
   [.cells true 3 [iP 0, iP 0, iP 3, iP 1]],
   .slice (some ⟨8, 0, none⟩) 2 18446744073709551616⟩
theorem fc12_h : fc12.holds EE := ent_run envOk (T := [fb288, fb63, fb171, fb193, fb194, fb222, fb195, fb223, fb228, fb229, fb291]) (List.forall_mem_cons.2 ⟨fb288_h, List.forall_mem_cons.2 ⟨fb63_h, List.forall_mem_cons.2 ⟨fb171_h, List.forall_mem_cons.2 ⟨fb193_h, List.forall_mem_cons.2 ⟨fb194_h, List.forall_mem_cons.2 ⟨fb222_h, List.forall_mem_cons.2 ⟨fb195_h, List.forall_mem_cons.2 ⟨fb223_h, List.forall_mem_cons.2 ⟨fb228_h, List.forall_mem_cons.2 ⟨fb229_h, List.forall_mem_cons.2 ⟨fb291_h, fun _ h => by cases h⟩⟩⟩⟩⟩⟩⟩⟩⟩⟩⟩) 1000000000 _ (by kernel_rfl) (by kernel_rfl)
end Go.Proofs.YtlnbhokokhecdaaGreatDoor
