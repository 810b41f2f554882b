/- Known calls, part 0: what single calls hand back, at small heaps, by the kernel's own run of the evaluator. No conditions. -/
import Derived.Test.YtlnbhokokhecdaaGreatDoorFBT
set_option linter.all false
namespace Go.Proofs.YtlnbhokokhecdaaGreatDoor
open Go.Ai
set_option maxRecDepth 1000000
-- (decani/founder.chest).best, 158520 steps
noncomputable def fc0 : Ent :=
  ⟨31, [.agg ⟨[iP 4, iP 28, .slice (some ⟨3, 0, none⟩) 3 3, .slice (some ⟨4, 0, none⟩) 2 2, .bool false, .slice (some ⟨5, 0, none⟩) 1 1, .bool true, .slice (some ⟨6, 0, none⟩) 1 1, .slice (some ⟨7, 0, none⟩) 3 3, .map (some 8), iP 0]⟩], 9,
   gC ++ [(3, .cells true 0 [iP 1, iP 2, iP 2, iP 1, iP 1, iP 1, iP 2, iP 2, iP 1]),
    (4, .cells true 0 [iP 1, iP 2, iP 1, iP 1, iP 1, iP 2]),
    (5, .cells true 0 [iP 1, iP 2, iP 2]),
    (6, .cells true 0 [iP 0, iP 3, iP 2]),
    (7, .cells true 0 [iP 0, iN 0, iP 2, iP 10, iP 0, iP 1, iP 2, iP 6, iP 1, iP 1, iP 1, iP 4]),
    (8, .map [⟨.agg ⟨[iP 0, iP 0]⟩, .bool true, 0⟩, ⟨.agg ⟨[iP 1, iP 0]⟩, .bool false, 1⟩, ⟨.agg ⟨[iP 2, iP 0]⟩, .bool false, 2⟩, ⟨.agg ⟨[iP 3, iP 0]⟩, .bool false, 3⟩, ⟨.agg ⟨[iP 0, iP 1]⟩, .bool true, 4⟩, ⟨.agg ⟨[iP 1, iP 1]⟩, .bool true, 5⟩, ⟨.agg ⟨[iP 2, iP 1]⟩, .bool false, 6⟩, ⟨.agg ⟨[iP 3, iP 1]⟩, .bool true, 7⟩, ⟨.agg ⟨[iP 0, iP 2]⟩, .bool true, 8⟩, ⟨.agg ⟨[iP 1, iP 2]⟩, .bool true, 9⟩, ⟨.agg ⟨[iP 2, iP 2]⟩, .bool false, 10⟩, ⟨.agg ⟨[iP 3, iP 2]⟩, .bool true, 11⟩] 12)],
   [.cells true 3 [iP 0, iP 0, iP 0, iP 1, iP 1, iP 1, iP 3, iP 2]],
   .slice (some ⟨9, 0, none⟩) 4 18446744073709551616⟩
theorem fc0_h : fc0.holds EE := ent_run envOk (T := [fb259, fb1, fb0, fb4, fb6, fb8, fb19, fb13, fb22, fb23, fb40, fb35, fb36, fb45, fb38, fb49, fb46, fb50, fb84, fb71, fb72, fb97, fb73, fb98, fb74, fb99, fb100, fb101, fb152, fb75, fb102, fb103, fb153, fb135, fb136, fb177, fb137, fb178, fb179, fb180, fb262]) (List.forall_mem_cons.2 ⟨fb259_h, List.forall_mem_cons.2 ⟨fb1_h, List.forall_mem_cons.2 ⟨fb0_h, List.forall_mem_cons.2 ⟨fb4_h, List.forall_mem_cons.2 ⟨fb6_h, List.forall_mem_cons.2 ⟨fb8_h, List.forall_mem_cons.2 ⟨fb19_h, List.forall_mem_cons.2 ⟨fb13_h, List.forall_mem_cons.2 ⟨fb22_h, List.forall_mem_cons.2 ⟨fb23_h, List.forall_mem_cons.2 ⟨fb40_h, List.forall_mem_cons.2 ⟨fb35_h, List.forall_mem_cons.2 ⟨fb36_h, List.forall_mem_cons.2 ⟨fb45_h, List.forall_mem_cons.2 ⟨fb38_h, List.forall_mem_cons.2 ⟨fb49_h, List.forall_mem_cons.2 ⟨fb46_h, List.forall_mem_cons.2 ⟨fb50_h, List.forall_mem_cons.2 ⟨fb84_h, List.forall_mem_cons.2 ⟨fb71_h, List.forall_mem_cons.2 ⟨fb72_h, List.forall_mem_cons.2 ⟨fb97_h, List.forall_mem_cons.2 ⟨fb73_h, List.forall_mem_cons.2 ⟨fb98_h, List.forall_mem_cons.2 ⟨fb74_h, List.forall_mem_cons.2 ⟨fb99_h, List.forall_mem_cons.2 ⟨fb100_h, List.forall_mem_cons.2 ⟨fb101_h, List.forall_mem_cons.2 ⟨fb152_h, List.forall_mem_cons.2 ⟨fb75_h, List.forall_mem_cons.2 ⟨fb102_h, List.forall_mem_cons.2 ⟨fb103_h, List.forall_mem_cons.2 ⟨fb153_h, List.forall_mem_cons.2 ⟨fb135_h, List.forall_mem_cons.2 ⟨fb136_h, List.forall_mem_cons.2 ⟨fb177_h, List.forall_mem_cons.2 ⟨fb137_h, List.forall_mem_cons.2 ⟨fb178_h, List.forall_mem_cons.2 ⟨fb179_h, List.forall_mem_cons.2 ⟨fb180_h, List.forall_mem_cons.2 ⟨fb262_h, fun _ h => by cases h⟩⟩⟩⟩⟩⟩⟩⟩⟩⟩⟩⟩⟩⟩⟩⟩⟩⟩⟩⟩⟩⟩⟩⟩⟩⟩⟩⟩⟩⟩⟩⟩⟩⟩⟩⟩⟩⟩⟩⟩⟩) 1000000000 _ (by kernel_rfl) (by kernel_rfl)
-- (decani/founder.chest).best, 38609 steps
noncomputable def fc7 : Ent :=
  ⟨31, [.agg ⟨[iP 4, iP 28, .slice (some ⟨3, 0, none⟩) 3 3, .slice (some ⟨4, 0, none⟩) 2 2, .bool false, .slice (some ⟨5, 0, none⟩) 1 1, .bool true, .slice none 0 0, .slice (some ⟨6, 0, none⟩) 1 1, .map (some 7), iN 0]⟩], 8,
   gC ++ [(3, .cells true 0 [iP 1, iP 2, iP 2, iP 1, iP 1, iP 1, iP 2, iP 2, iP 1]),
    (4, .cells true 0 [iP 1, iP 2, iP 1, iP 1, iP 1, iP 2]),
    (5, .cells true 0 [iP 1, iP 2, iP 2]),
    (6, .cells true 0 [iP 0, iP 3, iP 4, iP 1]),
    (7, .map [⟨.agg ⟨[iP 0, iP 0]⟩, .bool true, 0⟩, ⟨.agg ⟨[iP 1, iP 0]⟩, .bool true, 1⟩, ⟨.agg ⟨[iP 2, iP 0]⟩, .bool true, 2⟩, ⟨.agg ⟨[iP 3, iP 0]⟩, .bool true, 3⟩] 4)],
   [.cells true 3 [iP 0, iP 0, iP 1, iP 0, iP 2, iP 0, iP 3, iP 0]],
   .slice (some ⟨8, 0, none⟩) 4 18446744073709551616⟩
theorem fc7_h : fc7.holds EE := ent_run envOk (T := [fb294, fb14, fb30, fb66, fb87, fb125, fb126, fb234, fb239, fb244, fb245, fb265, fb246, fb266, fb267, fb299]) (List.forall_mem_cons.2 ⟨fb294_h, List.forall_mem_cons.2 ⟨fb14_h, List.forall_mem_cons.2 ⟨fb30_h, List.forall_mem_cons.2 ⟨fb66_h, List.forall_mem_cons.2 ⟨fb87_h, List.forall_mem_cons.2 ⟨fb125_h, List.forall_mem_cons.2 ⟨fb126_h, List.forall_mem_cons.2 ⟨fb234_h, List.forall_mem_cons.2 ⟨fb239_h, List.forall_mem_cons.2 ⟨fb244_h, List.forall_mem_cons.2 ⟨fb245_h, List.forall_mem_cons.2 ⟨fb265_h, List.forall_mem_cons.2 ⟨fb246_h, List.forall_mem_cons.2 ⟨fb266_h, List.forall_mem_cons.2 ⟨fb267_h, List.forall_mem_cons.2 ⟨fb299_h, fun _ h => by cases h⟩⟩⟩⟩⟩⟩⟩⟩⟩⟩⟩⟩⟩⟩⟩⟩) 1000000000 _ (by kernel_rfl) (by kernel_rfl)
-- (decani/founder.chest).best, 38609 steps
noncomputable def fc11 : Ent :=
  ⟨31, [.agg ⟨[iP 4, iP 28, .slice (some ⟨3, 0, none⟩) 3 3, .slice (some ⟨4, 0, none⟩) 2 2, .bool false, .slice (some ⟨5, 0, none⟩) 1 1, .bool true, .slice none 0 0, .slice (some ⟨6, 0, none⟩) 1 1, .map (some 7), iP 3]⟩], 8,
   gC ++ [(3, .cells true 0 [iP 1, iP 2, iP 2, iP 1, iP 1, iP 1, iP 2, iP 2, iP 1]),
    (4, .cells true 0 [iP 1, iP 2, iP 1, iP 1, iP 1, iP 2]),
    (5, .cells true 0 [iP 1, iP 2, iP 2]),
    (6, .cells true 0 [iP 0, iP 3, iP 4, iP 1]),
    (7, .map [⟨.agg ⟨[iP 0, iP 0]⟩, .bool true, 0⟩, ⟨.agg ⟨[iP 1, iP 0]⟩, .bool true, 1⟩, ⟨.agg ⟨[iP 2, iP 0]⟩, .bool true, 2⟩, ⟨.agg ⟨[iP 3, iP 0]⟩, .bool true, 3⟩] 4)],
   [.cells true 3 [iP 0, iP 0, iP 1, iP 0, iP 2, iP 0, iP 3, iP 0]],
   .slice (some ⟨8, 0, none⟩) 4 18446744073709551616⟩
theorem fc11_h : fc11.holds EE := ent_run envOk (T := [fb298, fb18, fb34, fb70, fb91, fb133, fb134, fb238, fb243, fb256, fb257, fb277, fb258, fb278, fb279, fb303]) (List.forall_mem_cons.2 ⟨fb298_h, List.forall_mem_cons.2 ⟨fb18_h, List.forall_mem_cons.2 ⟨fb34_h, List.forall_mem_cons.2 ⟨fb70_h, List.forall_mem_cons.2 ⟨fb91_h, List.forall_mem_cons.2 ⟨fb133_h, List.forall_mem_cons.2 ⟨fb134_h, List.forall_mem_cons.2 ⟨fb238_h, List.forall_mem_cons.2 ⟨fb243_h, List.forall_mem_cons.2 ⟨fb256_h, List.forall_mem_cons.2 ⟨fb257_h, List.forall_mem_cons.2 ⟨fb277_h, List.forall_mem_cons.2 ⟨fb258_h, List.forall_mem_cons.2 ⟨fb278_h, List.forall_mem_cons.2 ⟨fb279_h, List.forall_mem_cons.2 ⟨fb303_h, fun _ h => by cases h⟩⟩⟩⟩⟩⟩⟩⟩⟩⟩⟩⟩⟩⟩⟩⟩) 1000000000 _ (by kernel_rfl) (by kernel_rfl)
end Go.Proofs.YtlnbhokokhecdaaGreatDoor
