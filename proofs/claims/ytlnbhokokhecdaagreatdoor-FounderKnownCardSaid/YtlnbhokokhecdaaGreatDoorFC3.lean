/- Known calls, part 3: what single calls hand back, at small heaps, by the kernel's own run of the evaluator. No conditions. -/
import Derived.Test.YtlnbhokokhecdaaGreatDoorFBT
set_option linter.all false
namespace Go.Proofs.YtlnbhokokhecdaaGreatDoor
open Go.Ai
set_option maxRecDepth 1000000
-- (decani/founder.chest).best, 96341 steps
noncomputable def fc3 : Ent :=
  ⟨31, [.agg ⟨[iP 4, iP 28, .slice (some ⟨3, 0, none⟩) 3 3, .slice (some ⟨4, 0, none⟩) 2 2, .bool false, .slice (some ⟨5, 0, none⟩) 1 1, .bool true, .slice (some ⟨6, 0, none⟩) 1 1, .slice (some ⟨7, 0, none⟩) 3 3, .map (some 8), iN 0]⟩], 9,
   gC ++ [(3, .cells true 0 [iP 1, iP 2, iP 2, iP 1, iP 1, iP 1, iP 2, iP 2, iP 1]),
    (4, .cells true 0 [iP 1, iP 2, iP 1, iP 1, iP 1, iP 2]),
    (5, .cells true 0 [iP 1, iP 2, iP 2]),
    (6, .cells true 0 [iP 0, iP 3, iP 2]),
    (7, .cells true 0 [iP 0, iN 0, iP 2, iP 10, iP 0, iP 1, iP 2, iP 6, iP 1, iP 1, iP 1, iP 4]),
    (8, .map [⟨.agg ⟨[iP 0, iP 0]⟩, .bool true, 0⟩, ⟨.agg ⟨[iP 1, iP 0]⟩, .bool false, 1⟩, ⟨.agg ⟨[iP 2, iP 0]⟩, .bool false, 2⟩, ⟨.agg ⟨[iP 3, iP 0]⟩, .bool false, 3⟩, ⟨.agg ⟨[iP 0, iP 1]⟩, .bool true, 4⟩, ⟨.agg ⟨[iP 1, iP 1]⟩, .bool true, 5⟩, ⟨.agg ⟨[iP 2, iP 1]⟩, .bool false, 6⟩, ⟨.agg ⟨[iP 3, iP 1]⟩, .bool true, 7⟩, ⟨.agg ⟨[iP 0, iP 2]⟩, .bool true, 8⟩, ⟨.agg ⟨[iP 1, iP 2]⟩, .bool true, 9⟩, ⟨.agg ⟨[iP 2, iP 2]⟩, .bool false, 10⟩, ⟨.agg ⟨[iP 3, iP 2]⟩, .bool true, 11⟩] 12)],
   [.cells true 3 [iP 0, iP 0, iP 1, iP 1, iP 3, iP 1]],
   .slice (some ⟨9, 0, none⟩) 3 18446744073709551616⟩
theorem fc3_h : fc3.holds EE := ent_run envOk (T := [fb280, fb9, fb26, fb39, fb53, fb57, fb60, fb121, fb94, fb146, fb95, fb147, fb148, fb149, fb196, fb96, fb150, fb151, fb197, fb174, fb175, fb210, fb176, fb211, fb212, fb213, fb284]) (List.forall_mem_cons.2 ⟨fb280_h, List.forall_mem_cons.2 ⟨fb9_h, List.forall_mem_cons.2 ⟨fb26_h, List.forall_mem_cons.2 ⟨fb39_h, List.forall_mem_cons.2 ⟨fb53_h, List.forall_mem_cons.2 ⟨fb57_h, List.forall_mem_cons.2 ⟨fb60_h, List.forall_mem_cons.2 ⟨fb121_h, List.forall_mem_cons.2 ⟨fb94_h, List.forall_mem_cons.2 ⟨fb146_h, List.forall_mem_cons.2 ⟨fb95_h, List.forall_mem_cons.2 ⟨fb147_h, List.forall_mem_cons.2 ⟨fb148_h, List.forall_mem_cons.2 ⟨fb149_h, List.forall_mem_cons.2 ⟨fb196_h, List.forall_mem_cons.2 ⟨fb96_h, List.forall_mem_cons.2 ⟨fb150_h, List.forall_mem_cons.2 ⟨fb151_h, List.forall_mem_cons.2 ⟨fb197_h, List.forall_mem_cons.2 ⟨fb174_h, List.forall_mem_cons.2 ⟨fb175_h, List.forall_mem_cons.2 ⟨fb210_h, List.forall_mem_cons.2 ⟨fb176_h, List.forall_mem_cons.2 ⟨fb211_h, List.forall_mem_cons.2 ⟨fb212_h, List.forall_mem_cons.2 ⟨fb213_h, List.forall_mem_cons.2 ⟨fb284_h, fun _ h => by cases h⟩⟩⟩⟩⟩⟩⟩⟩⟩⟩⟩⟩⟩⟩⟩⟩⟩⟩⟩⟩⟩⟩⟩⟩⟩⟩⟩) 1000000000 _ (by kernel_rfl) (by kernel_rfl)
-- (decani/founder.chest).best, 96341 steps
noncomputable def fc4 : Ent :=
  ⟨31, [.agg ⟨[iP 4, iP 28, .slice (some ⟨3, 0, none⟩) 3 3, .slice (some ⟨4, 0, none⟩) 2 2, .bool false, .slice (some ⟨5, 0, none⟩) 1 1, .bool true, .slice (some ⟨6, 0, none⟩) 1 1, .slice (some ⟨7, 0, none⟩) 3 3, .map (some 8), iP 2]⟩], 9,
   gC ++ [(3, .cells true 0 [iP 1, iP 2, iP 2, iP 1, iP 1, iP 1, iP 2, iP 2, iP 1]),
    (4, .cells true 0 [iP 1, iP 2, iP 1, iP 1, iP 1, iP 2]),
    (5, .cells true 0 [iP 1, iP 2, iP 2]),
    (6, .cells true 0 [iP 0, iP 3, iP 2]),
    (7, .cells true 0 [iP 0, iN 0, iP 2, iP 10, iP 0, iP 1, iP 2, iP 6, iP 1, iP 1, iP 1, iP 4]),
    (8, .map [⟨.agg ⟨[iP 0, iP 0]⟩, .bool true, 0⟩, ⟨.agg ⟨[iP 1, iP 0]⟩, .bool false, 1⟩, ⟨.agg ⟨[iP 2, iP 0]⟩, .bool false, 2⟩, ⟨.agg ⟨[iP 3, iP 0]⟩, .bool false, 3⟩, ⟨.agg ⟨[iP 0, iP 1]⟩, .bool true, 4⟩, ⟨.agg ⟨[iP 1, iP 1]⟩, .bool true, 5⟩, ⟨.agg ⟨[iP 2, iP 1]⟩, .bool false, 6⟩, ⟨.agg ⟨[iP 3, iP 1]⟩, .bool true, 7⟩, ⟨.agg ⟨[iP 0, iP 2]⟩, .bool true, 8⟩, ⟨.agg ⟨[iP 1, iP 2]⟩, .bool true, 9⟩, ⟨.agg ⟨[iP 2, iP 2]⟩, .bool false, 10⟩, ⟨.agg ⟨[iP 3, iP 2]⟩, .bool true, 11⟩] 12)],
   [.cells true 3 [iP 0, iP 0, iP 1, iP 1, iP 3, iP 1]],
   .slice (some ⟨9, 0, none⟩) 3 18446744073709551616⟩
theorem fc4_h : fc4.holds EE := ent_run envOk (T := [fb281, fb10, fb27, fb42, fb54, fb58, fb61, fb122, fb110, fb156, fb111, fb157, fb158, fb159, fb198, fb112, fb160, fb161, fb199, fb185, fb186, fb214, fb187, fb215, fb216, fb217, fb285]) (List.forall_mem_cons.2 ⟨fb281_h, List.forall_mem_cons.2 ⟨fb10_h, List.forall_mem_cons.2 ⟨fb27_h, List.forall_mem_cons.2 ⟨fb42_h, List.forall_mem_cons.2 ⟨fb54_h, List.forall_mem_cons.2 ⟨fb58_h, List.forall_mem_cons.2 ⟨fb61_h, List.forall_mem_cons.2 ⟨fb122_h, List.forall_mem_cons.2 ⟨fb110_h, List.forall_mem_cons.2 ⟨fb156_h, List.forall_mem_cons.2 ⟨fb111_h, List.forall_mem_cons.2 ⟨fb157_h, List.forall_mem_cons.2 ⟨fb158_h, List.forall_mem_cons.2 ⟨fb159_h, List.forall_mem_cons.2 ⟨fb198_h, List.forall_mem_cons.2 ⟨fb112_h, List.forall_mem_cons.2 ⟨fb160_h, List.forall_mem_cons.2 ⟨fb161_h, List.forall_mem_cons.2 ⟨fb199_h, List.forall_mem_cons.2 ⟨fb185_h, List.forall_mem_cons.2 ⟨fb186_h, List.forall_mem_cons.2 ⟨fb214_h, List.forall_mem_cons.2 ⟨fb187_h, List.forall_mem_cons.2 ⟨fb215_h, List.forall_mem_cons.2 ⟨fb216_h, List.forall_mem_cons.2 ⟨fb217_h, List.forall_mem_cons.2 ⟨fb285_h, fun _ h => by cases h⟩⟩⟩⟩⟩⟩⟩⟩⟩⟩⟩⟩⟩⟩⟩⟩⟩⟩⟩⟩⟩⟩⟩⟩⟩⟩⟩) 1000000000 _ (by kernel_rfl) (by kernel_rfl)
-- (decani/founder.chest).best, 38609 steps
noncomputable def fc10 : Ent :=
  ⟨31, [.agg ⟨[iP 4, iP 28, .slice (some ⟨3, 0, none⟩) 3 3, .slice (some ⟨4, 0, none⟩) 2 2, .bool false, .slice (some ⟨5, 0, none⟩) 1 1, .bool true, .slice none 0 0, .slice (some ⟨6, 0, none⟩) 1 1, .map (some 7), iP 2]⟩], 8,
   gC ++ [(3, .cells true 0 [iP 1, iP 2, iP 2, iP 1, iP 1, iP 1, iP 2, iP 2, iP 1]),
    (4, .cells true 0 [iP 1, iP 2, iP 1, iP 1, iP 1, iP 2]),
    (5, .cells true 0 [iP 1, iP 2, iP 2]),
    (6, .cells true 0 [iP 0, iP 3, iP 4, iP 1]),
    (7, .map [⟨.agg ⟨[iP 0, iP 0]⟩, .bool true, 0⟩, ⟨.agg ⟨[iP 1, iP 0]⟩, .bool true, 1⟩, ⟨.agg ⟨[iP 2, iP 0]⟩, .bool true, 2⟩, ⟨.agg ⟨[iP 3, iP 0]⟩, .bool true, 3⟩] 4)],
   [.cells true 3 [iP 0, iP 0, iP 1, iP 0, iP 2, iP 0, iP 3, iP 0]],
   .slice (some ⟨8, 0, none⟩) 4 18446744073709551616⟩
theorem fc10_h : fc10.holds EE := ent_run envOk (T := [fb297, fb17, fb33, fb69, fb90, fb131, fb132, fb237, fb242, fb253, fb254, fb274, fb255, fb275, fb276, fb302]) (List.forall_mem_cons.2 ⟨fb297_h, List.forall_mem_cons.2 ⟨fb17_h, List.forall_mem_cons.2 ⟨fb33_h, List.forall_mem_cons.2 ⟨fb69_h, List.forall_mem_cons.2 ⟨fb90_h, List.forall_mem_cons.2 ⟨fb131_h, List.forall_mem_cons.2 ⟨fb132_h, List.forall_mem_cons.2 ⟨fb237_h, List.forall_mem_cons.2 ⟨fb242_h, List.forall_mem_cons.2 ⟨fb253_h, List.forall_mem_cons.2 ⟨fb254_h, List.forall_mem_cons.2 ⟨fb274_h, List.forall_mem_cons.2 ⟨fb255_h, List.forall_mem_cons.2 ⟨fb275_h, List.forall_mem_cons.2 ⟨fb276_h, List.forall_mem_cons.2 ⟨fb302_h, fun _ h => by cases h⟩⟩⟩⟩⟩⟩⟩⟩⟩⟩⟩⟩⟩⟩⟩⟩) 1000000000 _ (by kernel_rfl) (by kernel_rfl)
-- (decani/founder.chest).best, 36214 steps
noncomputable def fc14 : Ent :=
  ⟨31, [.agg ⟨[iP 4, iP 28, .slice (some ⟨3, 0, none⟩) 3 3, .slice (some ⟨4, 0, none⟩) 2 2, .bool false, .slice (some ⟨5, 0, none⟩) 1 1, .bool true, .slice none 0 0, .slice (some ⟨6, 0, none⟩) 3 3, .map (some 7), iP 2]⟩], 8,
   gC ++ [(3, .cells true 0 [iP 1, iP 2, iP 2, iP 1, iP 1, iP 1, iP 2, iP 2, iP 1]),
    (4, .cells true 0 [iP 1, iP 2, iP 1, iP 1, iP 1, iP 2]),
    (5, .cells true 0 [iP 1, iP 2, iP 2]),
    (6, .cells true 0 [iP 0, iN 0, iP 2, iP 10, iP 0, iP 1, iP 2, iP 6, iP 1, iP 1, iP 1, iP 4]),
    (7, .map [⟨.agg ⟨[iP 0, iP 0]⟩, .bool true, 0⟩, ⟨.agg ⟨[iP 1, iP 0]⟩, .bool false, 1⟩, ⟨.agg ⟨[iP 2, iP 0]⟩, .bool false, 2⟩, ⟨.agg ⟨[iP 3, iP 0]⟩, .bool false, 3⟩, ⟨.agg ⟨[iP 0, iP 1]⟩, .bool true, 4⟩, ⟨.agg ⟨[iP 1, iP 1]⟩, .bool false, 5⟩, ⟨.agg ⟨[iP 2, iP 1]⟩, .bool false, 6⟩, ⟨.agg ⟨[iP 3, iP 1]⟩, .bool true, 7⟩, ⟨.agg ⟨[iP 0, iP 2]⟩, .bool true, 8⟩, ⟨.agg ⟨[iP 1, iP 2]⟩, .bool false, 9⟩, ⟨.agg ⟨[iP 2, iP 2]⟩, .bool false, 10⟩, ⟨.agg ⟨[iP 3, iP 2]⟩, .bool true, 11⟩] 12)],
   [.cells true 3 [iP 0, iP 0, iP 3, iP 1]],
   .slice (some ⟨8, 0, none⟩) 2 18446744073709551616⟩
theorem fc14_h : fc14.holds EE := ent_run envOk (T := [fb290, fb65, fb173, fb205, fb206, fb226, fb207, fb227, fb232, fb233, fb293]) (List.forall_mem_cons.2 ⟨fb290_h, List.forall_mem_cons.2 ⟨fb65_h, List.forall_mem_cons.2 ⟨fb173_h, List.forall_mem_cons.2 ⟨fb205_h, List.forall_mem_cons.2 ⟨fb206_h, List.forall_mem_cons.2 ⟨fb226_h, List.forall_mem_cons.2 ⟨fb207_h, List.forall_mem_cons.2 ⟨fb227_h, List.forall_mem_cons.2 ⟨fb232_h, List.forall_mem_cons.2 ⟨fb233_h, List.forall_mem_cons.2 ⟨fb293_h, fun _ h => by cases h⟩⟩⟩⟩⟩⟩⟩⟩⟩⟩⟩) 1000000000 _ (by kernel_rfl) (by kernel_rfl)
end Go.Proofs.YtlnbhokokhecdaaGreatDoor
