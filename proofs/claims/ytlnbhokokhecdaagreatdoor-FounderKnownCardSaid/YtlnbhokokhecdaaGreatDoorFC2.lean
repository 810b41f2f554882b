/- Known calls, part 2: what single calls hand back, at small heaps, by the kernel's own run of the evaluator. No conditions. -/
import Derived.Test.YtlnbhokokhecdaaGreatDoorFBT
set_option linter.all false
namespace Go.Proofs.YtlnbhokokhecdaaGreatDoor
open Go.Ai
set_option maxRecDepth 1000000
-- (decani/founder.chest).best, 112695 steps
noncomputable def fc2 : Ent :=
  ⟨31, [.agg ⟨[iP 4, iP 28, .slice (some ⟨3, 0, none⟩) 3 3, .slice (some ⟨4, 0, none⟩) 2 2, .bool false, .slice (some ⟨5, 0, none⟩) 1 1, .bool true, .slice (some ⟨6, 0, none⟩) 1 1, .slice (some ⟨7, 0, none⟩) 3 3, .map (some 8), iP 3]⟩], 9,
   gC ++ [(3, .cells true 0 [iP 1, iP 2, iP 2, iP 1, iP 1, iP 1, iP 2, iP 2, iP 1]),
    (4, .cells true 0 [iP 1, iP 2, iP 1, iP 1, iP 1, iP 2]),
    (5, .cells true 0 [iP 1, iP 2, iP 2]),
    (6, .cells true 0 [iP 0, iP 3, iP 2]),
    (7, .cells true 0 [iP 0, iN 0, iP 2, iP 10, iP 0, iP 1, iP 2, iP 6, iP 1, iP 1, iP 1, iP 4]),
    (8, .map [⟨.agg ⟨[iP 0, iP 0]⟩, .bool true, 0⟩, ⟨.agg ⟨[iP 1, iP 0]⟩, .bool false, 1⟩, ⟨.agg ⟨[iP 2, iP 0]⟩, .bool false, 2⟩, ⟨.agg ⟨[iP 3, iP 0]⟩, .bool false, 3⟩, ⟨.agg ⟨[iP 0, iP 1]⟩, .bool true, 4⟩, ⟨.agg ⟨[iP 1, iP 1]⟩, .bool true, 5⟩, ⟨.agg ⟨[iP 2, iP 1]⟩, .bool false, 6⟩, ⟨.agg ⟨[iP 3, iP 1]⟩, .bool true, 7⟩, ⟨.agg ⟨[iP 0, iP 2]⟩, .bool true, 8⟩, ⟨.agg ⟨[iP 1, iP 2]⟩, .bool true, 9⟩, ⟨.agg ⟨[iP 2, iP 2]⟩, .bool false, 10⟩, ⟨.agg ⟨[iP 3, iP 2]⟩, .bool true, 11⟩] 12)],
   [.cells true 3 [iP 0, iP 0, iP 1, iP 1, iP 3, iP 1, iP 3, iP 2]],
   .slice (some ⟨9, 0, none⟩) 4 18446744073709551616⟩
theorem fc2_h : fc2.holds EE := ent_run envOk (T := [fb261, fb3, fb5, fb21, fb25, fb43, fb37, fb48, fb52, fb86, fb80, fb113, fb81, fb114, fb82, fb115, fb116, fb162, fb83, fb117, fb118, fb163, fb93, fb142, fb143, fb188, fb144, fb189, fb145, fb190, fb191, fb264]) (List.forall_mem_cons.2 ⟨fb261_h, List.forall_mem_cons.2 ⟨fb3_h, List.forall_mem_cons.2 ⟨fb5_h, List.forall_mem_cons.2 ⟨fb21_h, List.forall_mem_cons.2 ⟨fb25_h, List.forall_mem_cons.2 ⟨fb43_h, List.forall_mem_cons.2 ⟨fb37_h, List.forall_mem_cons.2 ⟨fb48_h, List.forall_mem_cons.2 ⟨fb52_h, List.forall_mem_cons.2 ⟨fb86_h, List.forall_mem_cons.2 ⟨fb80_h, List.forall_mem_cons.2 ⟨fb113_h, List.forall_mem_cons.2 ⟨fb81_h, List.forall_mem_cons.2 ⟨fb114_h, List.forall_mem_cons.2 ⟨fb82_h, List.forall_mem_cons.2 ⟨fb115_h, List.forall_mem_cons.2 ⟨fb116_h, List.forall_mem_cons.2 ⟨fb162_h, List.forall_mem_cons.2 ⟨fb83_h, List.forall_mem_cons.2 ⟨fb117_h, List.forall_mem_cons.2 ⟨fb118_h, List.forall_mem_cons.2 ⟨fb163_h, List.forall_mem_cons.2 ⟨fb93_h, List.forall_mem_cons.2 ⟨fb142_h, List.forall_mem_cons.2 ⟨fb143_h, List.forall_mem_cons.2 ⟨fb188_h, List.forall_mem_cons.2 ⟨fb144_h, List.forall_mem_cons.2 ⟨fb189_h, List.forall_mem_cons.2 ⟨fb145_h, List.forall_mem_cons.2 ⟨fb190_h, List.forall_mem_cons.2 ⟨fb191_h, List.forall_mem_cons.2 ⟨fb264_h, fun _ h => by cases h⟩⟩⟩⟩⟩⟩⟩⟩⟩⟩⟩⟩⟩⟩⟩⟩⟩⟩⟩⟩⟩⟩⟩⟩⟩⟩⟩⟩⟩⟩⟩⟩) 1000000000 _ (by kernel_rfl) (by kernel_rfl)
-- (decani/founder.chest).best, 64571 steps
noncomputable def fc5 : Ent :=
  ⟨31, [.agg ⟨[iP 4, iP 28, .slice (some ⟨3, 0, none⟩) 3 3, .slice (some ⟨4, 0, none⟩) 2 2, .bool false, .slice (some ⟨5, 0, none⟩) 1 1, .bool true, .slice none 0 0, .slice (some ⟨6, 0, none⟩) 3 3, .map (some 7), iP 0]⟩], 8,
   gC ++ [(3, .cells true 0 [iP 1, iP 2, iP 2, iP 1, iP 1, iP 1, iP 2, iP 2, iP 1]),
    (4, .cells true 0 [iP 1, iP 2, iP 1, iP 1, iP 1, iP 2]),
    (5, .cells true 0 [iP 1, iP 2, iP 2]),
    (6, .cells true 0 [iP 0, iN 0, iP 2, iP 10, iP 0, iP 1, iP 2, iP 6, iP 1, iP 1, iP 1, iP 4]),
    (7, .map [⟨.agg ⟨[iP 0, iP 0]⟩, .bool true, 0⟩, ⟨.agg ⟨[iP 1, iP 0]⟩, .bool false, 1⟩, ⟨.agg ⟨[iP 2, iP 0]⟩, .bool false, 2⟩, ⟨.agg ⟨[iP 3, iP 0]⟩, .bool false, 3⟩, ⟨.agg ⟨[iP 0, iP 1]⟩, .bool true, 4⟩, ⟨.agg ⟨[iP 1, iP 1]⟩, .bool false, 5⟩, ⟨.agg ⟨[iP 2, iP 1]⟩, .bool false, 6⟩, ⟨.agg ⟨[iP 3, iP 1]⟩, .bool true, 7⟩, ⟨.agg ⟨[iP 0, iP 2]⟩, .bool true, 8⟩, ⟨.agg ⟨[iP 1, iP 2]⟩, .bool false, 9⟩, ⟨.agg ⟨[iP 2, iP 2]⟩, .bool false, 10⟩, ⟨.agg ⟨[iP 3, iP 2]⟩, .bool true, 11⟩] 12)],
   [.cells true 3 [iP 0, iP 0, iP 0, iP 1, iP 3, iP 1]],
   .slice (some ⟨8, 0, none⟩) 3 18446744073709551616⟩
theorem fc5_h : fc5.holds EE := ent_run envOk (T := [fb282, fb11, fb28, fb44, fb55, fb59, fb62, fb123, fb119, fb164, fb165, fb166, fb200, fb167, fb201, fb218, fb219, fb286]) (List.forall_mem_cons.2 ⟨fb282_h, List.forall_mem_cons.2 ⟨fb11_h, List.forall_mem_cons.2 ⟨fb28_h, List.forall_mem_cons.2 ⟨fb44_h, List.forall_mem_cons.2 ⟨fb55_h, List.forall_mem_cons.2 ⟨fb59_h, List.forall_mem_cons.2 ⟨fb62_h, List.forall_mem_cons.2 ⟨fb123_h, List.forall_mem_cons.2 ⟨fb119_h, List.forall_mem_cons.2 ⟨fb164_h, List.forall_mem_cons.2 ⟨fb165_h, List.forall_mem_cons.2 ⟨fb166_h, List.forall_mem_cons.2 ⟨fb200_h, List.forall_mem_cons.2 ⟨fb167_h, List.forall_mem_cons.2 ⟨fb201_h, List.forall_mem_cons.2 ⟨fb218_h, List.forall_mem_cons.2 ⟨fb219_h, List.forall_mem_cons.2 ⟨fb286_h, fun _ h => by cases h⟩⟩⟩⟩⟩⟩⟩⟩⟩⟩⟩⟩⟩⟩⟩⟩⟩⟩) 1000000000 _ (by kernel_rfl) (by kernel_rfl)
-- (decani/founder.chest).best, 38609 steps
noncomputable def fc9 : Ent :=
  ⟨31, [.agg ⟨[iP 4, iP 28, .slice (some ⟨3, 0, none⟩) 3 3, .slice (some ⟨4, 0, none⟩) 2 2, .bool false, .slice (some ⟨5, 0, none⟩) 1 1, .bool true, .slice none 0 0, .slice (some ⟨6, 0, none⟩) 1 1, .map (some 7), iP 1]⟩], 8,
   gC ++ [(3, .cells true 0 [iP 1, iP 2, iP 2, iP 1, iP 1, iP 1, iP 2, iP 2, iP 1]),
    (4, .cells true 0 [iP 1, iP 2, iP 1, iP 1, iP 1, iP 2]),
    (5, .cells true 0 [iP 1, iP 2, iP 2]),
    (6, .cells true 0 [iP 0, iP 3, iP 4, iP 1]),
    (7, .map [⟨.agg ⟨[iP 0, iP 0]⟩, .bool true, 0⟩, ⟨.agg ⟨[iP 1, iP 0]⟩, .bool true, 1⟩, ⟨.agg ⟨[iP 2, iP 0]⟩, .bool true, 2⟩, ⟨.agg ⟨[iP 3, iP 0]⟩, .bool true, 3⟩] 4)],
   [.cells true 3 [iP 0, iP 0, iP 1, iP 0, iP 2, iP 0, iP 3, iP 0]],
   .slice (some ⟨8, 0, none⟩) 4 18446744073709551616⟩
theorem fc9_h : fc9.holds EE := ent_run envOk (T := [fb296, fb16, fb32, fb68, fb89, fb129, fb130, fb236, fb241, fb250, fb251, fb271, fb252, fb272, fb273, fb301]) (List.forall_mem_cons.2 ⟨fb296_h, List.forall_mem_cons.2 ⟨fb16_h, List.forall_mem_cons.2 ⟨fb32_h, List.forall_mem_cons.2 ⟨fb68_h, List.forall_mem_cons.2 ⟨fb89_h, List.forall_mem_cons.2 ⟨fb129_h, List.forall_mem_cons.2 ⟨fb130_h, List.forall_mem_cons.2 ⟨fb236_h, List.forall_mem_cons.2 ⟨fb241_h, List.forall_mem_cons.2 ⟨fb250_h, List.forall_mem_cons.2 ⟨fb251_h, List.forall_mem_cons.2 ⟨fb271_h, List.forall_mem_cons.2 ⟨fb252_h, List.forall_mem_cons.2 ⟨fb272_h, List.forall_mem_cons.2 ⟨fb273_h, List.forall_mem_cons.2 ⟨fb301_h, fun _ h => by cases h⟩⟩⟩⟩⟩⟩⟩⟩⟩⟩⟩⟩⟩⟩⟩⟩) 1000000000 _ (by kernel_rfl) (by kernel_rfl)
-- (decani/founder.chest).best, 36214 steps
noncomputable def fc13 : Ent :=
  ⟨31, [.agg ⟨[iP 4, iP 28, .slice (some ⟨3, 0, none⟩) 3 3, .slice (some ⟨4, 0, none⟩) 2 2, .bool false, .slice (some ⟨5, 0, none⟩) 1 1, .bool true, .slice none 0 0, .slice (some ⟨6, 0, none⟩) 3 3, .map (some 7), iP 1]⟩], 8,
   gC ++ [(3, .cells true 0 [iP 1, iP 2, iP 2, iP 1, iP 1, iP 1, iP 2, iP 2, iP 1]),
    (4, .cells true 0 [iP 1, iP 2, iP 1, iP 1, iP 1, iP 2]),
    (5, .cells true 0 [iP 1, iP 2, iP 2]),
    (6, .cells true 0 [iP 0, iN 0, iP 2, iP 10, iP 0, iP 1, iP 2, iP 6, iP 1, iP 1, iP 1, iP 4]),
    (7, .map [⟨.agg ⟨[iP 0, iP 0]⟩, .bool true, 0⟩, ⟨.agg ⟨[iP 1, iP 0]⟩, .bool false, 1⟩, ⟨.agg ⟨[iP 2, iP 0]⟩, .bool false, 2⟩, ⟨.agg ⟨[iP 3, iP 0]⟩, .bool false, 3⟩, ⟨.agg ⟨[iP 0, iP 1]⟩, .bool true, 4⟩, ⟨.agg ⟨[iP 1, iP 1]⟩, .bool false, 5⟩, ⟨.agg ⟨[iP 2, iP 1]⟩, .bool false, 6⟩, ⟨.agg ⟨[iP 3, iP 1]⟩, .bool true, 7⟩, ⟨.agg ⟨[iP 0, iP 2]⟩, .bool true, 8⟩, ⟨.agg ⟨[iP 1, iP 2]⟩, .bool false, 9⟩, ⟨.agg ⟨[iP 2, iP 2]⟩, .bool false, 10⟩, ⟨.agg ⟨[iP 3, iP 2]⟩, .bool true, 11⟩] 12)],
   [.cells true 3 [iP 0, iP 0, iP 3, iP 1]],
   .slice (some ⟨8, 0, none⟩) 2 18446744073709551616⟩
theorem fc13_h : fc13.holds EE := ent_run envOk (T := [fb289, fb64, fb172, fb202, fb203, fb224, fb204, fb225, fb230, fb231, fb292]) (List.forall_mem_cons.2 ⟨fb289_h, List.forall_mem_cons.2 ⟨fb64_h, List.forall_mem_cons.2 ⟨fb172_h, List.forall_mem_cons.2 ⟨fb202_h, List.forall_mem_cons.2 ⟨fb203_h, List.forall_mem_cons.2 ⟨fb224_h, List.forall_mem_cons.2 ⟨fb204_h, List.forall_mem_cons.2 ⟨fb225_h, List.forall_mem_cons.2 ⟨fb230_h, List.forall_mem_cons.2 ⟨fb231_h, List.forall_mem_cons.2 ⟨fb292_h, fun _ h => by cases h⟩⟩⟩⟩⟩⟩⟩⟩⟩⟩⟩) 1000000000 _ (by kernel_rfl) (by kernel_rfl)
end Go.Proofs.YtlnbhokokhecdaaGreatDoor
