/- Known calls, part 8: what single calls hand back, at small heaps, by the kernel's own run of the evaluator. No conditions. -/
import Derived.Test.YtmjpnohpmfmdlaaGreatDoorBCT
set_option linter.all false
namespace Go.Proofs.YtmjpnohpmfmdlaaGreatDoor
open Go.Ai
set_option maxRecDepth 1000000
-- decani/candle.Life, 20484 steps
noncomputable def ba8 : Ent :=
  ⟨34, [.agg ⟨[iP 8, iP 10, iP 0, iP 0, iP 1, iP 2, iP 1, iP 1, .slice (some ⟨6, 0, none⟩) 2 18446744073709551616, .slice none 0 0, .slice (some ⟨7, 0, none⟩) 1 1]⟩, iP 0], 8,
   gC ++ [(6, .cells true 6 [iP 2, iP 2, iP 2, iP 0, iP 0, iP 2, iP 2, iP 2, iP 1, iP 0]),
    (7, .cells true 0 [iP 1, iP 0, iP 8, iP 0])],
   [],
   .tuple ⟨[.agg ⟨[iP 1, iP 2]⟩, iP 0]⟩⟩
theorem ba8_h : ba8.holds EE := ent_run envOk (T := [bc11]) (List.forall_mem_cons.2 ⟨bc11_h, fun _ h => by cases h⟩) 1000000000 _ (by kernel_rfl) (by kernel_rfl)
-- decani/candle.Left, 15393 steps
noncomputable def ba25 : Ent :=
  ⟨31, [.agg ⟨[iP 9, iP 10, iP 0, iP 0, iP 2, iP 3, iP 1, iP 1, .slice (some ⟨6, 0, none⟩) 2 18446744073709551616, .slice none 0 0, .slice (some ⟨7, 0, none⟩) 1 1]⟩, iP 0, iP 1], 8,
   gC ++ [(6, .cells true 6 [iP 2, iP 2, iP 2, iP 0, iP 0, iP 2, iP 2, iP 2, iP 1, iP 0]),
    (7, .cells true 0 [iP 1, iP 0, iP 9, iP 0])],
   [],
   .tuple ⟨[.agg ⟨[iP 9, iP 9]⟩, iP 0]⟩⟩
theorem ba25_h : ba25.holds EE := ent_run envOk (T := [bc28]) (List.forall_mem_cons.2 ⟨bc28_h, fun _ h => by cases h⟩) 1000000000 _ (by kernel_rfl) (by kernel_rfl)
-- decani/candle.Left, 14523 steps
noncomputable def ba42 : Ent :=
  ⟨31, [.agg ⟨[iP 8, iP 10, iP 0, iP 0, iP 1, iP 2, iP 1, iP 1, .slice (some ⟨6, 0, none⟩) 2 18446744073709551616, .slice none 0 0, .slice (some ⟨7, 0, none⟩) 1 1]⟩, iP 0, iP 1], 8,
   gC ++ [(6, .cells true 6 [iP 2, iP 2, iP 2, iP 0, iP 0, iP 2, iP 2, iP 2, iP 1, iP 0]),
    (7, .cells true 0 [iP 0, iP 0, iP 9, iP 0])],
   [],
   .tuple ⟨[.agg ⟨[iP 7, iP 8]⟩, iP 0]⟩⟩
theorem ba42_h : ba42.holds EE := ent_run envOk (T := [bc45]) (List.forall_mem_cons.2 ⟨bc45_h, fun _ h => by cases h⟩) 1000000000 _ (by kernel_rfl) (by kernel_rfl)
-- decani/cold.Caught, 13129 steps
noncomputable def ba59 : Ent :=
  ⟨10, [.agg ⟨[iP 2, iP 6, iP 1, iP 2, iP 1, iP 1, iP 1, iP 2, .slice none 0 0, iP 0, .slice (some ⟨6, 0, none⟩) 2 2]⟩, iP 0], 7,
   gC ++ [(6, .cells true 0 [iP 0, iP 3, .bool true, iP 0, iP 2, .bool false])],
   [],
   .tuple ⟨[.agg ⟨[iP 2, iP 2]⟩, iP 0]⟩⟩
theorem ba59_h : ba59.holds EE := ent_run envOk (T := [bc27]) (List.forall_mem_cons.2 ⟨bc27_h, fun _ h => by cases h⟩) 1000000000 _ (by kernel_rfl) (by kernel_rfl)
-- decani/candle.Left, 12469 steps
noncomputable def ba76 : Ent :=
  ⟨31, [.agg ⟨[iP 9, iP 10, iP 0, iP 0, iP 2, iP 3, iP 1, iP 1, .slice (some ⟨6, 0, none⟩) 2 18446744073709551616, .slice none 0 0, .slice (some ⟨7, 0, none⟩) 1 1]⟩, iP 0, iP 0], 8,
   gC ++ [(6, .cells true 6 [iP 2, iP 2, iP 2, iP 0, iP 0, iP 2, iP 2, iP 2, iP 1, iP 0]),
    (7, .cells true 0 [iP 0, iP 0, iP 10, iP 0])],
   [],
   .tuple ⟨[.agg ⟨[iP 10, iP 10]⟩, iP 0]⟩⟩
theorem ba76_h : ba76.holds EE := ent_run envOk (T := [bc46]) (List.forall_mem_cons.2 ⟨bc46_h, fun _ h => by cases h⟩) 1000000000 _ (by kernel_rfl) (by kernel_rfl)
-- decani/cold.Caught, 11836 steps
noncomputable def ba93 : Ent :=
  ⟨10, [.agg ⟨[iP 2, iP 6, iP 1, iP 2, iP 1, iP 1, iP 1, iP 2, .slice none 0 0, iP 0, .slice (some ⟨6, 0, none⟩) 2 2]⟩, iP 1], 7,
   gC ++ [(6, .cells true 0 [iP 1, iP 4, .bool true, iP 1, iP 3, .bool false])],
   [],
   .tuple ⟨[.agg ⟨[iP 3, iP 3]⟩, iP 0]⟩⟩
theorem ba93_h : ba93.holds EE := ent_run envOk (T := [bc35]) (List.forall_mem_cons.2 ⟨bc35_h, fun _ h => by cases h⟩) 1000000000 _ (by kernel_rfl) (by kernel_rfl)
-- decani/candle.Life, 10968 steps
noncomputable def ba111 : Ent :=
  ⟨34, [.agg ⟨[iP 8, iP 10, iP 0, iP 0, iP 2, iP 2, iP 1, iP 1, .slice (some ⟨6, 0, none⟩) 2 18446744073709551616, .slice none 0 0, .slice (some ⟨7, 0, none⟩) 1 1]⟩, iP 0], 8,
   gC ++ [(6, .cells true 6 [iP 2, iP 2, iP 2, iP 0, iP 0, iP 2, iP 2, iP 2, iP 1, iP 0]),
    (7, .cells true 0 [iP 0, iP 0, iP 10, iP 0])],
   [],
   .tuple ⟨[.agg ⟨[iP 2, iP 2]⟩, iP 0]⟩⟩
theorem ba111_h : ba111.holds EE := ent_run envOk (T := [bc43]) (List.forall_mem_cons.2 ⟨bc43_h, fun _ h => by cases h⟩) 1000000000 _ (by kernel_rfl) (by kernel_rfl)
-- decani/candle.Life, 10180 steps
noncomputable def ba129 : Ent :=
  ⟨34, [.agg ⟨[iP 8, iP 10, iP 0, iP 0, iP 2, iP 2, iP 1, iP 1, .slice (some ⟨6, 0, none⟩) 2 18446744073709551616, .slice none 0 0, .slice (some ⟨7, 0, none⟩) 1 1]⟩, iP 0], 8,
   gC ++ [(6, .cells true 6 [iP 2, iP 2, iP 2, iP 0, iP 0, iP 2, iP 2, iP 2, iP 1, iP 0]),
    (7, .cells true 0 [iP 1, iP 0, iP 7, iP 0])],
   [],
   .tuple ⟨[.agg ⟨[iP 2, iP 2]⟩, iP 0]⟩⟩
theorem ba129_h : ba129.holds EE := ent_run envOk (T := [bc162]) (List.forall_mem_cons.2 ⟨bc162_h, fun _ h => by cases h⟩) 1000000000 _ (by kernel_rfl) (by kernel_rfl)
-- decani/cold.Caught, 9661 steps
noncomputable def ba146 : Ent :=
  ⟨10, [.agg ⟨[iP 2, iP 6, iP 1, iP 1, iP 1, iP 1, iP 1, iP 2, .slice none 0 0, iP 0, .slice (some ⟨6, 0, none⟩) 2 2]⟩, iP 1], 7,
   gC ++ [(6, .cells true 0 [iP 1, iP 4, .bool true, iP 1, iP 3, .bool false])],
   [],
   .tuple ⟨[.agg ⟨[iP 3, iP 3]⟩, iP 0]⟩⟩
theorem ba146_h : ba146.holds EE := ent_run envOk (T := [bc34]) (List.forall_mem_cons.2 ⟨bc34_h, fun _ h => by cases h⟩) 1000000000 _ (by kernel_rfl) (by kernel_rfl)
-- decani/candle.Right, 9386 steps
noncomputable def ba161 : Ent :=
  ⟨30, [.agg ⟨[iP 9, iP 10, iP 0, iP 0, iP 1, iP 2, iP 1, iP 1, .slice (some ⟨6, 0, none⟩) 2 18446744073709551616, .slice none 0 0, .slice (some ⟨7, 0, none⟩) 1 1]⟩], 8,
   gC ++ [(6, .cells true 6 [iP 2, iP 2, iP 2, iP 0, iP 0, iP 2, iP 2, iP 2, iP 1, iP 0]),
    (7, .cells true 0 [iP 1, iP 0, iP 10, iP 0])],
   [],
   .tuple ⟨[.bool false, iP 0]⟩⟩
theorem ba161_h : ba161.holds EE := ent_run envOk (T := [bc5]) (List.forall_mem_cons.2 ⟨bc5_h, fun _ h => by cases h⟩) 1000000000 _ (by kernel_rfl) (by kernel_rfl)
-- decani/cold.Caught, 8945 steps
noncomputable def ba172 : Ent :=
  ⟨10, [.agg ⟨[iP 2, iP 6, iP 1, iP 1, iP 1, iP 1, iP 1, iP 2, .slice none 0 0, iP 0, .slice (some ⟨6, 0, none⟩) 2 2]⟩, iP 1], 7,
   gC ++ [(6, .cells true 0 [iP 0, iP 2, .bool true, iP 0, iP 1, .bool false])],
   [],
   .tuple ⟨[.agg ⟨[iP 2, iP 3]⟩, iP 0]⟩⟩
theorem ba172_h : ba172.holds EE := ent_run envOk (T := [bc81]) (List.forall_mem_cons.2 ⟨bc81_h, fun _ h => by cases h⟩) 1000000000 _ (by kernel_rfl) (by kernel_rfl)
-- decani/cold.Caught, 8595 steps
noncomputable def ba196 : Ent :=
  ⟨10, [.agg ⟨[iP 2, iP 6, iP 1, iP 2, iP 1, iP 1, iP 2, iP 2, .slice none 0 0, iP 0, .slice (some ⟨6, 0, none⟩) 2 2]⟩, iP 0], 7,
   gC ++ [(6, .cells true 0 [iP 1, iP 5, .bool true, iP 1, iP 4, .bool false])],
   [],
   .tuple ⟨[.agg ⟨[iP 2, iP 2]⟩, iP 0]⟩⟩
theorem ba196_h : ba196.holds EE := ent_run envOk (T := [bc64]) (List.forall_mem_cons.2 ⟨bc64_h, fun _ h => by cases h⟩) 1000000000 _ (by kernel_rfl) (by kernel_rfl)
-- decani/candle.Right, 8516 steps
noncomputable def ba208 : Ent :=
  ⟨30, [.agg ⟨[iP 8, iP 10, iP 0, iP 0, iP 2, iP 3, iP 1, iP 1, .slice (some ⟨6, 0, none⟩) 2 18446744073709551616, .slice none 0 0, .slice (some ⟨7, 0, none⟩) 1 1]⟩], 8,
   gC ++ [(6, .cells true 6 [iP 2, iP 2, iP 2, iP 0, iP 0, iP 2, iP 2, iP 2, iP 1, iP 0]),
    (7, .cells true 0 [iP 0, iP 0, iP 7, iP 0])],
   [],
   .tuple ⟨[.bool false, iP 0]⟩⟩
theorem ba208_h : ba208.holds EE := ent_run envOk (T := [bc17]) (List.forall_mem_cons.2 ⟨bc17_h, fun _ h => by cases h⟩) 1000000000 _ (by kernel_rfl) (by kernel_rfl)
-- decani/candle.Left, 8209 steps
noncomputable def ba228 : Ent :=
  ⟨31, [.agg ⟨[iP 10, iP 10, iP 0, iP 0, iP 1, iP 2, iP 1, iP 1, .slice (some ⟨6, 0, none⟩) 2 18446744073709551616, .slice none 0 0, .slice (some ⟨7, 0, none⟩) 1 1]⟩, iP 0, iP 1], 8,
   gC ++ [(6, .cells true 6 [iP 2, iP 2, iP 2, iP 0, iP 0, iP 2, iP 2, iP 2, iP 1, iP 0]),
    (7, .cells true 0 [iP 1, iP 0, iP 8, iP 0])],
   [],
   .tuple ⟨[.agg ⟨[iP 8, iP 8]⟩, iP 0]⟩⟩
theorem ba228_h : ba228.holds EE := ent_run envOk (T := [bc144]) (List.forall_mem_cons.2 ⟨bc144_h, fun _ h => by cases h⟩) 1000000000 _ (by kernel_rfl) (by kernel_rfl)
-- decani/candle.Right, 7922 steps
noncomputable def ba245 : Ent :=
  ⟨30, [.agg ⟨[iP 8, iP 10, iP 0, iP 0, iP 2, iP 2, iP 1, iP 1, .slice (some ⟨6, 0, none⟩) 2 18446744073709551616, .slice none 0 0, .slice (some ⟨7, 0, none⟩) 1 1]⟩], 8,
   gC ++ [(6, .cells true 6 [iP 2, iP 2, iP 2, iP 0, iP 0, iP 2, iP 2, iP 2, iP 1, iP 0]),
    (7, .cells true 0 [iP 1, iP 0, iP 6, iP 0])],
   [],
   .tuple ⟨[.bool false, iP 0]⟩⟩
theorem ba245_h : ba245.holds EE := ent_run envOk (T := [bc24]) (List.forall_mem_cons.2 ⟨bc24_h, fun _ h => by cases h⟩) 1000000000 _ (by kernel_rfl) (by kernel_rfl)
-- decani/candle.Life, 7593 steps
noncomputable def ba268 : Ent :=
  ⟨34, [.agg ⟨[iP 9, iP 10, iP 0, iP 0, iP 1, iP 1, iP 1, iP 1, .slice (some ⟨6, 0, none⟩) 2 18446744073709551616, .slice none 0 0, .slice (some ⟨7, 0, none⟩) 1 1]⟩, iP 0], 8,
   gC ++ [(6, .cells true 6 [iP 2, iP 2, iP 2, iP 0, iP 0, iP 2, iP 2, iP 2, iP 1, iP 0]),
    (7, .cells true 0 [iP 0, iP 0, iP 9, iP 0])],
   [],
   .tuple ⟨[.agg ⟨[iP 1, iP 1]⟩, iP 0]⟩⟩
theorem ba268_h : ba268.holds EE := ent_run envOk (T := [bc145]) (List.forall_mem_cons.2 ⟨bc145_h, fun _ h => by cases h⟩) 1000000000 _ (by kernel_rfl) (by kernel_rfl)
-- decani/cold.Caught, 7275 steps
noncomputable def ba274 : Ent :=
  ⟨10, [.agg ⟨[iP 2, iP 6, iP 1, iP 2, iP 1, iP 1, iP 1, iP 2, .slice none 0 0, iP 0, .slice (some ⟨6, 0, none⟩) 2 2]⟩, iP 0], 7,
   gC ++ [(6, .cells true 0 [iP 0, iP 4, .bool true, iP 0, iP 3, .bool false])],
   [],
   .tuple ⟨[.agg ⟨[iP 0, iP 0]⟩, iP 32]⟩⟩
theorem ba274_h : ba274.holds EE := ent_run envOk (T := [bc12]) (List.forall_mem_cons.2 ⟨bc12_h, fun _ h => by cases h⟩) 1000000000 _ (by kernel_rfl) (by kernel_rfl)
-- decani/candle.Left, 6549 steps
noncomputable def ba300 : Ent :=
  ⟨31, [.agg ⟨[iP 10, iP 10, iP 0, iP 0, iP 2, iP 2, iP 1, iP 1, .slice (some ⟨6, 0, none⟩) 2 18446744073709551616, .slice none 0 0, .slice (some ⟨7, 0, none⟩) 1 1]⟩, iP 0, iP 1], 8,
   gC ++ [(6, .cells true 6 [iP 2, iP 2, iP 2, iP 0, iP 0, iP 2, iP 2, iP 2, iP 1, iP 0]),
    (7, .cells true 0 [iP 0, iP 0, iP 10, iP 0])],
   [],
   .tuple ⟨[.agg ⟨[iP 9, iP 9]⟩, iP 0]⟩⟩
theorem ba300_h : ba300.holds EE := ent_run envOk (T := [bc153]) (List.forall_mem_cons.2 ⟨bc153_h, fun _ h => by cases h⟩) 1000000000 _ (by kernel_rfl) (by kernel_rfl)
-- decani/candle.Right, 6462 steps
noncomputable def ba317 : Ent :=
  ⟨30, [.agg ⟨[iP 9, iP 10, iP 0, iP 0, iP 2, iP 3, iP 1, iP 1, .slice (some ⟨6, 0, none⟩) 2 18446744073709551616, .slice none 0 0, .slice (some ⟨7, 0, none⟩) 1 1]⟩], 8,
   gC ++ [(6, .cells true 6 [iP 2, iP 2, iP 2, iP 0, iP 0, iP 2, iP 2, iP 2, iP 1, iP 0]),
    (7, .cells true 0 [iP 0, iP 0, iP 6, iP 0])],
   [],
   .tuple ⟨[.bool false, iP 0]⟩⟩
theorem ba317_h : ba317.holds EE := ent_run envOk (T := [bc41]) (List.forall_mem_cons.2 ⟨bc41_h, fun _ h => by cases h⟩) 1000000000 _ (by kernel_rfl) (by kernel_rfl)
-- decani/cold.Caught, 6242 steps
noncomputable def ba338 : Ent :=
  ⟨10, [.agg ⟨[iP 2, iP 6, iP 1, iP 2, iP 1, iP 1, iP 2, iP 2, .slice none 0 0, iP 0, .slice (some ⟨6, 0, none⟩) 2 2]⟩, iP 0], 7,
   gC ++ [(6, .cells true 0 [iP 0, iP 2, .bool true, iP 0, iP 1, .bool false])],
   [],
   .tuple ⟨[.agg ⟨[iP 1, iP 1]⟩, iP 0]⟩⟩
theorem ba338_h : ba338.holds EE := ent_run envOk (T := [bc99]) (List.forall_mem_cons.2 ⟨bc99_h, fun _ h => by cases h⟩) 1000000000 _ (by kernel_rfl) (by kernel_rfl)
-- decani/cold.Takes, 6129 steps
noncomputable def ba354 : Ent :=
  ⟨33, [.agg ⟨[iP 2, iP 6, iP 1, iP 1, iP 1, iP 1, iP 1, iP 1, .slice none 0 0, iP 0, .slice (some ⟨6, 0, none⟩) 2 2]⟩, iP 1], 7,
   gC ++ [(6, .cells true 0 [iP 0, iP 2, .bool true, iP 0, iP 1, .bool false])],
   [],
   .tuple ⟨[.agg ⟨[iP 1, iP 1]⟩, iP 0]⟩⟩
theorem ba354_h : ba354.holds EE := ent_run envOk (T := [bc101]) (List.forall_mem_cons.2 ⟨bc101_h, fun _ h => by cases h⟩) 1000000000 _ (by kernel_rfl) (by kernel_rfl)
-- decani/candle.Left, 6055 steps
noncomputable def ba371 : Ent :=
  ⟨31, [.agg ⟨[iP 10, iP 10, iP 0, iP 0, iP 1, iP 2, iP 1, iP 1, .slice (some ⟨6, 0, none⟩) 2 18446744073709551616, .slice none 0 0, .slice (some ⟨7, 0, none⟩) 1 1]⟩, iP 0, iP 1], 8,
   gC ++ [(6, .cells true 6 [iP 2, iP 2, iP 2, iP 0, iP 0, iP 2, iP 2, iP 2, iP 1, iP 0]),
    (7, .cells true 0 [iP 1, iP 0, iP 10, iP 0])],
   [],
   .tuple ⟨[.agg ⟨[iP 0, iP 0]⟩, iP 62]⟩⟩
theorem ba371_h : ba371.holds EE := ent_run envOk (T := [bc67]) (List.forall_mem_cons.2 ⟨bc67_h, fun _ h => by cases h⟩) 1000000000 _ (by kernel_rfl) (by kernel_rfl)
-- decani/cold.Takes, 5977 steps
noncomputable def ba388 : Ent :=
  ⟨33, [.agg ⟨[iP 2, iP 6, iP 1, iP 2, iP 1, iP 1, iP 2, iP 2, .slice none 0 0, iP 0, .slice (some ⟨6, 0, none⟩) 2 2]⟩, iP 1], 7,
   gC ++ [(6, .cells true 0 [iP 1, iP 3, .bool true, iP 1, iP 2, .bool false])],
   [],
   .tuple ⟨[.agg ⟨[iP 2, iP 2]⟩, iP 0]⟩⟩
theorem ba388_h : ba388.holds EE := ent_run envOk (T := [bc203]) (List.forall_mem_cons.2 ⟨bc203_h, fun _ h => by cases h⟩) 1000000000 _ (by kernel_rfl) (by kernel_rfl)
-- decani/candle.Right, 5870 steps
noncomputable def ba403 : Ent :=
  ⟨30, [.agg ⟨[iP 10, iP 10, iP 0, iP 0, iP 2, iP 3, iP 1, iP 1, .slice (some ⟨6, 0, none⟩) 2 18446744073709551616, .slice none 0 0, .slice (some ⟨7, 0, none⟩) 1 1]⟩], 8,
   gC ++ [(6, .cells true 6 [iP 2, iP 2, iP 2, iP 0, iP 0, iP 2, iP 2, iP 2, iP 1, iP 0]),
    (7, .cells true 0 [iP 1, iP 0, iP 6, iP 0])],
   [],
   .tuple ⟨[.bool false, iP 0]⟩⟩
theorem ba403_h : ba403.holds EE := ent_run envOk (T := [bc73]) (List.forall_mem_cons.2 ⟨bc73_h, fun _ h => by cases h⟩) 1000000000 _ (by kernel_rfl) (by kernel_rfl)
-- decani/cold.Caught, 5183 steps
noncomputable def ba422 : Ent :=
  ⟨10, [.agg ⟨[iP 2, iP 6, iP 1, iP 1, iP 1, iP 1, iP 1, iP 2, .slice none 0 0, iP 0, .slice (some ⟨6, 0, none⟩) 2 2]⟩, iP 1], 7,
   gC ++ [(6, .cells true 0 [iP 0, iP 3, .bool true, iP 0, iP 2, .bool false])],
   [],
   .tuple ⟨[.agg ⟨[iP 0, iP 0]⟩, iP 32]⟩⟩
theorem ba422_h : ba422.holds EE := ent_run envOk (T := [bc30]) (List.forall_mem_cons.2 ⟨bc30_h, fun _ h => by cases h⟩) 1000000000 _ (by kernel_rfl) (by kernel_rfl)
-- decani/cold.Caught, 5183 steps
noncomputable def ba426 : Ent :=
  ⟨10, [.agg ⟨[iP 2, iP 6, iP 1, iP 1, iP 1, iP 1, iP 1, iP 2, .slice none 0 0, iP 0, .slice (some ⟨6, 0, none⟩) 2 2]⟩, iP 1], 7,
   gC ++ [(6, .cells true 0 [iP 0, iP 5, .bool true, iP 0, iP 4, .bool false])],
   [],
   .tuple ⟨[.agg ⟨[iP 0, iP 0]⟩, iP 32]⟩⟩
theorem ba426_h : ba426.holds EE := ent_run envOk (T := [bc32]) (List.forall_mem_cons.2 ⟨bc32_h, fun _ h => by cases h⟩) 1000000000 _ (by kernel_rfl) (by kernel_rfl)
-- decani/cold.Caught, 4923 steps
noncomputable def ba443 : Ent :=
  ⟨10, [.agg ⟨[iP 2, iP 6, iP 1, iP 2, iP 1, iP 1, iP 1, iP 2, .slice none 0 0, iP 0, .slice (some ⟨6, 0, none⟩) 2 2]⟩, iP 0], 7,
   gC ++ [(6, .cells true 0 [iP 0, iP 1, .bool true, iP 0, iP 0, .bool false])],
   [],
   .tuple ⟨[.agg ⟨[iP 0, iP 0]⟩, iP 0]⟩⟩
theorem ba443_h : ba443.holds EE := ent_run envOk (T := [bc204]) (List.forall_mem_cons.2 ⟨bc204_h, fun _ h => by cases h⟩) 1000000000 _ (by kernel_rfl) (by kernel_rfl)
-- decani/candle.Left, 4789 steps
noncomputable def ba459 : Ent :=
  ⟨31, [.agg ⟨[iP 9, iP 10, iP 0, iP 0, iP 1, iP 1, iP 1, iP 1, .slice (some ⟨6, 0, none⟩) 2 18446744073709551616, .slice none 0 0, .slice (some ⟨7, 0, none⟩) 1 1]⟩, iP 0, iP 1], 8,
   gC ++ [(6, .cells true 6 [iP 2, iP 2, iP 2, iP 0, iP 0, iP 2, iP 2, iP 2, iP 1, iP 0]),
    (7, .cells true 0 [iP 0, iP 0, iP 7, iP 0])],
   [],
   .tuple ⟨[.agg ⟨[iP 0, iP 0]⟩, iP 62]⟩⟩
theorem ba459_h : ba459.holds EE := ent_run envOk (T := [bc108]) (List.forall_mem_cons.2 ⟨bc108_h, fun _ h => by cases h⟩) 1000000000 _ (by kernel_rfl) (by kernel_rfl)
-- decani/candle.Right, 4604 steps
noncomputable def ba481 : Ent :=
  ⟨30, [.agg ⟨[iP 9, iP 10, iP 0, iP 0, iP 1, iP 1, iP 1, iP 1, .slice (some ⟨6, 0, none⟩) 2 18446744073709551616, .slice none 0 0, .slice (some ⟨7, 0, none⟩) 1 1]⟩], 8,
   gC ++ [(6, .cells true 6 [iP 2, iP 2, iP 2, iP 0, iP 0, iP 2, iP 2, iP 2, iP 1, iP 0]),
    (7, .cells true 0 [iP 0, iP 0, iP 8, iP 0])],
   [],
   .tuple ⟨[.bool false, iP 0]⟩⟩
theorem ba481_h : ba481.holds EE := ent_run envOk (T := [bc107]) (List.forall_mem_cons.2 ⟨bc107_h, fun _ h => by cases h⟩) 1000000000 _ (by kernel_rfl) (by kernel_rfl)
-- decani/candle.Left, 4593 steps
noncomputable def ba494 : Ent :=
  ⟨31, [.agg ⟨[iP 10, iP 10, iP 0, iP 0, iP 1, iP 2, iP 1, iP 1, .slice (some ⟨6, 0, none⟩) 2 18446744073709551616, .slice none 0 0, .slice (some ⟨7, 0, none⟩) 1 1]⟩, iP 0, iP 1], 8,
   gC ++ [(6, .cells true 6 [iP 2, iP 2, iP 2, iP 0, iP 0, iP 2, iP 2, iP 2, iP 1, iP 0]),
    (7, .cells true 0 [iP 0, iP 0, iP 6, iP 0])],
   [],
   .tuple ⟨[.agg ⟨[iP 0, iP 0]⟩, iP 62]⟩⟩
theorem ba494_h : ba494.holds EE := ent_run envOk (T := [bc127]) (List.forall_mem_cons.2 ⟨bc127_h, fun _ h => by cases h⟩) 1000000000 _ (by kernel_rfl) (by kernel_rfl)
-- decani/candle.Right, 4408 steps
noncomputable def ba516 : Ent :=
  ⟨30, [.agg ⟨[iP 10, iP 10, iP 0, iP 0, iP 1, iP 2, iP 1, iP 1, .slice (some ⟨6, 0, none⟩) 2 18446744073709551616, .slice none 0 0, .slice (some ⟨7, 0, none⟩) 1 1]⟩], 8,
   gC ++ [(6, .cells true 6 [iP 2, iP 2, iP 2, iP 0, iP 0, iP 2, iP 2, iP 2, iP 1, iP 0]),
    (7, .cells true 0 [iP 0, iP 0, iP 8, iP 0])],
   [],
   .tuple ⟨[.bool false, iP 0]⟩⟩
theorem ba516_h : ba516.holds EE := ent_run envOk (T := [bc125]) (List.forall_mem_cons.2 ⟨bc125_h, fun _ h => by cases h⟩) 1000000000 _ (by kernel_rfl) (by kernel_rfl)
-- decani/candle.Left, 4395 steps
noncomputable def ba528 : Ent :=
  ⟨31, [.agg ⟨[iP 10, iP 10, iP 0, iP 0, iP 1, iP 1, iP 1, iP 1, .slice (some ⟨6, 0, none⟩) 2 18446744073709551616, .slice none 0 0, .slice (some ⟨7, 0, none⟩) 1 1]⟩, iP 0, iP 1], 8,
   gC ++ [(6, .cells true 6 [iP 2, iP 2, iP 2, iP 0, iP 0, iP 2, iP 2, iP 2, iP 1, iP 0]),
    (7, .cells true 0 [iP 1, iP 0, iP 7, iP 0])],
   [],
   .tuple ⟨[.agg ⟨[iP 0, iP 0]⟩, iP 62]⟩⟩
theorem ba528_h : ba528.holds EE := ent_run envOk (T := [bc135]) (List.forall_mem_cons.2 ⟨bc135_h, fun _ h => by cases h⟩) 1000000000 _ (by kernel_rfl) (by kernel_rfl)
-- decani/candle.Right, 4207 steps
noncomputable def ba550 : Ent :=
  ⟨30, [.agg ⟨[iP 10, iP 10, iP 0, iP 0, iP 1, iP 2, iP 1, iP 1, .slice (some ⟨6, 0, none⟩) 2 18446744073709551616, .slice none 0 0, .slice (some ⟨7, 0, none⟩) 1 1]⟩], 8,
   gC ++ [(6, .cells true 6 [iP 2, iP 2, iP 2, iP 0, iP 0, iP 2, iP 2, iP 2, iP 1, iP 0]),
    (7, .cells true 0 [iP 1, iP 0, iP 8, iP 0])],
   [],
   .tuple ⟨[.bool true, iP 0]⟩⟩
theorem ba550_h : ba550.holds EE := ent_run envOk (T := [bc144]) (List.forall_mem_cons.2 ⟨bc144_h, fun _ h => by cases h⟩) 1000000000 _ (by kernel_rfl) (by kernel_rfl)
-- decani/candle.Right, 4207 steps
noncomputable def ba567 : Ent :=
  ⟨30, [.agg ⟨[iP 8, iP 10, iP 0, iP 0, iP 2, iP 2, iP 1, iP 1, .slice (some ⟨6, 0, none⟩) 2 18446744073709551616, .slice none 0 0, .slice (some ⟨7, 0, none⟩) 1 1]⟩], 8,
   gC ++ [(6, .cells true 6 [iP 2, iP 2, iP 2, iP 0, iP 0, iP 2, iP 2, iP 2, iP 1, iP 0]),
    (7, .cells true 0 [iP 0, iP 0, iP 8, iP 0])],
   [],
   .tuple ⟨[.bool true, iP 0]⟩⟩
theorem ba567_h : ba567.holds EE := ent_run envOk (T := [bc161]) (List.forall_mem_cons.2 ⟨bc161_h, fun _ h => by cases h⟩) 1000000000 _ (by kernel_rfl) (by kernel_rfl)
-- decani/candle.Right, 3874 steps
noncomputable def ba591 : Ent :=
  ⟨30, [.agg ⟨[iP 9, iP 10, iP 0, iP 0, iP 2, iP 2, iP 1, iP 1, .slice (some ⟨6, 0, none⟩) 2 18446744073709551616, .slice none 0 0, .slice none 0 0]⟩], 7,
   gC ++ [(6, .cells true 6 [iP 2, iP 2, iP 2, iP 0, iP 0, iP 2, iP 2, iP 2, iP 1, iP 0])],
   [],
   .tuple ⟨[.bool true, iP 0]⟩⟩
theorem ba591_h : ba591.holds EE := ent_run envOk (T := [bc173]) (List.forall_mem_cons.2 ⟨bc173_h, fun _ h => by cases h⟩) 1000000000 _ (by kernel_rfl) (by kernel_rfl)
-- decani/cold.Caught, 3727 steps
noncomputable def ba608 : Ent :=
  ⟨10, [.agg ⟨[iP 2, iP 6, iP 1, iP 0, iP 1, iP 1, iP 2, iP 2, .slice none 0 0, iP 0, .slice (some ⟨6, 0, none⟩) 2 2]⟩, iP 0], 7,
   gC ++ [(6, .cells true 0 [iP 1, iP 3, .bool true, iP 1, iP 2, .bool false])],
   [],
   .tuple ⟨[.agg ⟨[iP 0, iP 0]⟩, iP 0]⟩⟩
theorem ba608_h : ba608.holds EE := ent_run envOk (T := [bc195]) (List.forall_mem_cons.2 ⟨bc195_h, fun _ h => by cases h⟩) 1000000000 _ (by kernel_rfl) (by kernel_rfl)
-- decani/candle.Left, 3664 steps
noncomputable def ba619 : Ent :=
  ⟨31, [.agg ⟨[iP 10, iP 10, iP 0, iP 0, iP 1, iP 1, iP 1, iP 1, .slice (some ⟨6, 0, none⟩) 2 18446744073709551616, .slice none 0 0, .slice (some ⟨7, 0, none⟩) 1 1]⟩, iP 0, iP 1], 8,
   gC ++ [(6, .cells true 6 [iP 2, iP 2, iP 2, iP 0, iP 0, iP 2, iP 2, iP 2, iP 1, iP 0]),
    (7, .cells true 0 [iP 0, iP 0, iP 9, iP 0])],
   [],
   .tuple ⟨[.agg ⟨[iP 0, iP 0]⟩, iP 62]⟩⟩
theorem ba619_h : ba619.holds EE := ent_run envOk (T := [bc215]) (List.forall_mem_cons.2 ⟨bc215_h, fun _ h => by cases h⟩) 1000000000 _ (by kernel_rfl) (by kernel_rfl)
-- decani/candle.Left, 3664 steps
noncomputable def ba630 : Ent :=
  ⟨31, [.agg ⟨[iP 10, iP 10, iP 0, iP 0, iP 2, iP 2, iP 1, iP 1, .slice (some ⟨6, 0, none⟩) 2 18446744073709551616, .slice none 0 0, .slice (some ⟨7, 0, none⟩) 1 1]⟩, iP 0, iP 0], 8,
   gC ++ [(6, .cells true 6 [iP 2, iP 2, iP 2, iP 0, iP 0, iP 2, iP 2, iP 2, iP 1, iP 0]),
    (7, .cells true 0 [iP 0, iP 0, iP 7, iP 0])],
   [],
   .tuple ⟨[.agg ⟨[iP 0, iP 0]⟩, iP 62]⟩⟩
theorem ba630_h : ba630.holds EE := ent_run envOk (T := [bc221]) (List.forall_mem_cons.2 ⟨bc221_h, fun _ h => by cases h⟩) 1000000000 _ (by kernel_rfl) (by kernel_rfl)
-- decani/cold.Caught, 3433 steps
noncomputable def ba659 : Ent :=
  ⟨10, [.agg ⟨[iP 2, iP 6, iP 1, iP 1, iP 1, iP 1, iP 1, iP 1, .slice none 0 0, iP 0, .slice (some ⟨6, 0, none⟩) 2 2]⟩, iP 1], 7,
   gC ++ [(6, .cells true 0 [iP 1, iP 5, .bool true, iP 1, iP 4, .bool false])],
   [],
   .tuple ⟨[.agg ⟨[iP 0, iP 0]⟩, iP 32]⟩⟩
theorem ba659_h : ba659.holds EE := ent_run envOk (T := [bc96]) (List.forall_mem_cons.2 ⟨bc96_h, fun _ h => by cases h⟩) 1000000000 _ (by kernel_rfl) (by kernel_rfl)
-- decani/cold.Caught, 3281 steps
noncomputable def ba679 : Ent :=
  ⟨10, [.agg ⟨[iP 2, iP 6, iP 1, iP 1, iP 1, iP 1, iP 2, iP 2, .slice none 0 0, iP 0, .slice (some ⟨6, 0, none⟩) 2 2]⟩, iP 0], 7,
   gC ++ [(6, .cells true 0 [iP 1, iP 2, .bool true, iP 1, iP 1, .bool false])],
   [],
   .tuple ⟨[.agg ⟨[iP 0, iP 0]⟩, iP 32]⟩⟩
theorem ba679_h : ba679.holds EE := ent_run envOk (T := [bc106]) (List.forall_mem_cons.2 ⟨bc106_h, fun _ h => by cases h⟩) 1000000000 _ (by kernel_rfl) (by kernel_rfl)
-- decani/cold.Caught, 3091 steps
noncomputable def ba695 : Ent :=
  ⟨10, [.agg ⟨[iP 2, iP 6, iP 1, iP 0, iP 1, iP 1, iP 1, iP 2, .slice none 0 0, iP 0, .slice (some ⟨6, 0, none⟩) 2 2]⟩, iP 0], 7,
   gC ++ [(6, .cells true 0 [iP 1, iP 5, .bool true, iP 1, iP 4, .bool false])],
   [],
   .tuple ⟨[.agg ⟨[iP 0, iP 0]⟩, iP 32]⟩⟩
theorem ba695_h : ba695.holds EE := ent_run envOk (T := [bc119]) (List.forall_mem_cons.2 ⟨bc119_h, fun _ h => by cases h⟩) 1000000000 _ (by kernel_rfl) (by kernel_rfl)
-- decani/cold.Right, 2944 steps
noncomputable def ba710 : Ent :=
  ⟨29, [.agg ⟨[iP 2, iP 6, iP 1, iP 0, iP 1, iP 1, iP 1, iP 2, .slice none 0 0, iP 0, .slice (some ⟨6, 0, none⟩) 2 2]⟩], 7,
   gC ++ [(6, .cells true 0 [iP 1, iP 3, .bool true, iP 1, iP 2, .bool false])],
   [],
   .tuple ⟨[.bool true, iP 0]⟩⟩
theorem ba710_h : ba710.holds EE := ent_run envOk (T := [bc120]) (List.forall_mem_cons.2 ⟨bc120_h, fun _ h => by cases h⟩) 1000000000 _ (by kernel_rfl) (by kernel_rfl)
-- decani/cold.Caught, 2216 steps
noncomputable def ba727 : Ent :=
  ⟨10, [.agg ⟨[iP 2, iP 6, iP 1, iP 0, iP 1, iP 1, iP 2, iP 2, .slice none 0 0, iP 0, .slice (some ⟨6, 0, none⟩) 2 2]⟩, iP 0], 7,
   gC ++ [(6, .cells true 0 [iP 0, iP 2, .bool true, iP 0, iP 1, .bool false])],
   [],
   .tuple ⟨[.agg ⟨[iP 0, iP 0]⟩, iP 32]⟩⟩
theorem ba727_h : ba727.holds EE := ent_run envOk (T := [bc181]) (List.forall_mem_cons.2 ⟨bc181_h, fun _ h => by cases h⟩) 1000000000 _ (by kernel_rfl) (by kernel_rfl)
-- decani/cold.Caught, 2216 steps
noncomputable def ba735 : Ent :=
  ⟨10, [.agg ⟨[iP 2, iP 6, iP 1, iP 0, iP 1, iP 1, iP 2, iP 2, .slice none 0 0, iP 0, .slice (some ⟨6, 0, none⟩) 2 2]⟩, iP 0], 7,
   gC ++ [(6, .cells true 0 [iP 1, iP 4, .bool true, iP 1, iP 3, .bool false])],
   [],
   .tuple ⟨[.agg ⟨[iP 0, iP 0]⟩, iP 32]⟩⟩
theorem ba735_h : ba735.holds EE := ent_run envOk (T := [bc185]) (List.forall_mem_cons.2 ⟨bc185_h, fun _ h => by cases h⟩) 1000000000 _ (by kernel_rfl) (by kernel_rfl)
-- decani/cold.Caught, 2216 steps
noncomputable def ba752 : Ent :=
  ⟨10, [.agg ⟨[iP 2, iP 6, iP 1, iP 0, iP 1, iP 1, iP 1, iP 1, .slice none 0 0, iP 0, .slice (some ⟨6, 0, none⟩) 2 2]⟩, iP 1], 7,
   gC ++ [(6, .cells true 0 [iP 1, iP 5, .bool true, iP 1, iP 4, .bool false])],
   [],
   .tuple ⟨[.agg ⟨[iP 0, iP 0]⟩, iP 32]⟩⟩
theorem ba752_h : ba752.holds EE := ent_run envOk (T := [bc193]) (List.forall_mem_cons.2 ⟨bc193_h, fun _ h => by cases h⟩) 1000000000 _ (by kernel_rfl) (by kernel_rfl)
-- decani/cold.Right, 2124 steps
noncomputable def ba775 : Ent :=
  ⟨29, [.agg ⟨[iP 2, iP 6, iP 1, iP 0, iP 1, iP 1, iP 1, iP 1, .slice none 0 0, iP 0, .slice (some ⟨6, 0, none⟩) 2 2]⟩], 7,
   gC ++ [(6, .cells true 0 [iP 1, iP 5, .bool true, iP 1, iP 4, .bool false])],
   [],
   .tuple ⟨[.bool false, iP 0]⟩⟩
theorem ba775_h : ba775.holds EE := ent_run envOk (T := [bc193]) (List.forall_mem_cons.2 ⟨bc193_h, fun _ h => by cases h⟩) 1000000000 _ (by kernel_rfl) (by kernel_rfl)
-- decani/cold.Right, 2069 steps
noncomputable def ba793 : Ent :=
  ⟨29, [.agg ⟨[iP 2, iP 6, iP 1, iP 2, iP 1, iP 1, iP 1, iP 1, .slice none 0 0, iP 0, .slice (some ⟨6, 0, none⟩) 2 2]⟩], 7,
   gC ++ [(6, .cells true 0 [iP 1, iP 2, .bool true, iP 1, iP 1, .bool false])],
   [],
   .tuple ⟨[.bool true, iP 0]⟩⟩
theorem ba793_h : ba793.holds EE := ent_run envOk (T := [bc211]) (List.forall_mem_cons.2 ⟨bc211_h, fun _ h => by cases h⟩) 1000000000 _ (by kernel_rfl) (by kernel_rfl)
end Go.Proofs.YtmjpnohpmfmdlaaGreatDoor
