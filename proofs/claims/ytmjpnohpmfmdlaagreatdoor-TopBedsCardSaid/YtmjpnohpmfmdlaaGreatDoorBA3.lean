/- Known calls, part 3: what single calls hand back, at small heaps, by the kernel's own run of the evaluator. No conditions. -/
import Derived.Test.YtmjpnohpmfmdlaaGreatDoorBCT
set_option linter.all false
namespace Go.Proofs.YtmjpnohpmfmdlaaGreatDoor
open Go.Ai
set_option maxRecDepth 1000000
-- decani/candle.Left, 22425 steps
noncomputable def ba3 : Ent :=
  ⟨31, [.agg ⟨[iP 8, iP 10, iP 0, iP 0, iP 2, iP 3, iP 1, iP 1, .slice (some ⟨6, 0, none⟩) 2 18446744073709551616, .slice none 0 0, .slice (some ⟨7, 0, none⟩) 1 1]⟩, iP 0, iP 0], 8,
   gC ++ [(6, .cells true 6 [iP 2, iP 2, iP 2, iP 0, iP 0, iP 2, iP 2, iP 2, iP 1, iP 0]),
    (7, .cells true 0 [iP 1, iP 0, iP 9, iP 0])],
   [],
   .tuple ⟨[.agg ⟨[iP 10, iP 10]⟩, iP 0]⟩⟩
theorem ba3_h : ba3.holds EE := ent_run envOk (T := [bc4]) (List.forall_mem_cons.2 ⟨bc4_h, fun _ h => by cases h⟩) 1000000000 _ (by kernel_rfl) (by kernel_rfl)
-- decani/candle.Life, 15308 steps
noncomputable def ba29 : Ent :=
  ⟨34, [.agg ⟨[iP 8, iP 10, iP 0, iP 0, iP 2, iP 3, iP 1, iP 1, .slice (some ⟨6, 0, none⟩) 2 18446744073709551616, .slice none 0 0, .slice (some ⟨7, 0, none⟩) 1 1]⟩, iP 0], 8,
   gC ++ [(6, .cells true 6 [iP 2, iP 2, iP 2, iP 0, iP 0, iP 2, iP 2, iP 2, iP 1, iP 0]),
    (7, .cells true 0 [iP 1, iP 0, iP 7, iP 0])],
   [],
   .tuple ⟨[.agg ⟨[iP 2, iP 3]⟩, iP 0]⟩⟩
theorem ba29_h : ba29.holds EE := ent_run envOk (T := [bc164]) (List.forall_mem_cons.2 ⟨bc164_h, fun _ h => by cases h⟩) 1000000000 _ (by kernel_rfl) (by kernel_rfl)
-- decani/candle.Left, 13973 steps
noncomputable def ba47 : Ent :=
  ⟨31, [.agg ⟨[iP 8, iP 10, iP 0, iP 0, iP 1, iP 1, iP 1, iP 1, .slice (some ⟨6, 0, none⟩) 2 18446744073709551616, .slice none 0 0, .slice (some ⟨7, 0, none⟩) 1 1]⟩, iP 0, iP 0], 8,
   gC ++ [(6, .cells true 6 [iP 2, iP 2, iP 2, iP 0, iP 0, iP 2, iP 2, iP 2, iP 1, iP 0]),
    (7, .cells true 0 [iP 1, iP 0, iP 8, iP 0])],
   [],
   .tuple ⟨[.agg ⟨[iP 10, iP 10]⟩, iP 0]⟩⟩
theorem ba47_h : ba47.holds EE := ent_run envOk (T := [bc25]) (List.forall_mem_cons.2 ⟨bc25_h, fun _ h => by cases h⟩) 1000000000 _ (by kernel_rfl) (by kernel_rfl)
-- decani/candle.Left, 13087 steps
noncomputable def ba62 : Ent :=
  ⟨31, [.agg ⟨[iP 8, iP 10, iP 0, iP 0, iP 1, iP 2, iP 1, iP 1, .slice (some ⟨6, 0, none⟩) 2 18446744073709551616, .slice none 0 0, .slice (some ⟨7, 0, none⟩) 1 1]⟩, iP 0, iP 1], 8,
   gC ++ [(6, .cells true 6 [iP 2, iP 2, iP 2, iP 0, iP 0, iP 2, iP 2, iP 2, iP 1, iP 0]),
    (7, .cells true 0 [iP 1, iP 0, iP 10, iP 0])],
   [],
   .tuple ⟨[.agg ⟨[iP 0, iP 0]⟩, iP 62]⟩⟩
theorem ba62_h : ba62.holds EE := ent_run envOk (T := [bc0]) (List.forall_mem_cons.2 ⟨bc0_h, fun _ h => by cases h⟩) 1000000000 _ (by kernel_rfl) (by kernel_rfl)
-- decani/candle.Left, 12469 steps
noncomputable def ba79 : Ent :=
  ⟨31, [.agg ⟨[iP 8, iP 10, iP 0, iP 0, iP 2, iP 3, iP 1, iP 1, .slice (some ⟨6, 0, none⟩) 2 18446744073709551616, .slice none 0 0, .slice (some ⟨7, 0, none⟩) 1 1]⟩, iP 0, iP 1], 8,
   gC ++ [(6, .cells true 6 [iP 2, iP 2, iP 2, iP 0, iP 0, iP 2, iP 2, iP 2, iP 1, iP 0]),
    (7, .cells true 0 [iP 0, iP 0, iP 8, iP 0])],
   [],
   .tuple ⟨[.agg ⟨[iP 7, iP 7]⟩, iP 0]⟩⟩
theorem ba79_h : ba79.holds EE := ent_run envOk (T := [bc163]) (List.forall_mem_cons.2 ⟨bc163_h, fun _ h => by cases h⟩) 1000000000 _ (by kernel_rfl) (by kernel_rfl)
-- decani/candle.Left, 11725 steps
noncomputable def ba96 : Ent :=
  ⟨31, [.agg ⟨[iP 9, iP 10, iP 0, iP 0, iP 1, iP 2, iP 1, iP 1, .slice (some ⟨6, 0, none⟩) 2 18446744073709551616, .slice none 0 0, .slice (some ⟨7, 0, none⟩) 1 1]⟩, iP 0, iP 0], 8,
   gC ++ [(6, .cells true 6 [iP 2, iP 2, iP 2, iP 0, iP 0, iP 2, iP 2, iP 2, iP 1, iP 0]),
    (7, .cells true 0 [iP 1, iP 0, iP 7, iP 0])],
   [],
   .tuple ⟨[.agg ⟨[iP 9, iP 9]⟩, iP 0]⟩⟩
theorem ba96_h : ba96.holds EE := ent_run envOk (T := [bc148]) (List.forall_mem_cons.2 ⟨bc148_h, fun _ h => by cases h⟩) 1000000000 _ (by kernel_rfl) (by kernel_rfl)
-- decani/candle.Left, 10415 steps
noncomputable def ba113 : Ent :=
  ⟨31, [.agg ⟨[iP 9, iP 10, iP 0, iP 0, iP 1, iP 2, iP 1, iP 1, .slice (some ⟨6, 0, none⟩) 2 18446744073709551616, .slice none 0 0, .slice (some ⟨7, 0, none⟩) 1 1]⟩, iP 0, iP 1], 8,
   gC ++ [(6, .cells true 6 [iP 2, iP 2, iP 2, iP 0, iP 0, iP 2, iP 2, iP 2, iP 1, iP 0]),
    (7, .cells true 0 [iP 0, iP 0, iP 9, iP 0])],
   [],
   .tuple ⟨[.agg ⟨[iP 7, iP 8]⟩, iP 0]⟩⟩
theorem ba113_h : ba113.holds EE := ent_run envOk (T := [bc147]) (List.forall_mem_cons.2 ⟨bc147_h, fun _ h => by cases h⟩) 1000000000 _ (by kernel_rfl) (by kernel_rfl)
-- decani/candle.Left, 9924 steps
noncomputable def ba130 : Ent :=
  ⟨31, [.agg ⟨[iP 8, iP 10, iP 0, iP 0, iP 1, iP 1, iP 1, iP 1, .slice (some ⟨6, 0, none⟩) 2 18446744073709551616, .slice none 0 0, .slice (some ⟨7, 0, none⟩) 1 1]⟩, iP 0, iP 0], 8,
   gC ++ [(6, .cells true 6 [iP 2, iP 2, iP 2, iP 0, iP 0, iP 2, iP 2, iP 2, iP 1, iP 0]),
    (7, .cells true 0 [iP 0, iP 0, iP 9, iP 0])],
   [],
   .tuple ⟨[.agg ⟨[iP 9, iP 9]⟩, iP 0]⟩⟩
theorem ba130_h : ba130.holds EE := ent_run envOk (T := [bc84]) (List.forall_mem_cons.2 ⟨bc84_h, fun _ h => by cases h⟩) 1000000000 _ (by kernel_rfl) (by kernel_rfl)
-- decani/cold.Takes, 9629 steps
noncomputable def ba147 : Ent :=
  ⟨33, [.agg ⟨[iP 2, iP 6, iP 1, iP 1, iP 1, iP 1, iP 1, iP 2, .slice none 0 0, iP 0, .slice (some ⟨6, 0, none⟩) 2 2]⟩, iP 1], 7,
   gC ++ [(6, .cells true 0 [iP 1, iP 4, .bool true, iP 1, iP 3, .bool false])],
   [],
   .tuple ⟨[.agg ⟨[iP 2, iP 2]⟩, iP 0]⟩⟩
theorem ba147_h : ba147.holds EE := ent_run envOk (T := [bc34]) (List.forall_mem_cons.2 ⟨bc34_h, fun _ h => by cases h⟩) 1000000000 _ (by kernel_rfl) (by kernel_rfl)
-- decani/candle.Right, 9386 steps
noncomputable def ba164 : Ent :=
  ⟨30, [.agg ⟨[iP 9, iP 10, iP 0, iP 0, iP 2, iP 3, iP 1, iP 1, .slice (some ⟨6, 0, none⟩) 2 18446744073709551616, .slice none 0 0, .slice (some ⟨7, 0, none⟩) 1 1]⟩], 8,
   gC ++ [(6, .cells true 6 [iP 2, iP 2, iP 2, iP 0, iP 0, iP 2, iP 2, iP 2, iP 1, iP 0]),
    (7, .cells true 0 [iP 1, iP 0, iP 7, iP 0])],
   [],
   .tuple ⟨[.bool false, iP 0]⟩⟩
theorem ba164_h : ba164.holds EE := ent_run envOk (T := [bc8]) (List.forall_mem_cons.2 ⟨bc8_h, fun _ h => by cases h⟩) 1000000000 _ (by kernel_rfl) (by kernel_rfl)
-- decani/candle.Left, 8799 steps
noncomputable def ba181 : Ent :=
  ⟨31, [.agg ⟨[iP 8, iP 10, iP 0, iP 0, iP 2, iP 2, iP 1, iP 1, .slice (some ⟨6, 0, none⟩) 2 18446744073709551616, .slice none 0 0, .slice (some ⟨7, 0, none⟩) 1 1]⟩, iP 0, iP 1], 8,
   gC ++ [(6, .cells true 6 [iP 2, iP 2, iP 2, iP 0, iP 0, iP 2, iP 2, iP 2, iP 1, iP 0]),
    (7, .cells true 0 [iP 0, iP 0, iP 8, iP 0])],
   [],
   .tuple ⟨[.agg ⟨[iP 7, iP 7]⟩, iP 0]⟩⟩
theorem ba181_h : ba181.holds EE := ent_run envOk (T := [bc161]) (List.forall_mem_cons.2 ⟨bc161_h, fun _ h => by cases h⟩) 1000000000 _ (by kernel_rfl) (by kernel_rfl)
-- decani/cold.Caught, 8595 steps
noncomputable def ba198 : Ent :=
  ⟨10, [.agg ⟨[iP 2, iP 6, iP 1, iP 2, iP 1, iP 1, iP 1, iP 1, .slice none 0 0, iP 0, .slice (some ⟨6, 0, none⟩) 2 2]⟩, iP 0], 7,
   gC ++ [(6, .cells true 0 [iP 0, iP 3, .bool true, iP 0, iP 2, .bool false])],
   [],
   .tuple ⟨[.agg ⟨[iP 2, iP 2]⟩, iP 0]⟩⟩
theorem ba198_h : ba198.holds EE := ent_run envOk (T := [bc65]) (List.forall_mem_cons.2 ⟨bc65_h, fun _ h => by cases h⟩) 1000000000 _ (by kernel_rfl) (by kernel_rfl)
-- decani/candle.Left, 8361 steps
noncomputable def ba215 : Ent :=
  ⟨31, [.agg ⟨[iP 10, iP 10, iP 0, iP 0, iP 1, iP 2, iP 1, iP 1, .slice (some ⟨6, 0, none⟩) 2 18446744073709551616, .slice none 0 0, .slice (some ⟨7, 0, none⟩) 1 1]⟩, iP 0, iP 1], 8,
   gC ++ [(6, .cells true 6 [iP 2, iP 2, iP 2, iP 0, iP 0, iP 2, iP 2, iP 2, iP 1, iP 0]),
    (7, .cells true 0 [iP 0, iP 0, iP 10, iP 0])],
   [],
   .tuple ⟨[.agg ⟨[iP 8, iP 9]⟩, iP 0]⟩⟩
theorem ba215_h : ba215.holds EE := ent_run envOk (T := [bc143]) (List.forall_mem_cons.2 ⟨bc143_h, fun _ h => by cases h⟩) 1000000000 _ (by kernel_rfl) (by kernel_rfl)
-- decani/candle.Life, 8128 steps
noncomputable def ba229 : Ent :=
  ⟨34, [.agg ⟨[iP 10, iP 10, iP 0, iP 0, iP 1, iP 2, iP 1, iP 1, .slice (some ⟨6, 0, none⟩) 2 18446744073709551616, .slice none 0 0, .slice (some ⟨7, 0, none⟩) 1 1]⟩, iP 0], 8,
   gC ++ [(6, .cells true 6 [iP 2, iP 2, iP 2, iP 0, iP 0, iP 2, iP 2, iP 2, iP 1, iP 0]),
    (7, .cells true 0 [iP 1, iP 0, iP 8, iP 0])],
   [],
   .tuple ⟨[.agg ⟨[iP 1, iP 1]⟩, iP 0]⟩⟩
theorem ba229_h : ba229.holds EE := ent_run envOk (T := [bc144]) (List.forall_mem_cons.2 ⟨bc144_h, fun _ h => by cases h⟩) 1000000000 _ (by kernel_rfl) (by kernel_rfl)
-- decani/candle.Left, 7978 steps
noncomputable def ba241 : Ent :=
  ⟨31, [.agg ⟨[iP 9, iP 10, iP 0, iP 0, iP 2, iP 2, iP 1, iP 1, .slice (some ⟨6, 0, none⟩) 2 18446744073709551616, .slice none 0 0, .slice none 0 0]⟩, iP 0, iP 1], 7,
   gC ++ [(6, .cells true 6 [iP 2, iP 2, iP 2, iP 0, iP 0, iP 2, iP 2, iP 2, iP 1, iP 0])],
   [],
   .tuple ⟨[.agg ⟨[iP 8, iP 9]⟩, iP 0]⟩⟩
theorem ba241_h : ba241.holds EE := ent_run envOk (T := [bc173]) (List.forall_mem_cons.2 ⟨bc173_h, fun _ h => by cases h⟩) 1000000000 _ (by kernel_rfl) (by kernel_rfl)
-- decani/candle.Left, 7674 steps
noncomputable def ba263 : Ent :=
  ⟨31, [.agg ⟨[iP 9, iP 10, iP 0, iP 0, iP 2, iP 2, iP 1, iP 1, .slice (some ⟨6, 0, none⟩) 2 18446744073709551616, .slice none 0 0, .slice (some ⟨7, 0, none⟩) 1 1]⟩, iP 0, iP 0], 8,
   gC ++ [(6, .cells true 6 [iP 2, iP 2, iP 2, iP 0, iP 0, iP 2, iP 2, iP 2, iP 1, iP 0]),
    (7, .cells true 0 [iP 0, iP 0, iP 9, iP 0])],
   [],
   .tuple ⟨[.agg ⟨[iP 9, iP 9]⟩, iP 0]⟩⟩
theorem ba263_h : ba263.holds EE := ent_run envOk (T := [bc157]) (List.forall_mem_cons.2 ⟨bc157_h, fun _ h => by cases h⟩) 1000000000 _ (by kernel_rfl) (by kernel_rfl)
-- decani/candle.Left, 6647 steps
noncomputable def ba283 : Ent :=
  ⟨31, [.agg ⟨[iP 9, iP 10, iP 0, iP 0, iP 1, iP 2, iP 1, iP 1, .slice (some ⟨6, 0, none⟩) 2 18446744073709551616, .slice none 0 0, .slice (some ⟨7, 0, none⟩) 1 1]⟩, iP 0, iP 0], 8,
   gC ++ [(6, .cells true 6 [iP 2, iP 2, iP 2, iP 0, iP 0, iP 2, iP 2, iP 2, iP 1, iP 0]),
    (7, .cells true 0 [iP 0, iP 0, iP 8, iP 0])],
   [],
   .tuple ⟨[.agg ⟨[iP 0, iP 0]⟩, iP 62]⟩⟩
theorem ba283_h : ba283.holds EE := ent_run envOk (T := [bc36]) (List.forall_mem_cons.2 ⟨bc36_h, fun _ h => by cases h⟩) 1000000000 _ (by kernel_rfl) (by kernel_rfl)
-- decani/candle.Left, 6647 steps
noncomputable def ba289 : Ent :=
  ⟨31, [.agg ⟨[iP 9, iP 10, iP 0, iP 0, iP 2, iP 3, iP 1, iP 1, .slice (some ⟨6, 0, none⟩) 2 18446744073709551616, .slice none 0 0, .slice (some ⟨7, 0, none⟩) 1 1]⟩, iP 0, iP 0], 8,
   gC ++ [(6, .cells true 6 [iP 2, iP 2, iP 2, iP 0, iP 0, iP 2, iP 2, iP 2, iP 1, iP 0]),
    (7, .cells true 0 [iP 0, iP 0, iP 8, iP 0])],
   [],
   .tuple ⟨[.agg ⟨[iP 0, iP 0]⟩, iP 62]⟩⟩
theorem ba289_h : ba289.holds EE := ent_run envOk (T := [bc39]) (List.forall_mem_cons.2 ⟨bc39_h, fun _ h => by cases h⟩) 1000000000 _ (by kernel_rfl) (by kernel_rfl)
-- decani/candle.Life, 6468 steps
noncomputable def ba306 : Ent :=
  ⟨34, [.agg ⟨[iP 10, iP 10, iP 0, iP 0, iP 1, iP 1, iP 1, iP 1, .slice (some ⟨6, 0, none⟩) 2 18446744073709551616, .slice none 0 0, .slice (some ⟨7, 0, none⟩) 1 1]⟩, iP 0], 8,
   gC ++ [(6, .cells true 6 [iP 2, iP 2, iP 2, iP 0, iP 0, iP 2, iP 2, iP 2, iP 1, iP 0]),
    (7, .cells true 0 [iP 0, iP 0, iP 10, iP 0])],
   [],
   .tuple ⟨[.agg ⟨[iP 1, iP 1]⟩, iP 0]⟩⟩
theorem ba306_h : ba306.holds EE := ent_run envOk (T := [bc141]) (List.forall_mem_cons.2 ⟨bc141_h, fun _ h => by cases h⟩) 1000000000 _ (by kernel_rfl) (by kernel_rfl)
-- decani/candle.Right, 6261 steps
noncomputable def ba323 : Ent :=
  ⟨30, [.agg ⟨[iP 9, iP 10, iP 0, iP 0, iP 2, iP 3, iP 1, iP 1, .slice (some ⟨6, 0, none⟩) 2 18446744073709551616, .slice none 0 0, .slice (some ⟨7, 0, none⟩) 1 1]⟩], 8,
   gC ++ [(6, .cells true 6 [iP 2, iP 2, iP 2, iP 0, iP 0, iP 2, iP 2, iP 2, iP 1, iP 0]),
    (7, .cells true 0 [iP 0, iP 0, iP 10, iP 0])],
   [],
   .tuple ⟨[.bool true, iP 0]⟩⟩
theorem ba323_h : ba323.holds EE := ent_run envOk (T := [bc46]) (List.forall_mem_cons.2 ⟨bc46_h, fun _ h => by cases h⟩) 1000000000 _ (by kernel_rfl) (by kernel_rfl)
-- decani/cold.Takes, 6210 steps
noncomputable def ba343 : Ent :=
  ⟨33, [.agg ⟨[iP 2, iP 6, iP 1, iP 2, iP 1, iP 1, iP 1, iP 1, .slice none 0 0, iP 0, .slice (some ⟨6, 0, none⟩) 2 2]⟩, iP 1], 7,
   gC ++ [(6, .cells true 0 [iP 0, iP 2, .bool true, iP 0, iP 1, .bool false])],
   [],
   .tuple ⟨[.agg ⟨[iP 1, iP 1]⟩, iP 0]⟩⟩
theorem ba343_h : ba343.holds EE := ent_run envOk (T := [bc103]) (List.forall_mem_cons.2 ⟨bc103_h, fun _ h => by cases h⟩) 1000000000 _ (by kernel_rfl) (by kernel_rfl)
-- decani/candle.Right, 6066 steps
noncomputable def ba360 : Ent :=
  ⟨30, [.agg ⟨[iP 9, iP 10, iP 0, iP 0, iP 1, iP 1, iP 1, iP 1, .slice (some ⟨6, 0, none⟩) 2 18446744073709551616, .slice none 0 0, .slice (some ⟨7, 0, none⟩) 1 1]⟩], 8,
   gC ++ [(6, .cells true 6 [iP 2, iP 2, iP 2, iP 0, iP 0, iP 2, iP 2, iP 2, iP 1, iP 0]),
    (7, .cells true 0 [iP 1, iP 0, iP 10, iP 0])],
   [],
   .tuple ⟨[.bool false, iP 0]⟩⟩
theorem ba360_h : ba360.holds EE := ent_run envOk (T := [bc48]) (List.forall_mem_cons.2 ⟨bc48_h, fun _ h => by cases h⟩) 1000000000 _ (by kernel_rfl) (by kernel_rfl)
-- decani/candle.Left, 6055 steps
noncomputable def ba375 : Ent :=
  ⟨31, [.agg ⟨[iP 10, iP 10, iP 0, iP 0, iP 1, iP 2, iP 1, iP 1, .slice (some ⟨6, 0, none⟩) 2 18446744073709551616, .slice none 0 0, .slice (some ⟨7, 0, none⟩) 1 1]⟩, iP 0, iP 1], 8,
   gC ++ [(6, .cells true 6 [iP 2, iP 2, iP 2, iP 0, iP 0, iP 2, iP 2, iP 2, iP 1, iP 0]),
    (7, .cells true 0 [iP 1, iP 0, iP 6, iP 0])],
   [],
   .tuple ⟨[.agg ⟨[iP 0, iP 0]⟩, iP 62]⟩⟩
theorem ba375_h : ba375.holds EE := ent_run envOk (T := [bc69]) (List.forall_mem_cons.2 ⟨bc69_h, fun _ h => by cases h⟩) 1000000000 _ (by kernel_rfl) (by kernel_rfl)
-- decani/candle.Left, 5914 steps
noncomputable def ba392 : Ent :=
  ⟨31, [.agg ⟨[iP 8, iP 10, iP 0, iP 0, iP 1, iP 1, iP 1, iP 1, .slice (some ⟨6, 0, none⟩) 2 18446744073709551616, .slice none 0 0, .slice (some ⟨7, 0, none⟩) 1 1]⟩, iP 0, iP 1], 8,
   gC ++ [(6, .cells true 6 [iP 2, iP 2, iP 2, iP 0, iP 0, iP 2, iP 2, iP 2, iP 1, iP 0]),
    (7, .cells true 0 [iP 0, iP 0, iP 6, iP 0])],
   [],
   .tuple ⟨[.agg ⟨[iP 0, iP 0]⟩, iP 62]⟩⟩
theorem ba392_h : ba392.holds EE := ent_run envOk (T := [bc78]) (List.forall_mem_cons.2 ⟨bc78_h, fun _ h => by cases h⟩) 1000000000 _ (by kernel_rfl) (by kernel_rfl)
-- decani/cold.Takes, 5746 steps
noncomputable def ba409 : Ent :=
  ⟨33, [.agg ⟨[iP 2, iP 6, iP 1, iP 1, iP 1, iP 1, iP 1, iP 2, .slice none 0 0, iP 0, .slice none 0 0]⟩, iP 1], 6,
   gC,
   [],
   .tuple ⟨[.agg ⟨[iP 1, iP 2]⟩, iP 0]⟩⟩
theorem ba409_h : ba409.holds EE := ent_run envOk (T := [bc223]) (List.forall_mem_cons.2 ⟨bc223_h, fun _ h => by cases h⟩) 1000000000 _ (by kernel_rfl) (by kernel_rfl)
-- decani/cold.Right, 5091 steps
noncomputable def ba437 : Ent :=
  ⟨29, [.agg ⟨[iP 2, iP 6, iP 1, iP 1, iP 1, iP 1, iP 1, iP 2, .slice none 0 0, iP 0, .slice (some ⟨6, 0, none⟩) 2 2]⟩], 7,
   gC ++ [(6, .cells true 0 [iP 0, iP 5, .bool true, iP 0, iP 4, .bool false])],
   [],
   .tuple ⟨[.bool false, iP 0]⟩⟩
theorem ba437_h : ba437.holds EE := ent_run envOk (T := [bc32]) (List.forall_mem_cons.2 ⟨bc32_h, fun _ h => by cases h⟩) 1000000000 _ (by kernel_rfl) (by kernel_rfl)
-- decani/candle.Left, 4789 steps
noncomputable def ba457 : Ent :=
  ⟨31, [.agg ⟨[iP 9, iP 10, iP 0, iP 0, iP 1, iP 1, iP 1, iP 1, .slice (some ⟨6, 0, none⟩) 2 18446744073709551616, .slice none 0 0, .slice (some ⟨7, 0, none⟩) 1 1]⟩, iP 0, iP 1], 8,
   gC ++ [(6, .cells true 6 [iP 2, iP 2, iP 2, iP 0, iP 0, iP 2, iP 2, iP 2, iP 1, iP 0]),
    (7, .cells true 0 [iP 0, iP 0, iP 8, iP 0])],
   [],
   .tuple ⟨[.agg ⟨[iP 0, iP 0]⟩, iP 62]⟩⟩
theorem ba457_h : ba457.holds EE := ent_run envOk (T := [bc107]) (List.forall_mem_cons.2 ⟨bc107_h, fun _ h => by cases h⟩) 1000000000 _ (by kernel_rfl) (by kernel_rfl)
-- decani/cold.Caught, 4650 steps
noncomputable def ba473 : Ent :=
  ⟨10, [.agg ⟨[iP 2, iP 6, iP 1, iP 2, iP 1, iP 1, iP 2, iP 2, .slice none 0 0, iP 0, .slice (some ⟨6, 0, none⟩) 2 2]⟩, iP 0], 7,
   gC ++ [(6, .cells true 0 [iP 0, iP 5, .bool true, iP 0, iP 4, .bool false])],
   [],
   .tuple ⟨[.agg ⟨[iP 0, iP 0]⟩, iP 32]⟩⟩
theorem ba473_h : ba473.holds EE := ent_run envOk (T := [bc59]) (List.forall_mem_cons.2 ⟨bc59_h, fun _ h => by cases h⟩) 1000000000 _ (by kernel_rfl) (by kernel_rfl)
-- decani/cold.Caught, 4650 steps
noncomputable def ba478 : Ent :=
  ⟨10, [.agg ⟨[iP 2, iP 6, iP 1, iP 2, iP 1, iP 1, iP 1, iP 1, .slice none 0 0, iP 0, .slice (some ⟨6, 0, none⟩) 2 2]⟩, iP 1], 7,
   gC ++ [(6, .cells true 0 [iP 0, iP 5, .bool true, iP 0, iP 4, .bool false])],
   [],
   .tuple ⟨[.agg ⟨[iP 0, iP 0]⟩, iP 32]⟩⟩
theorem ba478_h : ba478.holds EE := ent_run envOk (T := [bc61]) (List.forall_mem_cons.2 ⟨bc61_h, fun _ h => by cases h⟩) 1000000000 _ (by kernel_rfl) (by kernel_rfl)
-- decani/candle.Left, 4593 steps
noncomputable def ba499 : Ent :=
  ⟨31, [.agg ⟨[iP 10, iP 10, iP 0, iP 0, iP 2, iP 3, iP 1, iP 1, .slice (some ⟨6, 0, none⟩) 2 18446744073709551616, .slice none 0 0, .slice (some ⟨7, 0, none⟩) 1 1]⟩, iP 0, iP 0], 8,
   gC ++ [(6, .cells true 6 [iP 2, iP 2, iP 2, iP 0, iP 0, iP 2, iP 2, iP 2, iP 1, iP 0]),
    (7, .cells true 0 [iP 0, iP 0, iP 7, iP 0])],
   [],
   .tuple ⟨[.agg ⟨[iP 0, iP 0]⟩, iP 62]⟩⟩
theorem ba499_h : ba499.holds EE := ent_run envOk (T := [bc130]) (List.forall_mem_cons.2 ⟨bc130_h, fun _ h => by cases h⟩) 1000000000 _ (by kernel_rfl) (by kernel_rfl)
-- decani/candle.Left, 4395 steps
noncomputable def ba523 : Ent :=
  ⟨31, [.agg ⟨[iP 10, iP 10, iP 0, iP 0, iP 1, iP 1, iP 1, iP 1, .slice (some ⟨6, 0, none⟩) 2 18446744073709551616, .slice none 0 0, .slice (some ⟨7, 0, none⟩) 1 1]⟩, iP 0, iP 0], 8,
   gC ++ [(6, .cells true 6 [iP 2, iP 2, iP 2, iP 0, iP 0, iP 2, iP 2, iP 2, iP 1, iP 0]),
    (7, .cells true 0 [iP 1, iP 0, iP 10, iP 0])],
   [],
   .tuple ⟨[.agg ⟨[iP 0, iP 0]⟩, iP 62]⟩⟩
theorem ba523_h : ba523.holds EE := ent_run envOk (T := [bc133]) (List.forall_mem_cons.2 ⟨bc133_h, fun _ h => by cases h⟩) 1000000000 _ (by kernel_rfl) (by kernel_rfl)
-- decani/candle.Left, 4395 steps
noncomputable def ba531 : Ent :=
  ⟨31, [.agg ⟨[iP 10, iP 10, iP 0, iP 0, iP 2, iP 2, iP 1, iP 1, .slice (some ⟨6, 0, none⟩) 2 18446744073709551616, .slice none 0 0, .slice (some ⟨7, 0, none⟩) 1 1]⟩, iP 0, iP 0], 8,
   gC ++ [(6, .cells true 6 [iP 2, iP 2, iP 2, iP 0, iP 0, iP 2, iP 2, iP 2, iP 1, iP 0]),
    (7, .cells true 0 [iP 1, iP 0, iP 10, iP 0])],
   [],
   .tuple ⟨[.agg ⟨[iP 0, iP 0]⟩, iP 62]⟩⟩
theorem ba531_h : ba531.holds EE := ent_run envOk (T := [bc137]) (List.forall_mem_cons.2 ⟨bc137_h, fun _ h => by cases h⟩) 1000000000 _ (by kernel_rfl) (by kernel_rfl)
-- decani/candle.Right, 4207 steps
noncomputable def ba553 : Ent :=
  ⟨30, [.agg ⟨[iP 9, iP 10, iP 0, iP 0, iP 1, iP 2, iP 1, iP 1, .slice (some ⟨6, 0, none⟩) 2 18446744073709551616, .slice none 0 0, .slice (some ⟨7, 0, none⟩) 1 1]⟩], 8,
   gC ++ [(6, .cells true 6 [iP 2, iP 2, iP 2, iP 0, iP 0, iP 2, iP 2, iP 2, iP 1, iP 0]),
    (7, .cells true 0 [iP 0, iP 0, iP 9, iP 0])],
   [],
   .tuple ⟨[.bool true, iP 0]⟩⟩
theorem ba553_h : ba553.holds EE := ent_run envOk (T := [bc147]) (List.forall_mem_cons.2 ⟨bc147_h, fun _ h => by cases h⟩) 1000000000 _ (by kernel_rfl) (by kernel_rfl)
-- decani/candle.Right, 4207 steps
noncomputable def ba570 : Ent :=
  ⟨30, [.agg ⟨[iP 8, iP 10, iP 0, iP 0, iP 2, iP 3, iP 1, iP 1, .slice (some ⟨6, 0, none⟩) 2 18446744073709551616, .slice none 0 0, .slice (some ⟨7, 0, none⟩) 1 1]⟩], 8,
   gC ++ [(6, .cells true 6 [iP 2, iP 2, iP 2, iP 0, iP 0, iP 2, iP 2, iP 2, iP 1, iP 0]),
    (7, .cells true 0 [iP 1, iP 0, iP 7, iP 0])],
   [],
   .tuple ⟨[.bool true, iP 0]⟩⟩
theorem ba570_h : ba570.holds EE := ent_run envOk (T := [bc164]) (List.forall_mem_cons.2 ⟨bc164_h, fun _ h => by cases h⟩) 1000000000 _ (by kernel_rfl) (by kernel_rfl)
-- decani/candle.Right, 3874 steps
noncomputable def ba594 : Ent :=
  ⟨30, [.agg ⟨[iP 8, iP 10, iP 0, iP 0, iP 2, iP 3, iP 1, iP 1, .slice (some ⟨6, 0, none⟩) 2 18446744073709551616, .slice none 0 0, .slice none 0 0]⟩], 7,
   gC ++ [(6, .cells true 6 [iP 2, iP 2, iP 2, iP 0, iP 0, iP 2, iP 2, iP 2, iP 1, iP 0])],
   [],
   .tuple ⟨[.bool true, iP 0]⟩⟩
theorem ba594_h : ba594.holds EE := ent_run envOk (T := [bc176]) (List.forall_mem_cons.2 ⟨bc176_h, fun _ h => by cases h⟩) 1000000000 _ (by kernel_rfl) (by kernel_rfl)
-- decani/cold.Caught, 3727 steps
noncomputable def ba611 : Ent :=
  ⟨10, [.agg ⟨[iP 2, iP 6, iP 1, iP 0, iP 1, iP 1, iP 1, iP 1, .slice none 0 0, iP 0, .slice (some ⟨6, 0, none⟩) 2 2]⟩, iP 1], 7,
   gC ++ [(6, .cells true 0 [iP 0, iP 1, .bool true, iP 0, iP 0, .bool false])],
   [],
   .tuple ⟨[.agg ⟨[iP 1, iP 1]⟩, iP 0]⟩⟩
theorem ba611_h : ba611.holds EE := ent_run envOk (T := [bc206]) (List.forall_mem_cons.2 ⟨bc206_h, fun _ h => by cases h⟩) 1000000000 _ (by kernel_rfl) (by kernel_rfl)
-- decani/candle.Left, 3664 steps
noncomputable def ba623 : Ent :=
  ⟨31, [.agg ⟨[iP 10, iP 10, iP 0, iP 0, iP 1, iP 1, iP 1, iP 1, .slice (some ⟨6, 0, none⟩) 2 18446744073709551616, .slice none 0 0, .slice (some ⟨7, 0, none⟩) 1 1]⟩, iP 0, iP 1], 8,
   gC ++ [(6, .cells true 6 [iP 2, iP 2, iP 2, iP 0, iP 0, iP 2, iP 2, iP 2, iP 1, iP 0]),
    (7, .cells true 0 [iP 0, iP 0, iP 7, iP 0])],
   [],
   .tuple ⟨[.agg ⟨[iP 0, iP 0]⟩, iP 62]⟩⟩
theorem ba623_h : ba623.holds EE := ent_run envOk (T := [bc217]) (List.forall_mem_cons.2 ⟨bc217_h, fun _ h => by cases h⟩) 1000000000 _ (by kernel_rfl) (by kernel_rfl)
-- decani/candle.Right, 3479 steps
noncomputable def ba634 : Ent :=
  ⟨30, [.agg ⟨[iP 10, iP 10, iP 0, iP 0, iP 1, iP 1, iP 1, iP 1, .slice (some ⟨6, 0, none⟩) 2 18446744073709551616, .slice none 0 0, .slice (some ⟨7, 0, none⟩) 1 1]⟩], 8,
   gC ++ [(6, .cells true 6 [iP 2, iP 2, iP 2, iP 0, iP 0, iP 2, iP 2, iP 2, iP 1, iP 0]),
    (7, .cells true 0 [iP 0, iP 0, iP 9, iP 0])],
   [],
   .tuple ⟨[.bool false, iP 0]⟩⟩
theorem ba634_h : ba634.holds EE := ent_run envOk (T := [bc215]) (List.forall_mem_cons.2 ⟨bc215_h, fun _ h => by cases h⟩) 1000000000 _ (by kernel_rfl) (by kernel_rfl)
-- decani/cold.Caught, 3433 steps
noncomputable def ba650 : Ent :=
  ⟨10, [.agg ⟨[iP 2, iP 6, iP 1, iP 1, iP 1, iP 1, iP 1, iP 1, .slice none 0 0, iP 0, .slice (some ⟨6, 0, none⟩) 2 2]⟩, iP 0], 7,
   gC ++ [(6, .cells true 0 [iP 0, iP 3, .bool true, iP 0, iP 2, .bool false])],
   [],
   .tuple ⟨[.agg ⟨[iP 0, iP 0]⟩, iP 32]⟩⟩
theorem ba650_h : ba650.holds EE := ent_run envOk (T := [bc92]) (List.forall_mem_cons.2 ⟨bc92_h, fun _ h => by cases h⟩) 1000000000 _ (by kernel_rfl) (by kernel_rfl)
-- decani/cold.Right, 3341 steps
noncomputable def ba667 : Ent :=
  ⟨29, [.agg ⟨[iP 2, iP 6, iP 1, iP 1, iP 1, iP 1, iP 1, iP 1, .slice none 0 0, iP 0, .slice (some ⟨6, 0, none⟩) 2 2]⟩], 7,
   gC ++ [(6, .cells true 0 [iP 0, iP 4, .bool true, iP 0, iP 3, .bool false])],
   [],
   .tuple ⟨[.bool false, iP 0]⟩⟩
theorem ba667_h : ba667.holds EE := ent_run envOk (T := [bc93]) (List.forall_mem_cons.2 ⟨bc93_h, fun _ h => by cases h⟩) 1000000000 _ (by kernel_rfl) (by kernel_rfl)
-- decani/cold.Caught, 3091 steps
noncomputable def ba688 : Ent :=
  ⟨10, [.agg ⟨[iP 2, iP 6, iP 1, iP 0, iP 1, iP 1, iP 1, iP 2, .slice none 0 0, iP 0, .slice (some ⟨6, 0, none⟩) 2 2]⟩, iP 1], 7,
   gC ++ [(6, .cells true 0 [iP 0, iP 3, .bool true, iP 0, iP 2, .bool false])],
   [],
   .tuple ⟨[.agg ⟨[iP 0, iP 0]⟩, iP 32]⟩⟩
theorem ba688_h : ba688.holds EE := ent_run envOk (T := [bc115]) (List.forall_mem_cons.2 ⟨bc115_h, fun _ h => by cases h⟩) 1000000000 _ (by kernel_rfl) (by kernel_rfl)
-- decani/cold.Right, 2999 steps
noncomputable def ba702 : Ent :=
  ⟨29, [.agg ⟨[iP 2, iP 6, iP 1, iP 0, iP 1, iP 1, iP 1, iP 2, .slice none 0 0, iP 0, .slice (some ⟨6, 0, none⟩) 2 2]⟩], 7,
   gC ++ [(6, .cells true 0 [iP 0, iP 4, .bool true, iP 0, iP 3, .bool false])],
   [],
   .tuple ⟨[.bool false, iP 0]⟩⟩
theorem ba702_h : ba702.holds EE := ent_run envOk (T := [bc116]) (List.forall_mem_cons.2 ⟨bc116_h, fun _ h => by cases h⟩) 1000000000 _ (by kernel_rfl) (by kernel_rfl)
-- decani/cold.Caught, 2302 steps
noncomputable def ba720 : Ent :=
  ⟨10, [.agg ⟨[iP 2, iP 6, iP 1, iP 2, iP 1, iP 1, iP 2, iP 2, .slice none 0 0, iP 0, .slice (some ⟨6, 0, none⟩) 2 2]⟩, iP 1], 7,
   gC ++ [(6, .cells true 0 [iP 1, iP 1, .bool true, iP 1, iP 0, .bool false])],
   [],
   .tuple ⟨[.agg ⟨[iP 0, iP 0]⟩, iP 32]⟩⟩
theorem ba720_h : ba720.holds EE := ent_run envOk (T := [bc177]) (List.forall_mem_cons.2 ⟨bc177_h, fun _ h => by cases h⟩) 1000000000 _ (by kernel_rfl) (by kernel_rfl)
-- decani/cold.Caught, 2216 steps
noncomputable def ba740 : Ent :=
  ⟨10, [.agg ⟨[iP 2, iP 6, iP 1, iP 0, iP 1, iP 1, iP 1, iP 1, .slice none 0 0, iP 0, .slice (some ⟨6, 0, none⟩) 2 2]⟩, iP 1], 7,
   gC ++ [(6, .cells true 0 [iP 0, iP 2, .bool true, iP 0, iP 1, .bool false])],
   [],
   .tuple ⟨[.agg ⟨[iP 0, iP 0]⟩, iP 32]⟩⟩
theorem ba740_h : ba740.holds EE := ent_run envOk (T := [bc187]) (List.forall_mem_cons.2 ⟨bc187_h, fun _ h => by cases h⟩) 1000000000 _ (by kernel_rfl) (by kernel_rfl)
-- decani/cold.Caught, 2140 steps
noncomputable def ba757 : Ent :=
  ⟨10, [.agg ⟨[iP 2, iP 6, iP 1, iP 0, iP 1, iP 1, iP 2, iP 2, .slice none 0 0, iP 0, .slice (some ⟨6, 0, none⟩) 2 2]⟩, iP 0], 7,
   gC ++ [(6, .cells true 0 [iP 1, iP 2, .bool true, iP 1, iP 1, .bool false])],
   [],
   .tuple ⟨[.agg ⟨[iP 0, iP 0]⟩, iP 32]⟩⟩
theorem ba757_h : ba757.holds EE := ent_run envOk (T := [bc213]) (List.forall_mem_cons.2 ⟨bc213_h, fun _ h => by cases h⟩) 1000000000 _ (by kernel_rfl) (by kernel_rfl)
-- decani/cold.Right, 2124 steps
noncomputable def ba768 : Ent :=
  ⟨29, [.agg ⟨[iP 2, iP 6, iP 1, iP 0, iP 1, iP 1, iP 2, iP 2, .slice none 0 0, iP 0, .slice (some ⟨6, 0, none⟩) 2 2]⟩], 7,
   gC ++ [(6, .cells true 0 [iP 1, iP 5, .bool true, iP 1, iP 4, .bool false])],
   [],
   .tuple ⟨[.bool false, iP 0]⟩⟩
theorem ba768_h : ba768.holds EE := ent_run envOk (T := [bc186]) (List.forall_mem_cons.2 ⟨bc186_h, fun _ h => by cases h⟩) 1000000000 _ (by kernel_rfl) (by kernel_rfl)
-- decani/cold.Right, 2069 steps
noncomputable def ba785 : Ent :=
  ⟨29, [.agg ⟨[iP 2, iP 6, iP 1, iP 2, iP 1, iP 1, iP 2, iP 2, .slice none 0 0, iP 0, .slice (some ⟨6, 0, none⟩) 2 2]⟩], 7,
   gC ++ [(6, .cells true 0 [iP 1, iP 3, .bool true, iP 1, iP 2, .bool false])],
   [],
   .tuple ⟨[.bool true, iP 0]⟩⟩
theorem ba785_h : ba785.holds EE := ent_run envOk (T := [bc203]) (List.forall_mem_cons.2 ⟨bc203_h, fun _ h => by cases h⟩) 1000000000 _ (by kernel_rfl) (by kernel_rfl)
-- decani/cold.Right, 1565 steps
noncomputable def ba802 : Ent :=
  ⟨29, [.agg ⟨[iP 2, iP 6, iP 1, iP 2, iP 1, iP 1, iP 1, iP 2, .slice none 0 0, iP 0, .slice none 0 0]⟩], 6,
   gC,
   [],
   .tuple ⟨[.bool true, iP 0]⟩⟩
theorem ba802_h : ba802.holds EE := ent_run envOk (T := [bc228]) (List.forall_mem_cons.2 ⟨bc228_h, fun _ h => by cases h⟩) 1000000000 _ (by kernel_rfl) (by kernel_rfl)
end Go.Proofs.YtmjpnohpmfmdlaaGreatDoor
