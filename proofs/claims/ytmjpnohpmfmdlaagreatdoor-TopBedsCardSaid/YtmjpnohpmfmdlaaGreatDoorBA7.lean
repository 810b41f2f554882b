/- Known calls, part 7: what single calls hand back, at small heaps, by the kernel's own run of the evaluator. No conditions. -/
import Derived.Test.YtmjpnohpmfmdlaaGreatDoorBCT
set_option linter.all false
namespace Go.Proofs.YtmjpnohpmfmdlaaGreatDoor
open Go.Ai
set_option maxRecDepth 1000000
-- decani/candle.Left, 20569 steps
noncomputable def ba7 : Ent :=
  ⟨31, [.agg ⟨[iP 8, iP 10, iP 0, iP 0, iP 1, iP 2, iP 1, iP 1, .slice (some ⟨6, 0, none⟩) 2 18446744073709551616, .slice none 0 0, .slice (some ⟨7, 0, none⟩) 1 1]⟩, iP 0, iP 1], 8,
   gC ++ [(6, .cells true 6 [iP 2, iP 2, iP 2, iP 0, iP 0, iP 2, iP 2, iP 2, iP 1, iP 0]),
    (7, .cells true 0 [iP 1, iP 0, iP 8, iP 0])],
   [],
   .tuple ⟨[.agg ⟨[iP 8, iP 8]⟩, iP 0]⟩⟩
theorem ba7_h : ba7.holds EE := ent_run envOk (T := [bc11]) (List.forall_mem_cons.2 ⟨bc11_h, fun _ h => by cases h⟩) 1000000000 _ (by kernel_rfl) (by kernel_rfl)
-- decani/candle.Left, 15393 steps
noncomputable def ba27 : Ent :=
  ⟨31, [.agg ⟨[iP 8, iP 10, iP 0, iP 0, iP 2, iP 3, iP 1, iP 1, .slice (some ⟨6, 0, none⟩) 2 18446744073709551616, .slice none 0 0, .slice (some ⟨7, 0, none⟩) 1 1]⟩, iP 0, iP 1], 8,
   gC ++ [(6, .cells true 6 [iP 2, iP 2, iP 2, iP 0, iP 0, iP 2, iP 2, iP 2, iP 1, iP 0]),
    (7, .cells true 0 [iP 1, iP 0, iP 7, iP 0])],
   [],
   .tuple ⟨[.agg ⟨[iP 7, iP 7]⟩, iP 0]⟩⟩
theorem ba27_h : ba27.holds EE := ent_run envOk (T := [bc164]) (List.forall_mem_cons.2 ⟨bc164_h, fun _ h => by cases h⟩) 1000000000 _ (by kernel_rfl) (by kernel_rfl)
-- decani/candle.Left, 14523 steps
noncomputable def ba44 : Ent :=
  ⟨31, [.agg ⟨[iP 8, iP 10, iP 0, iP 0, iP 2, iP 3, iP 1, iP 1, .slice (some ⟨6, 0, none⟩) 2 18446744073709551616, .slice none 0 0, .slice (some ⟨7, 0, none⟩) 1 1]⟩, iP 0, iP 1], 8,
   gC ++ [(6, .cells true 6 [iP 2, iP 2, iP 2, iP 0, iP 0, iP 2, iP 2, iP 2, iP 1, iP 0]),
    (7, .cells true 0 [iP 0, iP 0, iP 9, iP 0])],
   [],
   .tuple ⟨[.agg ⟨[iP 8, iP 8]⟩, iP 0]⟩⟩
theorem ba44_h : ba44.holds EE := ent_run envOk (T := [bc47]) (List.forall_mem_cons.2 ⟨bc47_h, fun _ h => by cases h⟩) 1000000000 _ (by kernel_rfl) (by kernel_rfl)
-- decani/candle.Left, 13087 steps
noncomputable def ba61 : Ent :=
  ⟨31, [.agg ⟨[iP 8, iP 10, iP 0, iP 0, iP 1, iP 2, iP 1, iP 1, .slice (some ⟨6, 0, none⟩) 2 18446744073709551616, .slice none 0 0, .slice (some ⟨7, 0, none⟩) 1 1]⟩, iP 0, iP 0], 8,
   gC ++ [(6, .cells true 6 [iP 2, iP 2, iP 2, iP 0, iP 0, iP 2, iP 2, iP 2, iP 1, iP 0]),
    (7, .cells true 0 [iP 1, iP 0, iP 10, iP 0])],
   [],
   .tuple ⟨[.agg ⟨[iP 0, iP 0]⟩, iP 62]⟩⟩
theorem ba61_h : ba61.holds EE := ent_run envOk (T := [bc0]) (List.forall_mem_cons.2 ⟨bc0_h, fun _ h => by cases h⟩) 1000000000 _ (by kernel_rfl) (by kernel_rfl)
-- decani/candle.Left, 12469 steps
noncomputable def ba77 : Ent :=
  ⟨31, [.agg ⟨[iP 9, iP 10, iP 0, iP 0, iP 2, iP 3, iP 1, iP 1, .slice (some ⟨6, 0, none⟩) 2 18446744073709551616, .slice none 0 0, .slice (some ⟨7, 0, none⟩) 1 1]⟩, iP 0, iP 1], 8,
   gC ++ [(6, .cells true 6 [iP 2, iP 2, iP 2, iP 0, iP 0, iP 2, iP 2, iP 2, iP 1, iP 0]),
    (7, .cells true 0 [iP 0, iP 0, iP 10, iP 0])],
   [],
   .tuple ⟨[.agg ⟨[iP 9, iP 9]⟩, iP 0]⟩⟩
theorem ba77_h : ba77.holds EE := ent_run envOk (T := [bc46]) (List.forall_mem_cons.2 ⟨bc46_h, fun _ h => by cases h⟩) 1000000000 _ (by kernel_rfl) (by kernel_rfl)
-- decani/candle.Life, 11792 steps
noncomputable def ba94 : Ent :=
  ⟨34, [.agg ⟨[iP 9, iP 10, iP 0, iP 0, iP 2, iP 3, iP 1, iP 1, .slice (some ⟨6, 0, none⟩) 2 18446744073709551616, .slice none 0 0, .slice (some ⟨7, 0, none⟩) 1 1]⟩, iP 0], 8,
   gC ++ [(6, .cells true 6 [iP 2, iP 2, iP 2, iP 0, iP 0, iP 2, iP 2, iP 2, iP 1, iP 0]),
    (7, .cells true 0 [iP 1, iP 0, iP 8, iP 0])],
   [],
   .tuple ⟨[.agg ⟨[iP 2, iP 3]⟩, iP 0]⟩⟩
theorem ba94_h : ba94.holds EE := ent_run envOk (T := [bc160]) (List.forall_mem_cons.2 ⟨bc160_h, fun _ h => by cases h⟩) 1000000000 _ (by kernel_rfl) (by kernel_rfl)
-- decani/candle.Life, 10968 steps
noncomputable def ba110 : Ent :=
  ⟨34, [.agg ⟨[iP 8, iP 10, iP 0, iP 0, iP 1, iP 1, iP 1, iP 1, .slice (some ⟨6, 0, none⟩) 2 18446744073709551616, .slice none 0 0, .slice (some ⟨7, 0, none⟩) 1 1]⟩, iP 0], 8,
   gC ++ [(6, .cells true 6 [iP 2, iP 2, iP 2, iP 0, iP 0, iP 2, iP 2, iP 2, iP 1, iP 0]),
    (7, .cells true 0 [iP 0, iP 0, iP 10, iP 0])],
   [],
   .tuple ⟨[.agg ⟨[iP 1, iP 1]⟩, iP 0]⟩⟩
theorem ba110_h : ba110.holds EE := ent_run envOk (T := [bc42]) (List.forall_mem_cons.2 ⟨bc42_h, fun _ h => by cases h⟩) 1000000000 _ (by kernel_rfl) (by kernel_rfl)
-- decani/candle.Life, 10180 steps
noncomputable def ba128 : Ent :=
  ⟨34, [.agg ⟨[iP 9, iP 10, iP 0, iP 0, iP 2, iP 2, iP 1, iP 1, .slice (some ⟨6, 0, none⟩) 2 18446744073709551616, .slice none 0 0, .slice (some ⟨7, 0, none⟩) 1 1]⟩, iP 0], 8,
   gC ++ [(6, .cells true 6 [iP 2, iP 2, iP 2, iP 0, iP 0, iP 2, iP 2, iP 2, iP 1, iP 0]),
    (7, .cells true 0 [iP 1, iP 0, iP 9, iP 0])],
   [],
   .tuple ⟨[.agg ⟨[iP 2, iP 2]⟩, iP 0]⟩⟩
theorem ba128_h : ba128.holds EE := ent_run envOk (T := [bc56]) (List.forall_mem_cons.2 ⟨bc56_h, fun _ h => by cases h⟩) 1000000000 _ (by kernel_rfl) (by kernel_rfl)
-- decani/cold.Caught, 9661 steps
noncomputable def ba145 : Ent :=
  ⟨10, [.agg ⟨[iP 2, iP 6, iP 1, iP 1, iP 1, iP 1, iP 1, iP 2, .slice none 0 0, iP 0, .slice (some ⟨6, 0, none⟩) 2 2]⟩, iP 0], 7,
   gC ++ [(6, .cells true 0 [iP 1, iP 4, .bool true, iP 1, iP 3, .bool false])],
   [],
   .tuple ⟨[.agg ⟨[iP 1, iP 1]⟩, iP 0]⟩⟩
theorem ba145_h : ba145.holds EE := ent_run envOk (T := [bc34]) (List.forall_mem_cons.2 ⟨bc34_h, fun _ h => by cases h⟩) 1000000000 _ (by kernel_rfl) (by kernel_rfl)
-- decani/cold.Takes, 9544 steps
noncomputable def ba160 : Ent :=
  ⟨33, [.agg ⟨[iP 2, iP 6, iP 1, iP 2, iP 1, iP 1, iP 1, iP 2, .slice none 0 0, iP 0, .slice (some ⟨6, 0, none⟩) 2 2]⟩, iP 1], 7,
   gC ++ [(6, .cells true 0 [iP 1, iP 3, .bool true, iP 1, iP 2, .bool false])],
   [],
   .tuple ⟨[.agg ⟨[iP 1, iP 2]⟩, iP 0]⟩⟩
theorem ba160_h : ba160.holds EE := ent_run envOk (T := [bc122]) (List.forall_mem_cons.2 ⟨bc122_h, fun _ h => by cases h⟩) 1000000000 _ (by kernel_rfl) (by kernel_rfl)
-- decani/candle.Left, 8799 steps
noncomputable def ba180 : Ent :=
  ⟨31, [.agg ⟨[iP 8, iP 10, iP 0, iP 0, iP 2, iP 2, iP 1, iP 1, .slice (some ⟨6, 0, none⟩) 2 18446744073709551616, .slice none 0 0, .slice (some ⟨7, 0, none⟩) 1 1]⟩, iP 0, iP 0], 8,
   gC ++ [(6, .cells true 6 [iP 2, iP 2, iP 2, iP 0, iP 0, iP 2, iP 2, iP 2, iP 1, iP 0]),
    (7, .cells true 0 [iP 0, iP 0, iP 8, iP 0])],
   [],
   .tuple ⟨[.agg ⟨[iP 8, iP 8]⟩, iP 0]⟩⟩
theorem ba180_h : ba180.holds EE := ent_run envOk (T := [bc161]) (List.forall_mem_cons.2 ⟨bc161_h, fun _ h => by cases h⟩) 1000000000 _ (by kernel_rfl) (by kernel_rfl)
-- decani/cold.Caught, 8595 steps
noncomputable def ba197 : Ent :=
  ⟨10, [.agg ⟨[iP 2, iP 6, iP 1, iP 2, iP 1, iP 1, iP 2, iP 2, .slice none 0 0, iP 0, .slice (some ⟨6, 0, none⟩) 2 2]⟩, iP 1], 7,
   gC ++ [(6, .cells true 0 [iP 1, iP 5, .bool true, iP 1, iP 4, .bool false])],
   [],
   .tuple ⟨[.agg ⟨[iP 4, iP 4]⟩, iP 0]⟩⟩
theorem ba197_h : ba197.holds EE := ent_run envOk (T := [bc64]) (List.forall_mem_cons.2 ⟨bc64_h, fun _ h => by cases h⟩) 1000000000 _ (by kernel_rfl) (by kernel_rfl)
-- decani/candle.Right, 8516 steps
noncomputable def ba209 : Ent :=
  ⟨30, [.agg ⟨[iP 8, iP 10, iP 0, iP 0, iP 2, iP 3, iP 1, iP 1, .slice (some ⟨6, 0, none⟩) 2 18446744073709551616, .slice none 0 0, .slice (some ⟨7, 0, none⟩) 1 1]⟩], 8,
   gC ++ [(6, .cells true 6 [iP 2, iP 2, iP 2, iP 0, iP 0, iP 2, iP 2, iP 2, iP 1, iP 0]),
    (7, .cells true 0 [iP 0, iP 0, iP 6, iP 0])],
   [],
   .tuple ⟨[.bool false, iP 0]⟩⟩
theorem ba209_h : ba209.holds EE := ent_run envOk (T := [bc18]) (List.forall_mem_cons.2 ⟨bc18_h, fun _ h => by cases h⟩) 1000000000 _ (by kernel_rfl) (by kernel_rfl)
-- decani/candle.Left, 8107 steps
noncomputable def ba230 : Ent :=
  ⟨31, [.agg ⟨[iP 8, iP 10, iP 0, iP 0, iP 1, iP 1, iP 1, iP 1, .slice (some ⟨6, 0, none⟩) 2 18446744073709551616, .slice none 0 0, .slice (some ⟨7, 0, none⟩) 1 1]⟩, iP 0, iP 0], 8,
   gC ++ [(6, .cells true 6 [iP 2, iP 2, iP 2, iP 0, iP 0, iP 2, iP 2, iP 2, iP 1, iP 0]),
    (7, .cells true 0 [iP 1, iP 0, iP 10, iP 0])],
   [],
   .tuple ⟨[.agg ⟨[iP 0, iP 0]⟩, iP 62]⟩⟩
theorem ba230_h : ba230.holds EE := ent_run envOk (T := [bc21]) (List.forall_mem_cons.2 ⟨bc21_h, fun _ h => by cases h⟩) 1000000000 _ (by kernel_rfl) (by kernel_rfl)
-- decani/candle.Left, 7978 steps
noncomputable def ba238 : Ent :=
  ⟨31, [.agg ⟨[iP 9, iP 10, iP 0, iP 0, iP 1, iP 1, iP 1, iP 1, .slice (some ⟨6, 0, none⟩) 2 18446744073709551616, .slice none 0 0, .slice none 0 0]⟩, iP 0, iP 0], 7,
   gC ++ [(6, .cells true 6 [iP 2, iP 2, iP 2, iP 0, iP 0, iP 2, iP 2, iP 2, iP 1, iP 0])],
   [],
   .tuple ⟨[.agg ⟨[iP 9, iP 10]⟩, iP 0]⟩⟩
theorem ba238_h : ba238.holds EE := ent_run envOk (T := [bc167]) (List.forall_mem_cons.2 ⟨bc167_h, fun _ h => by cases h⟩) 1000000000 _ (by kernel_rfl) (by kernel_rfl)
-- decani/candle.Life, 7697 steps
noncomputable def ba260 : Ent :=
  ⟨34, [.agg ⟨[iP 10, iP 10, iP 0, iP 0, iP 2, iP 3, iP 1, iP 1, .slice (some ⟨6, 0, none⟩) 2 18446744073709551616, .slice none 0 0, .slice none 0 0]⟩, iP 0], 7,
   gC ++ [(6, .cells true 6 [iP 2, iP 2, iP 2, iP 0, iP 0, iP 2, iP 2, iP 2, iP 1, iP 0])],
   [],
   .tuple ⟨[.agg ⟨[iP 2, iP 3]⟩, iP 0]⟩⟩
theorem ba260_h : ba260.holds EE := ent_run envOk (T := [bc172]) (List.forall_mem_cons.2 ⟨bc172_h, fun _ h => by cases h⟩) 1000000000 _ (by kernel_rfl) (by kernel_rfl)
-- decani/candle.Left, 6647 steps
noncomputable def ba285 : Ent :=
  ⟨31, [.agg ⟨[iP 9, iP 10, iP 0, iP 0, iP 1, iP 2, iP 1, iP 1, .slice (some ⟨6, 0, none⟩) 2 18446744073709551616, .slice none 0 0, .slice (some ⟨7, 0, none⟩) 1 1]⟩, iP 0, iP 0], 8,
   gC ++ [(6, .cells true 6 [iP 2, iP 2, iP 2, iP 0, iP 0, iP 2, iP 2, iP 2, iP 1, iP 0]),
    (7, .cells true 0 [iP 0, iP 0, iP 7, iP 0])],
   [],
   .tuple ⟨[.agg ⟨[iP 0, iP 0]⟩, iP 62]⟩⟩
theorem ba285_h : ba285.holds EE := ent_run envOk (T := [bc37]) (List.forall_mem_cons.2 ⟨bc37_h, fun _ h => by cases h⟩) 1000000000 _ (by kernel_rfl) (by kernel_rfl)
-- decani/candle.Left, 6647 steps
noncomputable def ba291 : Ent :=
  ⟨31, [.agg ⟨[iP 9, iP 10, iP 0, iP 0, iP 2, iP 3, iP 1, iP 1, .slice (some ⟨6, 0, none⟩) 2 18446744073709551616, .slice none 0 0, .slice (some ⟨7, 0, none⟩) 1 1]⟩, iP 0, iP 0], 8,
   gC ++ [(6, .cells true 6 [iP 2, iP 2, iP 2, iP 0, iP 0, iP 2, iP 2, iP 2, iP 1, iP 0]),
    (7, .cells true 0 [iP 0, iP 0, iP 7, iP 0])],
   [],
   .tuple ⟨[.agg ⟨[iP 0, iP 0]⟩, iP 62]⟩⟩
theorem ba291_h : ba291.holds EE := ent_run envOk (T := [bc40]) (List.forall_mem_cons.2 ⟨bc40_h, fun _ h => by cases h⟩) 1000000000 _ (by kernel_rfl) (by kernel_rfl)
-- decani/candle.Life, 6468 steps
noncomputable def ba308 : Ent :=
  ⟨34, [.agg ⟨[iP 10, iP 10, iP 0, iP 0, iP 2, iP 2, iP 1, iP 1, .slice (some ⟨6, 0, none⟩) 2 18446744073709551616, .slice none 0 0, .slice (some ⟨7, 0, none⟩) 1 1]⟩, iP 0], 8,
   gC ++ [(6, .cells true 6 [iP 2, iP 2, iP 2, iP 0, iP 0, iP 2, iP 2, iP 2, iP 1, iP 0]),
    (7, .cells true 0 [iP 0, iP 0, iP 10, iP 0])],
   [],
   .tuple ⟨[.agg ⟨[iP 2, iP 2]⟩, iP 0]⟩⟩
theorem ba308_h : ba308.holds EE := ent_run envOk (T := [bc153]) (List.forall_mem_cons.2 ⟨bc153_h, fun _ h => by cases h⟩) 1000000000 _ (by kernel_rfl) (by kernel_rfl)
-- decani/cold.Right, 6253 steps
noncomputable def ba325 : Ent :=
  ⟨29, [.agg ⟨[iP 2, iP 6, iP 1, iP 2, iP 1, iP 1, iP 1, iP 2, .slice none 0 0, iP 0, .slice (some ⟨6, 0, none⟩) 2 2]⟩], 7,
   gC ++ [(6, .cells true 0 [iP 0, iP 3, .bool true, iP 0, iP 2, .bool false])],
   [],
   .tuple ⟨[.bool true, iP 0]⟩⟩
theorem ba325_h : ba325.holds EE := ent_run envOk (T := [bc27]) (List.forall_mem_cons.2 ⟨bc27_h, fun _ h => by cases h⟩) 1000000000 _ (by kernel_rfl) (by kernel_rfl)
-- decani/cold.Takes, 6210 steps
noncomputable def ba342 : Ent :=
  ⟨33, [.agg ⟨[iP 2, iP 6, iP 1, iP 2, iP 1, iP 1, iP 2, iP 2, .slice none 0 0, iP 0, .slice (some ⟨6, 0, none⟩) 2 2]⟩, iP 1], 7,
   gC ++ [(6, .cells true 0 [iP 0, iP 2, .bool true, iP 0, iP 1, .bool false])],
   [],
   .tuple ⟨[.agg ⟨[iP 2, iP 2]⟩, iP 0]⟩⟩
theorem ba342_h : ba342.holds EE := ent_run envOk (T := [bc99]) (List.forall_mem_cons.2 ⟨bc99_h, fun _ h => by cases h⟩) 1000000000 _ (by kernel_rfl) (by kernel_rfl)
-- decani/candle.Left, 6093 steps
noncomputable def ba359 : Ent :=
  ⟨31, [.agg ⟨[iP 10, iP 10, iP 0, iP 0, iP 2, iP 2, iP 1, iP 1, .slice (some ⟨6, 0, none⟩) 2 18446744073709551616, .slice none 0 0, .slice none 0 0]⟩, iP 0, iP 1], 7,
   gC ++ [(6, .cells true 6 [iP 2, iP 2, iP 2, iP 0, iP 0, iP 2, iP 2, iP 2, iP 1, iP 0])],
   [],
   .tuple ⟨[.agg ⟨[iP 9, iP 9]⟩, iP 0]⟩⟩
theorem ba359_h : ba359.holds EE := ent_run envOk (T := [bc171]) (List.forall_mem_cons.2 ⟨bc171_h, fun _ h => by cases h⟩) 1000000000 _ (by kernel_rfl) (by kernel_rfl)
-- decani/candle.Left, 6055 steps
noncomputable def ba377 : Ent :=
  ⟨31, [.agg ⟨[iP 10, iP 10, iP 0, iP 0, iP 2, iP 3, iP 1, iP 1, .slice (some ⟨6, 0, none⟩) 2 18446744073709551616, .slice none 0 0, .slice (some ⟨7, 0, none⟩) 1 1]⟩, iP 0, iP 1], 8,
   gC ++ [(6, .cells true 6 [iP 2, iP 2, iP 2, iP 0, iP 0, iP 2, iP 2, iP 2, iP 1, iP 0]),
    (7, .cells true 0 [iP 1, iP 0, iP 10, iP 0])],
   [],
   .tuple ⟨[.agg ⟨[iP 0, iP 0]⟩, iP 62]⟩⟩
theorem ba377_h : ba377.holds EE := ent_run envOk (T := [bc70]) (List.forall_mem_cons.2 ⟨bc70_h, fun _ h => by cases h⟩) 1000000000 _ (by kernel_rfl) (by kernel_rfl)
-- decani/candle.Left, 5914 steps
noncomputable def ba394 : Ent :=
  ⟨31, [.agg ⟨[iP 8, iP 10, iP 0, iP 0, iP 2, iP 2, iP 1, iP 1, .slice (some ⟨6, 0, none⟩) 2 18446744073709551616, .slice none 0 0, .slice (some ⟨7, 0, none⟩) 1 1]⟩, iP 0, iP 1], 8,
   gC ++ [(6, .cells true 6 [iP 2, iP 2, iP 2, iP 0, iP 0, iP 2, iP 2, iP 2, iP 1, iP 0]),
    (7, .cells true 0 [iP 0, iP 0, iP 7, iP 0])],
   [],
   .tuple ⟨[.agg ⟨[iP 0, iP 0]⟩, iP 62]⟩⟩
theorem ba394_h : ba394.holds EE := ent_run envOk (T := [bc79]) (List.forall_mem_cons.2 ⟨bc79_h, fun _ h => by cases h⟩) 1000000000 _ (by kernel_rfl) (by kernel_rfl)
-- decani/candle.Right, 5729 steps
noncomputable def ba411 : Ent :=
  ⟨30, [.agg ⟨[iP 8, iP 10, iP 0, iP 0, iP 1, iP 1, iP 1, iP 1, .slice (some ⟨6, 0, none⟩) 2 18446744073709551616, .slice none 0 0, .slice (some ⟨7, 0, none⟩) 1 1]⟩], 8,
   gC ++ [(6, .cells true 6 [iP 2, iP 2, iP 2, iP 0, iP 0, iP 2, iP 2, iP 2, iP 1, iP 0]),
    (7, .cells true 0 [iP 0, iP 0, iP 6, iP 0])],
   [],
   .tuple ⟨[.bool false, iP 0]⟩⟩
theorem ba411_h : ba411.holds EE := ent_run envOk (T := [bc78]) (List.forall_mem_cons.2 ⟨bc78_h, fun _ h => by cases h⟩) 1000000000 _ (by kernel_rfl) (by kernel_rfl)
-- decani/cold.Right, 5091 steps
noncomputable def ba438 : Ent :=
  ⟨29, [.agg ⟨[iP 2, iP 6, iP 1, iP 1, iP 1, iP 1, iP 1, iP 2, .slice none 0 0, iP 0, .slice (some ⟨6, 0, none⟩) 2 2]⟩], 7,
   gC ++ [(6, .cells true 0 [iP 1, iP 5, .bool true, iP 1, iP 4, .bool false])],
   [],
   .tuple ⟨[.bool false, iP 0]⟩⟩
theorem ba438_h : ba438.holds EE := ent_run envOk (T := [bc33]) (List.forall_mem_cons.2 ⟨bc33_h, fun _ h => by cases h⟩) 1000000000 _ (by kernel_rfl) (by kernel_rfl)
-- decani/candle.Left, 4789 steps
noncomputable def ba458 : Ent :=
  ⟨31, [.agg ⟨[iP 9, iP 10, iP 0, iP 0, iP 1, iP 1, iP 1, iP 1, .slice (some ⟨6, 0, none⟩) 2 18446744073709551616, .slice none 0 0, .slice (some ⟨7, 0, none⟩) 1 1]⟩, iP 0, iP 0], 8,
   gC ++ [(6, .cells true 6 [iP 2, iP 2, iP 2, iP 0, iP 0, iP 2, iP 2, iP 2, iP 1, iP 0]),
    (7, .cells true 0 [iP 0, iP 0, iP 7, iP 0])],
   [],
   .tuple ⟨[.agg ⟨[iP 0, iP 0]⟩, iP 62]⟩⟩
theorem ba458_h : ba458.holds EE := ent_run envOk (T := [bc108]) (List.forall_mem_cons.2 ⟨bc108_h, fun _ h => by cases h⟩) 1000000000 _ (by kernel_rfl) (by kernel_rfl)
-- decani/cold.Caught, 4650 steps
noncomputable def ba475 : Ent :=
  ⟨10, [.agg ⟨[iP 2, iP 6, iP 1, iP 2, iP 1, iP 1, iP 1, iP 1, .slice none 0 0, iP 0, .slice (some ⟨6, 0, none⟩) 2 2]⟩, iP 0], 7,
   gC ++ [(6, .cells true 0 [iP 0, iP 4, .bool true, iP 0, iP 3, .bool false])],
   [],
   .tuple ⟨[.agg ⟨[iP 0, iP 0]⟩, iP 32]⟩⟩
theorem ba475_h : ba475.holds EE := ent_run envOk (T := [bc60]) (List.forall_mem_cons.2 ⟨bc60_h, fun _ h => by cases h⟩) 1000000000 _ (by kernel_rfl) (by kernel_rfl)
-- decani/cold.Caught, 4650 steps
noncomputable def ba480 : Ent :=
  ⟨10, [.agg ⟨[iP 2, iP 6, iP 1, iP 2, iP 1, iP 1, iP 1, iP 1, .slice none 0 0, iP 0, .slice (some ⟨6, 0, none⟩) 2 2]⟩, iP 1], 7,
   gC ++ [(6, .cells true 0 [iP 1, iP 5, .bool true, iP 1, iP 4, .bool false])],
   [],
   .tuple ⟨[.agg ⟨[iP 0, iP 0]⟩, iP 32]⟩⟩
theorem ba480_h : ba480.holds EE := ent_run envOk (T := [bc62]) (List.forall_mem_cons.2 ⟨bc62_h, fun _ h => by cases h⟩) 1000000000 _ (by kernel_rfl) (by kernel_rfl)
-- decani/candle.Left, 4593 steps
noncomputable def ba501 : Ent :=
  ⟨31, [.agg ⟨[iP 10, iP 10, iP 0, iP 0, iP 2, iP 3, iP 1, iP 1, .slice (some ⟨6, 0, none⟩) 2 18446744073709551616, .slice none 0 0, .slice (some ⟨7, 0, none⟩) 1 1]⟩, iP 0, iP 0], 8,
   gC ++ [(6, .cells true 6 [iP 2, iP 2, iP 2, iP 0, iP 0, iP 2, iP 2, iP 2, iP 1, iP 0]),
    (7, .cells true 0 [iP 0, iP 0, iP 6, iP 0])],
   [],
   .tuple ⟨[.agg ⟨[iP 0, iP 0]⟩, iP 62]⟩⟩
theorem ba501_h : ba501.holds EE := ent_run envOk (T := [bc131]) (List.forall_mem_cons.2 ⟨bc131_h, fun _ h => by cases h⟩) 1000000000 _ (by kernel_rfl) (by kernel_rfl)
-- decani/candle.Left, 4395 steps
noncomputable def ba525 : Ent :=
  ⟨31, [.agg ⟨[iP 10, iP 10, iP 0, iP 0, iP 1, iP 1, iP 1, iP 1, .slice (some ⟨6, 0, none⟩) 2 18446744073709551616, .slice none 0 0, .slice (some ⟨7, 0, none⟩) 1 1]⟩, iP 0, iP 0], 8,
   gC ++ [(6, .cells true 6 [iP 2, iP 2, iP 2, iP 0, iP 0, iP 2, iP 2, iP 2, iP 1, iP 0]),
    (7, .cells true 0 [iP 1, iP 0, iP 9, iP 0])],
   [],
   .tuple ⟨[.agg ⟨[iP 0, iP 0]⟩, iP 62]⟩⟩
theorem ba525_h : ba525.holds EE := ent_run envOk (T := [bc134]) (List.forall_mem_cons.2 ⟨bc134_h, fun _ h => by cases h⟩) 1000000000 _ (by kernel_rfl) (by kernel_rfl)
-- decani/candle.Left, 4395 steps
noncomputable def ba535 : Ent :=
  ⟨31, [.agg ⟨[iP 10, iP 10, iP 0, iP 0, iP 2, iP 2, iP 1, iP 1, .slice (some ⟨6, 0, none⟩) 2 18446744073709551616, .slice none 0 0, .slice (some ⟨7, 0, none⟩) 1 1]⟩, iP 0, iP 0], 8,
   gC ++ [(6, .cells true 6 [iP 2, iP 2, iP 2, iP 0, iP 0, iP 2, iP 2, iP 2, iP 1, iP 0]),
    (7, .cells true 0 [iP 1, iP 0, iP 7, iP 0])],
   [],
   .tuple ⟨[.agg ⟨[iP 0, iP 0]⟩, iP 62]⟩⟩
theorem ba535_h : ba535.holds EE := ent_run envOk (T := [bc139]) (List.forall_mem_cons.2 ⟨bc139_h, fun _ h => by cases h⟩) 1000000000 _ (by kernel_rfl) (by kernel_rfl)
-- decani/candle.Right, 4207 steps
noncomputable def ba557 : Ent :=
  ⟨30, [.agg ⟨[iP 8, iP 10, iP 0, iP 0, iP 1, iP 2, iP 1, iP 1, .slice (some ⟨6, 0, none⟩) 2 18446744073709551616, .slice none 0 0, .slice (some ⟨7, 0, none⟩) 1 1]⟩], 8,
   gC ++ [(6, .cells true 6 [iP 2, iP 2, iP 2, iP 0, iP 0, iP 2, iP 2, iP 2, iP 1, iP 0]),
    (7, .cells true 0 [iP 0, iP 0, iP 8, iP 0])],
   [],
   .tuple ⟨[.bool true, iP 0]⟩⟩
theorem ba557_h : ba557.holds EE := ent_run envOk (T := [bc151]) (List.forall_mem_cons.2 ⟨bc151_h, fun _ h => by cases h⟩) 1000000000 _ (by kernel_rfl) (by kernel_rfl)
-- decani/cold.Caught, 4071 steps
noncomputable def ba574 : Ent :=
  ⟨10, [.agg ⟨[iP 2, iP 6, iP 1, iP 1, iP 1, iP 1, iP 2, iP 2, .slice none 0 0, iP 0, .slice none 0 0]⟩, iP 1], 6,
   gC,
   [],
   .tuple ⟨[.agg ⟨[iP 2, iP 3]⟩, iP 0]⟩⟩
theorem ba574_h : ba574.holds EE := ent_run envOk (T := [bc226]) (List.forall_mem_cons.2 ⟨bc226_h, fun _ h => by cases h⟩) 1000000000 _ (by kernel_rfl) (by kernel_rfl)
-- decani/cold.Caught, 3889 steps
noncomputable def ba580 : Ent :=
  ⟨10, [.agg ⟨[iP 2, iP 6, iP 1, iP 2, iP 1, iP 1, iP 2, iP 2, .slice none 0 0, iP 0, .slice (some ⟨6, 0, none⟩) 2 2]⟩, iP 1], 7,
   gC ++ [(6, .cells true 0 [iP 0, iP 1, .bool true, iP 0, iP 0, .bool false])],
   [],
   .tuple ⟨[.agg ⟨[iP 2, iP 2]⟩, iP 0]⟩⟩
theorem ba580_h : ba580.holds EE := ent_run envOk (T := [bc202]) (List.forall_mem_cons.2 ⟨bc202_h, fun _ h => by cases h⟩) 1000000000 _ (by kernel_rfl) (by kernel_rfl)
-- decani/cold.Takes, 3857 steps
noncomputable def ba596 : Ent :=
  ⟨33, [.agg ⟨[iP 2, iP 6, iP 1, iP 2, iP 1, iP 1, iP 1, iP 1, .slice none 0 0, iP 0, .slice (some ⟨6, 0, none⟩) 2 2]⟩, iP 1], 7,
   gC ++ [(6, .cells true 0 [iP 0, iP 1, .bool true, iP 0, iP 0, .bool false])],
   [],
   .tuple ⟨[.agg ⟨[iP 1, iP 1]⟩, iP 0]⟩⟩
theorem ba596_h : ba596.holds EE := ent_run envOk (T := [bc210]) (List.forall_mem_cons.2 ⟨bc210_h, fun _ h => by cases h⟩) 1000000000 _ (by kernel_rfl) (by kernel_rfl)
-- decani/candle.Left, 3664 steps
noncomputable def ba628 : Ent :=
  ⟨31, [.agg ⟨[iP 10, iP 10, iP 0, iP 0, iP 2, iP 2, iP 1, iP 1, .slice (some ⟨6, 0, none⟩) 2 18446744073709551616, .slice none 0 0, .slice (some ⟨7, 0, none⟩) 1 1]⟩, iP 0, iP 0], 8,
   gC ++ [(6, .cells true 6 [iP 2, iP 2, iP 2, iP 0, iP 0, iP 2, iP 2, iP 2, iP 1, iP 0]),
    (7, .cells true 0 [iP 0, iP 0, iP 8, iP 0])],
   [],
   .tuple ⟨[.agg ⟨[iP 0, iP 0]⟩, iP 62]⟩⟩
theorem ba628_h : ba628.holds EE := ent_run envOk (T := [bc220]) (List.forall_mem_cons.2 ⟨bc220_h, fun _ h => by cases h⟩) 1000000000 _ (by kernel_rfl) (by kernel_rfl)
-- decani/cold.Caught, 3433 steps
noncomputable def ba643 : Ent :=
  ⟨10, [.agg ⟨[iP 2, iP 6, iP 1, iP 1, iP 1, iP 1, iP 2, iP 2, .slice none 0 0, iP 0, .slice (some ⟨6, 0, none⟩) 2 2]⟩, iP 1], 7,
   gC ++ [(6, .cells true 0 [iP 0, iP 3, .bool true, iP 0, iP 2, .bool false])],
   [],
   .tuple ⟨[.agg ⟨[iP 0, iP 0]⟩, iP 32]⟩⟩
theorem ba643_h : ba643.holds EE := ent_run envOk (T := [bc88]) (List.forall_mem_cons.2 ⟨bc88_h, fun _ h => by cases h⟩) 1000000000 _ (by kernel_rfl) (by kernel_rfl)
-- decani/cold.Caught, 3433 steps
noncomputable def ba647 : Ent :=
  ⟨10, [.agg ⟨[iP 2, iP 6, iP 1, iP 1, iP 1, iP 1, iP 2, iP 2, .slice none 0 0, iP 0, .slice (some ⟨6, 0, none⟩) 2 2]⟩, iP 1], 7,
   gC ++ [(6, .cells true 0 [iP 0, iP 5, .bool true, iP 0, iP 4, .bool false])],
   [],
   .tuple ⟨[.agg ⟨[iP 0, iP 0]⟩, iP 32]⟩⟩
theorem ba647_h : ba647.holds EE := ent_run envOk (T := [bc90]) (List.forall_mem_cons.2 ⟨bc90_h, fun _ h => by cases h⟩) 1000000000 _ (by kernel_rfl) (by kernel_rfl)
-- decani/cold.Right, 3341 steps
noncomputable def ba664 : Ent :=
  ⟨29, [.agg ⟨[iP 2, iP 6, iP 1, iP 1, iP 1, iP 1, iP 2, iP 2, .slice none 0 0, iP 0, .slice (some ⟨6, 0, none⟩) 2 2]⟩], 7,
   gC ++ [(6, .cells true 0 [iP 0, iP 5, .bool true, iP 0, iP 4, .bool false])],
   [],
   .tuple ⟨[.bool false, iP 0]⟩⟩
theorem ba664_h : ba664.holds EE := ent_run envOk (T := [bc90]) (List.forall_mem_cons.2 ⟨bc90_h, fun _ h => by cases h⟩) 1000000000 _ (by kernel_rfl) (by kernel_rfl)
-- decani/cold.Caught, 3091 steps
noncomputable def ba685 : Ent :=
  ⟨10, [.agg ⟨[iP 2, iP 6, iP 1, iP 0, iP 1, iP 1, iP 1, iP 2, .slice none 0 0, iP 0, .slice (some ⟨6, 0, none⟩) 2 2]⟩, iP 0], 7,
   gC ++ [(6, .cells true 0 [iP 0, iP 2, .bool true, iP 0, iP 1, .bool false])],
   [],
   .tuple ⟨[.agg ⟨[iP 0, iP 0]⟩, iP 32]⟩⟩
theorem ba685_h : ba685.holds EE := ent_run envOk (T := [bc114]) (List.forall_mem_cons.2 ⟨bc114_h, fun _ h => by cases h⟩) 1000000000 _ (by kernel_rfl) (by kernel_rfl)
-- decani/cold.Caught, 3020 steps
noncomputable def ba698 : Ent :=
  ⟨10, [.agg ⟨[iP 2, iP 6, iP 1, iP 1, iP 1, iP 1, iP 1, iP 2, .slice none 0 0, iP 0, .slice (some ⟨6, 0, none⟩) 2 2]⟩, iP 1], 7,
   gC ++ [(6, .cells true 0 [iP 1, iP 1, .bool true, iP 1, iP 0, .bool false])],
   [],
   .tuple ⟨[.agg ⟨[iP 0, iP 0]⟩, iP 32]⟩⟩
theorem ba698_h : ba698.holds EE := ent_run envOk (T := [bc123]) (List.forall_mem_cons.2 ⟨bc123_h, fun _ h => by cases h⟩) 1000000000 _ (by kernel_rfl) (by kernel_rfl)
-- decani/cold.Right, 2847 steps
noncomputable def ba718 : Ent :=
  ⟨29, [.agg ⟨[iP 2, iP 6, iP 1, iP 0, iP 1, iP 1, iP 1, iP 2, .slice none 0 0, iP 0, .slice (some ⟨6, 0, none⟩) 2 2]⟩], 7,
   gC ++ [(6, .cells true 0 [iP 1, iP 1, .bool true, iP 1, iP 0, .bool false])],
   [],
   .tuple ⟨[.bool false, iP 0]⟩⟩
theorem ba718_h : ba718.holds EE := ent_run envOk (T := [bc132]) (List.forall_mem_cons.2 ⟨bc132_h, fun _ h => by cases h⟩) 1000000000 _ (by kernel_rfl) (by kernel_rfl)
-- decani/cold.Caught, 2216 steps
noncomputable def ba743 : Ent :=
  ⟨10, [.agg ⟨[iP 2, iP 6, iP 1, iP 0, iP 1, iP 1, iP 1, iP 1, .slice none 0 0, iP 0, .slice (some ⟨6, 0, none⟩) 2 2]⟩, iP 0], 7,
   gC ++ [(6, .cells true 0 [iP 0, iP 4, .bool true, iP 0, iP 3, .bool false])],
   [],
   .tuple ⟨[.agg ⟨[iP 0, iP 0]⟩, iP 32]⟩⟩
theorem ba743_h : ba743.holds EE := ent_run envOk (T := [bc189]) (List.forall_mem_cons.2 ⟨bc189_h, fun _ h => by cases h⟩) 1000000000 _ (by kernel_rfl) (by kernel_rfl)
-- decani/cold.Caught, 2140 steps
noncomputable def ba760 : Ent :=
  ⟨10, [.agg ⟨[iP 2, iP 6, iP 1, iP 0, iP 1, iP 1, iP 1, iP 1, .slice none 0 0, iP 0, .slice (some ⟨6, 0, none⟩) 2 2]⟩, iP 1], 7,
   gC ++ [(6, .cells true 0 [iP 1, iP 1, .bool true, iP 1, iP 0, .bool false])],
   [],
   .tuple ⟨[.agg ⟨[iP 0, iP 0]⟩, iP 32]⟩⟩
theorem ba760_h : ba760.holds EE := ent_run envOk (T := [bc214]) (List.forall_mem_cons.2 ⟨bc214_h, fun _ h => by cases h⟩) 1000000000 _ (by kernel_rfl) (by kernel_rfl)
-- decani/cold.Right, 2069 steps
noncomputable def ba777 : Ent :=
  ⟨29, [.agg ⟨[iP 2, iP 6, iP 1, iP 0, iP 1, iP 1, iP 2, iP 2, .slice none 0 0, iP 0, .slice (some ⟨6, 0, none⟩) 2 2]⟩], 7,
   gC ++ [(6, .cells true 0 [iP 1, iP 3, .bool true, iP 1, iP 2, .bool false])],
   [],
   .tuple ⟨[.bool true, iP 0]⟩⟩
theorem ba777_h : ba777.holds EE := ent_run envOk (T := [bc195]) (List.forall_mem_cons.2 ⟨bc195_h, fun _ h => by cases h⟩) 1000000000 _ (by kernel_rfl) (by kernel_rfl)
-- decani/cold.Right, 2048 steps
noncomputable def ba794 : Ent :=
  ⟨29, [.agg ⟨[iP 2, iP 6, iP 1, iP 0, iP 1, iP 1, iP 2, iP 2, .slice none 0 0, iP 0, .slice (some ⟨6, 0, none⟩) 2 2]⟩], 7,
   gC ++ [(6, .cells true 0 [iP 1, iP 1, .bool true, iP 1, iP 0, .bool false])],
   [],
   .tuple ⟨[.bool false, iP 0]⟩⟩
theorem ba794_h : ba794.holds EE := ent_run envOk (T := [bc212]) (List.forall_mem_cons.2 ⟨bc212_h, fun _ h => by cases h⟩) 1000000000 _ (by kernel_rfl) (by kernel_rfl)
end Go.Proofs.YtmjpnohpmfmdlaaGreatDoor
