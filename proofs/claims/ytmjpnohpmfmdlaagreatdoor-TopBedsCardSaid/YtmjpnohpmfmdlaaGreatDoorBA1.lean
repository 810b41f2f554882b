/- Known calls, part 1: what single calls hand back, at small heaps, by the kernel's own run of the evaluator. No conditions. -/
import Derived.Test.YtmjpnohpmfmdlaaGreatDoorBCT
set_option linter.all false
namespace Go.Proofs.YtmjpnohpmfmdlaaGreatDoor
open Go.Ai
set_option maxRecDepth 1000000
-- decani/candle.Left, 23933 steps
noncomputable def ba1 : Ent :=
  ⟨31, [.agg ⟨[iP 8, iP 10, iP 0, iP 0, iP 1, iP 2, iP 1, iP 1, .slice (some ⟨6, 0, none⟩) 2 18446744073709551616, .slice none 0 0, .slice (some ⟨7, 0, none⟩) 1 1]⟩, iP 0, iP 1], 8,
   gC ++ [(6, .cells true 6 [iP 2, iP 2, iP 2, iP 0, iP 0, iP 2, iP 2, iP 2, iP 1, iP 0]),
    (7, .cells true 0 [iP 1, iP 0, iP 9, iP 0])],
   [],
   .tuple ⟨[.agg ⟨[iP 9, iP 9]⟩, iP 0]⟩⟩
theorem ba1_h : ba1.holds EE := ent_run envOk (T := [bc3]) (List.forall_mem_cons.2 ⟨bc3_h, fun _ h => by cases h⟩) 1000000000 _ (by kernel_rfl) (by kernel_rfl)
-- decani/candle.Left, 14930 steps
noncomputable def ba33 : Ent :=
  ⟨31, [.agg ⟨[iP 8, iP 10, iP 0, iP 0, iP 1, iP 2, iP 1, iP 1, .slice (some ⟨6, 0, none⟩) 2 18446744073709551616, .slice none 0 0, .slice none 0 0]⟩, iP 0, iP 0], 7,
   gC ++ [(6, .cells true 6 [iP 2, iP 2, iP 2, iP 0, iP 0, iP 2, iP 2, iP 2, iP 1, iP 0])],
   [],
   .tuple ⟨[.agg ⟨[iP 8, iP 10]⟩, iP 0]⟩⟩
theorem ba33_h : ba33.holds EE := ent_run envOk (T := [bc170]) (List.forall_mem_cons.2 ⟨bc170_h, fun _ h => by cases h⟩) 1000000000 _ (by kernel_rfl) (by kernel_rfl)
-- decani/candle.Left, 13973 steps
noncomputable def ba48 : Ent :=
  ⟨31, [.agg ⟨[iP 8, iP 10, iP 0, iP 0, iP 1, iP 1, iP 1, iP 1, .slice (some ⟨6, 0, none⟩) 2 18446744073709551616, .slice none 0 0, .slice (some ⟨7, 0, none⟩) 1 1]⟩, iP 0, iP 1], 8,
   gC ++ [(6, .cells true 6 [iP 2, iP 2, iP 2, iP 0, iP 0, iP 2, iP 2, iP 2, iP 1, iP 0]),
    (7, .cells true 0 [iP 1, iP 0, iP 8, iP 0])],
   [],
   .tuple ⟨[.agg ⟨[iP 8, iP 8]⟩, iP 0]⟩⟩
theorem ba48_h : ba48.holds EE := ent_run envOk (T := [bc25]) (List.forall_mem_cons.2 ⟨bc25_h, fun _ h => by cases h⟩) 1000000000 _ (by kernel_rfl) (by kernel_rfl)
-- decani/candle.Left, 13087 steps
noncomputable def ba65 : Ent :=
  ⟨31, [.agg ⟨[iP 8, iP 10, iP 0, iP 0, iP 2, iP 3, iP 1, iP 1, .slice (some ⟨6, 0, none⟩) 2 18446744073709551616, .slice none 0 0, .slice (some ⟨7, 0, none⟩) 1 1]⟩, iP 0, iP 0], 8,
   gC ++ [(6, .cells true 6 [iP 2, iP 2, iP 2, iP 0, iP 0, iP 2, iP 2, iP 2, iP 1, iP 0]),
    (7, .cells true 0 [iP 1, iP 0, iP 6, iP 0])],
   [],
   .tuple ⟨[.agg ⟨[iP 0, iP 0]⟩, iP 62]⟩⟩
theorem ba65_h : ba65.holds EE := ent_run envOk (T := [bc2]) (List.forall_mem_cons.2 ⟨bc2_h, fun _ h => by cases h⟩) 1000000000 _ (by kernel_rfl) (by kernel_rfl)
-- decani/candle.Life, 12384 steps
noncomputable def ba82 : Ent :=
  ⟨34, [.agg ⟨[iP 9, iP 10, iP 0, iP 0, iP 2, iP 3, iP 1, iP 1, .slice (some ⟨6, 0, none⟩) 2 18446744073709551616, .slice none 0 0, .slice (some ⟨7, 0, none⟩) 1 1]⟩, iP 0], 8,
   gC ++ [(6, .cells true 6 [iP 2, iP 2, iP 2, iP 0, iP 0, iP 2, iP 2, iP 2, iP 1, iP 0]),
    (7, .cells true 0 [iP 0, iP 0, iP 10, iP 0])],
   [],
   .tuple ⟨[.agg ⟨[iP 2, iP 3]⟩, iP 0]⟩⟩
theorem ba82_h : ba82.holds EE := ent_run envOk (T := [bc46]) (List.forall_mem_cons.2 ⟨bc46_h, fun _ h => by cases h⟩) 1000000000 _ (by kernel_rfl) (by kernel_rfl)
-- decani/candle.Left, 11356 steps
noncomputable def ba100 : Ent :=
  ⟨31, [.agg ⟨[iP 9, iP 10, iP 0, iP 0, iP 1, iP 2, iP 1, iP 1, .slice (some ⟨6, 0, none⟩) 2 18446744073709551616, .slice none 0 0, .slice none 0 0]⟩, iP 0, iP 1], 7,
   gC ++ [(6, .cells true 6 [iP 2, iP 2, iP 2, iP 0, iP 0, iP 2, iP 2, iP 2, iP 1, iP 0])],
   [],
   .tuple ⟨[.agg ⟨[iP 7, iP 9]⟩, iP 0]⟩⟩
theorem ba100_h : ba100.holds EE := ent_run envOk (T := [bc168]) (List.forall_mem_cons.2 ⟨bc168_h, fun _ h => by cases h⟩) 1000000000 _ (by kernel_rfl) (by kernel_rfl)
-- decani/candle.Life, 10330 steps
noncomputable def ba117 : Ent :=
  ⟨34, [.agg ⟨[iP 9, iP 10, iP 0, iP 0, iP 2, iP 3, iP 1, iP 1, .slice (some ⟨6, 0, none⟩) 2 18446744073709551616, .slice none 0 0, .slice (some ⟨7, 0, none⟩) 1 1]⟩, iP 0], 8,
   gC ++ [(6, .cells true 6 [iP 2, iP 2, iP 2, iP 0, iP 0, iP 2, iP 2, iP 2, iP 1, iP 0]),
    (7, .cells true 0 [iP 0, iP 0, iP 9, iP 0])],
   [],
   .tuple ⟨[.agg ⟨[iP 2, iP 3]⟩, iP 0]⟩⟩
theorem ba117_h : ba117.holds EE := ent_run envOk (T := [bc159]) (List.forall_mem_cons.2 ⟨bc159_h, fun _ h => by cases h⟩) 1000000000 _ (by kernel_rfl) (by kernel_rfl)
-- decani/candle.Left, 9869 steps
noncomputable def ba134 : Ent :=
  ⟨31, [.agg ⟨[iP 10, iP 10, iP 0, iP 0, iP 1, iP 2, iP 1, iP 1, .slice (some ⟨6, 0, none⟩) 2 18446744073709551616, .slice none 0 0, .slice (some ⟨7, 0, none⟩) 1 1]⟩, iP 0, iP 0], 8,
   gC ++ [(6, .cells true 6 [iP 2, iP 2, iP 2, iP 0, iP 0, iP 2, iP 2, iP 2, iP 1, iP 0]),
    (7, .cells true 0 [iP 1, iP 0, iP 9, iP 0])],
   [],
   .tuple ⟨[.agg ⟨[iP 10, iP 10]⟩, iP 0]⟩⟩
theorem ba134_h : ba134.holds EE := ent_run envOk (T := [bc74]) (List.forall_mem_cons.2 ⟨bc74_h, fun _ h => by cases h⟩) 1000000000 _ (by kernel_rfl) (by kernel_rfl)
-- decani/candle.Left, 9571 steps
noncomputable def ba150 : Ent :=
  ⟨31, [.agg ⟨[iP 9, iP 10, iP 0, iP 0, iP 1, iP 2, iP 1, iP 1, .slice (some ⟨6, 0, none⟩) 2 18446744073709551616, .slice none 0 0, .slice (some ⟨7, 0, none⟩) 1 1]⟩, iP 0, iP 0], 8,
   gC ++ [(6, .cells true 6 [iP 2, iP 2, iP 2, iP 0, iP 0, iP 2, iP 2, iP 2, iP 1, iP 0]),
    (7, .cells true 0 [iP 1, iP 0, iP 10, iP 0])],
   [],
   .tuple ⟨[.agg ⟨[iP 0, iP 0]⟩, iP 62]⟩⟩
theorem ba150_h : ba150.holds EE := ent_run envOk (T := [bc5]) (List.forall_mem_cons.2 ⟨bc5_h, fun _ h => by cases h⟩) 1000000000 _ (by kernel_rfl) (by kernel_rfl)
-- decani/candle.Right, 9383 steps
noncomputable def ba167 : Ent :=
  ⟨30, [.agg ⟨[iP 8, iP 10, iP 0, iP 0, iP 1, iP 2, iP 1, iP 1, .slice (some ⟨6, 0, none⟩) 2 18446744073709551616, .slice none 0 0, .slice (some ⟨7, 0, none⟩) 1 1]⟩], 8,
   gC ++ [(6, .cells true 6 [iP 2, iP 2, iP 2, iP 0, iP 0, iP 2, iP 2, iP 2, iP 1, iP 0]),
    (7, .cells true 0 [iP 1, iP 0, iP 8, iP 0])],
   [],
   .tuple ⟨[.bool true, iP 0]⟩⟩
theorem ba167_h : ba167.holds EE := ent_run envOk (T := [bc11]) (List.forall_mem_cons.2 ⟨bc11_h, fun _ h => by cases h⟩) 1000000000 _ (by kernel_rfl) (by kernel_rfl)
-- decani/candle.Left, 8701 steps
noncomputable def ba186 : Ent :=
  ⟨31, [.agg ⟨[iP 8, iP 10, iP 0, iP 0, iP 1, iP 2, iP 1, iP 1, .slice (some ⟨6, 0, none⟩) 2 18446744073709551616, .slice none 0 0, .slice (some ⟨7, 0, none⟩) 1 1]⟩, iP 0, iP 0], 8,
   gC ++ [(6, .cells true 6 [iP 2, iP 2, iP 2, iP 0, iP 0, iP 2, iP 2, iP 2, iP 1, iP 0]),
    (7, .cells true 0 [iP 0, iP 0, iP 7, iP 0])],
   [],
   .tuple ⟨[.agg ⟨[iP 0, iP 0]⟩, iP 62]⟩⟩
theorem ba186_h : ba186.holds EE := ent_run envOk (T := [bc15]) (List.forall_mem_cons.2 ⟨bc15_h, fun _ h => by cases h⟩) 1000000000 _ (by kernel_rfl) (by kernel_rfl)
-- decani/cold.Takes, 8563 steps
noncomputable def ba203 : Ent :=
  ⟨33, [.agg ⟨[iP 2, iP 6, iP 1, iP 2, iP 1, iP 1, iP 2, iP 2, .slice none 0 0, iP 0, .slice (some ⟨6, 0, none⟩) 2 2]⟩, iP 1], 7,
   gC ++ [(6, .cells true 0 [iP 1, iP 5, .bool true, iP 1, iP 4, .bool false])],
   [],
   .tuple ⟨[.agg ⟨[iP 2, iP 2]⟩, iP 0]⟩⟩
theorem ba203_h : ba203.holds EE := ent_run envOk (T := [bc64]) (List.forall_mem_cons.2 ⟨bc64_h, fun _ h => by cases h⟩) 1000000000 _ (by kernel_rfl) (by kernel_rfl)
-- decani/candle.Life, 8324 steps
noncomputable def ba220 : Ent :=
  ⟨34, [.agg ⟨[iP 9, iP 10, iP 0, iP 0, iP 1, iP 1, iP 1, iP 1, .slice (some ⟨6, 0, none⟩) 2 18446744073709551616, .slice none 0 0, .slice (some ⟨7, 0, none⟩) 1 1]⟩, iP 0], 8,
   gC ++ [(6, .cells true 6 [iP 2, iP 2, iP 2, iP 0, iP 0, iP 2, iP 2, iP 2, iP 1, iP 0]),
    (7, .cells true 0 [iP 1, iP 0, iP 7, iP 0])],
   [],
   .tuple ⟨[.agg ⟨[iP 1, iP 1]⟩, iP 0]⟩⟩
theorem ba220_h : ba220.holds EE := ent_run envOk (T := [bc146]) (List.forall_mem_cons.2 ⟨bc146_h, fun _ h => by cases h⟩) 1000000000 _ (by kernel_rfl) (by kernel_rfl)
-- decani/candle.Left, 8107 steps
noncomputable def ba237 : Ent :=
  ⟨31, [.agg ⟨[iP 8, iP 10, iP 0, iP 0, iP 2, iP 2, iP 1, iP 1, .slice (some ⟨6, 0, none⟩) 2 18446744073709551616, .slice none 0 0, .slice (some ⟨7, 0, none⟩) 1 1]⟩, iP 0, iP 1], 8,
   gC ++ [(6, .cells true 6 [iP 2, iP 2, iP 2, iP 0, iP 0, iP 2, iP 2, iP 2, iP 1, iP 0]),
    (7, .cells true 0 [iP 1, iP 0, iP 6, iP 0])],
   [],
   .tuple ⟨[.agg ⟨[iP 0, iP 0]⟩, iP 62]⟩⟩
theorem ba237_h : ba237.holds EE := ent_run envOk (T := [bc24]) (List.forall_mem_cons.2 ⟨bc24_h, fun _ h => by cases h⟩) 1000000000 _ (by kernel_rfl) (by kernel_rfl)
-- decani/candle.Left, 7782 steps
noncomputable def ba254 : Ent :=
  ⟨31, [.agg ⟨[iP 10, iP 10, iP 0, iP 0, iP 2, iP 3, iP 1, iP 1, .slice (some ⟨6, 0, none⟩) 2 18446744073709551616, .slice none 0 0, .slice none 0 0]⟩, iP 0, iP 0], 7,
   gC ++ [(6, .cells true 6 [iP 2, iP 2, iP 2, iP 0, iP 0, iP 2, iP 2, iP 2, iP 1, iP 0])],
   [],
   .tuple ⟨[.agg ⟨[iP 10, iP 10]⟩, iP 0]⟩⟩
theorem ba254_h : ba254.holds EE := ent_run envOk (T := [bc172]) (List.forall_mem_cons.2 ⟨bc172_h, fun _ h => by cases h⟩) 1000000000 _ (by kernel_rfl) (by kernel_rfl)
-- decani/cold.Caught, 7302 steps
noncomputable def ba271 : Ent :=
  ⟨10, [.agg ⟨[iP 2, iP 6, iP 1, iP 2, iP 1, iP 1, iP 2, iP 2, .slice none 0 0, iP 0, .slice (some ⟨6, 0, none⟩) 2 2]⟩, iP 1], 7,
   gC ++ [(6, .cells true 0 [iP 1, iP 4, .bool true, iP 1, iP 3, .bool false])],
   [],
   .tuple ⟨[.agg ⟨[iP 3, iP 3]⟩, iP 0]⟩⟩
theorem ba271_h : ba271.holds EE := ent_run envOk (T := [bc100]) (List.forall_mem_cons.2 ⟨bc100_h, fun _ h => by cases h⟩) 1000000000 _ (by kernel_rfl) (by kernel_rfl)
-- decani/cold.Caught, 7302 steps
noncomputable def ba273 : Ent :=
  ⟨10, [.agg ⟨[iP 2, iP 6, iP 1, iP 2, iP 1, iP 1, iP 1, iP 1, .slice none 0 0, iP 0, .slice (some ⟨6, 0, none⟩) 2 2]⟩, iP 1], 7,
   gC ++ [(6, .cells true 0 [iP 1, iP 3, .bool true, iP 1, iP 2, .bool false])],
   [],
   .tuple ⟨[.agg ⟨[iP 2, iP 2]⟩, iP 0]⟩⟩
theorem ba273_h : ba273.holds EE := ent_run envOk (T := [bc104]) (List.forall_mem_cons.2 ⟨bc104_h, fun _ h => by cases h⟩) 1000000000 _ (by kernel_rfl) (by kernel_rfl)
-- decani/candle.Left, 6549 steps
noncomputable def ba296 : Ent :=
  ⟨31, [.agg ⟨[iP 10, iP 10, iP 0, iP 0, iP 1, iP 1, iP 1, iP 1, .slice (some ⟨6, 0, none⟩) 2 18446744073709551616, .slice none 0 0, .slice (some ⟨7, 0, none⟩) 1 1]⟩, iP 0, iP 1], 8,
   gC ++ [(6, .cells true 6 [iP 2, iP 2, iP 2, iP 0, iP 0, iP 2, iP 2, iP 2, iP 1, iP 0]),
    (7, .cells true 0 [iP 0, iP 0, iP 10, iP 0])],
   [],
   .tuple ⟨[.agg ⟨[iP 8, iP 8]⟩, iP 0]⟩⟩
theorem ba296_h : ba296.holds EE := ent_run envOk (T := [bc141]) (List.forall_mem_cons.2 ⟨bc141_h, fun _ h => by cases h⟩) 1000000000 _ (by kernel_rfl) (by kernel_rfl)
-- decani/candle.Right, 6462 steps
noncomputable def ba313 : Ent :=
  ⟨30, [.agg ⟨[iP 9, iP 10, iP 0, iP 0, iP 1, iP 2, iP 1, iP 1, .slice (some ⟨6, 0, none⟩) 2 18446744073709551616, .slice none 0 0, .slice (some ⟨7, 0, none⟩) 1 1]⟩], 8,
   gC ++ [(6, .cells true 6 [iP 2, iP 2, iP 2, iP 0, iP 0, iP 2, iP 2, iP 2, iP 1, iP 0]),
    (7, .cells true 0 [iP 0, iP 0, iP 7, iP 0])],
   [],
   .tuple ⟨[.bool false, iP 0]⟩⟩
theorem ba313_h : ba313.holds EE := ent_run envOk (T := [bc37]) (List.forall_mem_cons.2 ⟨bc37_h, fun _ h => by cases h⟩) 1000000000 _ (by kernel_rfl) (by kernel_rfl)
-- decani/candle.Left, 6251 steps
noncomputable def ba330 : Ent :=
  ⟨31, [.agg ⟨[iP 9, iP 10, iP 0, iP 0, iP 1, iP 1, iP 1, iP 1, .slice (some ⟨6, 0, none⟩) 2 18446744073709551616, .slice none 0 0, .slice (some ⟨7, 0, none⟩) 1 1]⟩, iP 0, iP 0], 8,
   gC ++ [(6, .cells true 6 [iP 2, iP 2, iP 2, iP 0, iP 0, iP 2, iP 2, iP 2, iP 1, iP 0]),
    (7, .cells true 0 [iP 1, iP 0, iP 6, iP 0])],
   [],
   .tuple ⟨[.agg ⟨[iP 0, iP 0]⟩, iP 62]⟩⟩
theorem ba330_h : ba330.holds EE := ent_run envOk (T := [bc50]) (List.forall_mem_cons.2 ⟨bc50_h, fun _ h => by cases h⟩) 1000000000 _ (by kernel_rfl) (by kernel_rfl)
-- decani/cold.Caught, 6161 steps
noncomputable def ba347 : Ent :=
  ⟨10, [.agg ⟨[iP 2, iP 6, iP 1, iP 1, iP 1, iP 1, iP 2, iP 2, .slice none 0 0, iP 0, .slice (some ⟨6, 0, none⟩) 2 2]⟩, iP 1], 7,
   gC ++ [(6, .cells true 0 [iP 1, iP 4, .bool true, iP 1, iP 3, .bool false])],
   [],
   .tuple ⟨[.agg ⟨[iP 3, iP 3]⟩, iP 0]⟩⟩
theorem ba347_h : ba347.holds EE := ent_run envOk (T := [bc98]) (List.forall_mem_cons.2 ⟨bc98_h, fun _ h => by cases h⟩) 1000000000 _ (by kernel_rfl) (by kernel_rfl)
-- decani/candle.Right, 6066 steps
noncomputable def ba364 : Ent :=
  ⟨30, [.agg ⟨[iP 9, iP 10, iP 0, iP 0, iP 2, iP 2, iP 1, iP 1, .slice (some ⟨6, 0, none⟩) 2 18446744073709551616, .slice none 0 0, .slice (some ⟨7, 0, none⟩) 1 1]⟩], 8,
   gC ++ [(6, .cells true 6 [iP 2, iP 2, iP 2, iP 0, iP 0, iP 2, iP 2, iP 2, iP 1, iP 0]),
    (7, .cells true 0 [iP 1, iP 0, iP 7, iP 0])],
   [],
   .tuple ⟨[.bool false, iP 0]⟩⟩
theorem ba364_h : ba364.holds EE := ent_run envOk (T := [bc52]) (List.forall_mem_cons.2 ⟨bc52_h, fun _ h => by cases h⟩) 1000000000 _ (by kernel_rfl) (by kernel_rfl)
-- decani/candle.Left, 6055 steps
noncomputable def ba381 : Ent :=
  ⟨31, [.agg ⟨[iP 10, iP 10, iP 0, iP 0, iP 2, iP 3, iP 1, iP 1, .slice (some ⟨6, 0, none⟩) 2 18446744073709551616, .slice none 0 0, .slice (some ⟨7, 0, none⟩) 1 1]⟩, iP 0, iP 1], 8,
   gC ++ [(6, .cells true 6 [iP 2, iP 2, iP 2, iP 0, iP 0, iP 2, iP 2, iP 2, iP 1, iP 0]),
    (7, .cells true 0 [iP 1, iP 0, iP 7, iP 0])],
   [],
   .tuple ⟨[.agg ⟨[iP 0, iP 0]⟩, iP 62]⟩⟩
theorem ba381_h : ba381.holds EE := ent_run envOk (T := [bc72]) (List.forall_mem_cons.2 ⟨bc72_h, fun _ h => by cases h⟩) 1000000000 _ (by kernel_rfl) (by kernel_rfl)
-- decani/candle.Right, 5870 steps
noncomputable def ba400 : Ent :=
  ⟨30, [.agg ⟨[iP 10, iP 10, iP 0, iP 0, iP 2, iP 3, iP 1, iP 1, .slice (some ⟨6, 0, none⟩) 2 18446744073709551616, .slice none 0 0, .slice (some ⟨7, 0, none⟩) 1 1]⟩], 8,
   gC ++ [(6, .cells true 6 [iP 2, iP 2, iP 2, iP 0, iP 0, iP 2, iP 2, iP 2, iP 1, iP 0]),
    (7, .cells true 0 [iP 1, iP 0, iP 10, iP 0])],
   [],
   .tuple ⟨[.bool false, iP 0]⟩⟩
theorem ba400_h : ba400.holds EE := ent_run envOk (T := [bc70]) (List.forall_mem_cons.2 ⟨bc70_h, fun _ h => by cases h⟩) 1000000000 _ (by kernel_rfl) (by kernel_rfl)
-- decani/candle.Right, 5332 steps
noncomputable def ba417 : Ent :=
  ⟨30, [.agg ⟨[iP 9, iP 10, iP 0, iP 0, iP 1, iP 1, iP 1, iP 1, .slice (some ⟨6, 0, none⟩) 2 18446744073709551616, .slice none 0 0, .slice (some ⟨7, 0, none⟩) 1 1]⟩], 8,
   gC ++ [(6, .cells true 6 [iP 2, iP 2, iP 2, iP 0, iP 0, iP 2, iP 2, iP 2, iP 1, iP 0]),
    (7, .cells true 0 [iP 0, iP 0, iP 10, iP 0])],
   [],
   .tuple ⟨[.bool true, iP 0]⟩⟩
theorem ba417_h : ba417.holds EE := ent_run envOk (T := [bc83]) (List.forall_mem_cons.2 ⟨bc83_h, fun _ h => by cases h⟩) 1000000000 _ (by kernel_rfl) (by kernel_rfl)
-- decani/cold.Caught, 5183 steps
noncomputable def ba429 : Ent :=
  ⟨10, [.agg ⟨[iP 2, iP 6, iP 1, iP 2, iP 1, iP 1, iP 2, iP 2, .slice none 0 0, iP 0, .slice none 0 0]⟩, iP 0], 6,
   gC,
   [],
   .tuple ⟨[.agg ⟨[iP 0, iP 2]⟩, iP 0]⟩⟩
theorem ba429_h : ba429.holds EE := ent_run envOk (T := [bc227]) (List.forall_mem_cons.2 ⟨bc227_h, fun _ h => by cases h⟩) 1000000000 _ (by kernel_rfl) (by kernel_rfl)
-- decani/cold.Takes, 4872 steps
noncomputable def ba446 : Ent :=
  ⟨33, [.agg ⟨[iP 2, iP 6, iP 1, iP 2, iP 1, iP 1, iP 1, iP 2, .slice none 0 0, iP 0, .slice (some ⟨6, 0, none⟩) 2 2]⟩, iP 1], 7,
   gC ++ [(6, .cells true 0 [iP 0, iP 1, .bool true, iP 0, iP 0, .bool false])],
   [],
   .tuple ⟨[.agg ⟨[iP 1, iP 2]⟩, iP 0]⟩⟩
theorem ba446_h : ba446.holds EE := ent_run envOk (T := [bc204]) (List.forall_mem_cons.2 ⟨bc204_h, fun _ h => by cases h⟩) 1000000000 _ (by kernel_rfl) (by kernel_rfl)
-- decani/candle.Left, 4789 steps
noncomputable def ba463 : Ent :=
  ⟨31, [.agg ⟨[iP 9, iP 10, iP 0, iP 0, iP 2, iP 2, iP 1, iP 1, .slice (some ⟨6, 0, none⟩) 2 18446744073709551616, .slice none 0 0, .slice (some ⟨7, 0, none⟩) 1 1]⟩, iP 0, iP 1], 8,
   gC ++ [(6, .cells true 6 [iP 2, iP 2, iP 2, iP 0, iP 0, iP 2, iP 2, iP 2, iP 1, iP 0]),
    (7, .cells true 0 [iP 0, iP 0, iP 8, iP 0])],
   [],
   .tuple ⟨[.agg ⟨[iP 0, iP 0]⟩, iP 62]⟩⟩
theorem ba463_h : ba463.holds EE := ent_run envOk (T := [bc110]) (List.forall_mem_cons.2 ⟨bc110_h, fun _ h => by cases h⟩) 1000000000 _ (by kernel_rfl) (by kernel_rfl)
-- decani/candle.Left, 4593 steps
noncomputable def ba487 : Ent :=
  ⟨31, [.agg ⟨[iP 10, iP 10, iP 0, iP 0, iP 1, iP 2, iP 1, iP 1, .slice (some ⟨6, 0, none⟩) 2 18446744073709551616, .slice none 0 0, .slice (some ⟨7, 0, none⟩) 1 1]⟩, iP 0, iP 0], 8,
   gC ++ [(6, .cells true 6 [iP 2, iP 2, iP 2, iP 0, iP 0, iP 2, iP 2, iP 2, iP 1, iP 0]),
    (7, .cells true 0 [iP 0, iP 0, iP 9, iP 0])],
   [],
   .tuple ⟨[.agg ⟨[iP 0, iP 0]⟩, iP 62]⟩⟩
theorem ba487_h : ba487.holds EE := ent_run envOk (T := [bc124]) (List.forall_mem_cons.2 ⟨bc124_h, fun _ h => by cases h⟩) 1000000000 _ (by kernel_rfl) (by kernel_rfl)
-- decani/cold.Right, 4558 steps
noncomputable def ba503 : Ent :=
  ⟨29, [.agg ⟨[iP 2, iP 6, iP 1, iP 2, iP 1, iP 1, iP 2, iP 2, .slice none 0 0, iP 0, .slice (some ⟨6, 0, none⟩) 2 2]⟩], 7,
   gC ++ [(6, .cells true 0 [iP 0, iP 4, .bool true, iP 0, iP 3, .bool false])],
   [],
   .tuple ⟨[.bool false, iP 0]⟩⟩
theorem ba503_h : ba503.holds EE := ent_run envOk (T := [bc58]) (List.forall_mem_cons.2 ⟨bc58_h, fun _ h => by cases h⟩) 1000000000 _ (by kernel_rfl) (by kernel_rfl)
-- decani/cold.Right, 4503 steps
noncomputable def ba513 : Ent :=
  ⟨29, [.agg ⟨[iP 2, iP 6, iP 1, iP 2, iP 1, iP 1, iP 1, iP 1, .slice none 0 0, iP 0, .slice (some ⟨6, 0, none⟩) 2 2]⟩], 7,
   gC ++ [(6, .cells true 0 [iP 1, iP 4, .bool true, iP 1, iP 3, .bool false])],
   [],
   .tuple ⟨[.bool true, iP 0]⟩⟩
theorem ba513_h : ba513.holds EE := ent_run envOk (T := [bc66]) (List.forall_mem_cons.2 ⟨bc66_h, fun _ h => by cases h⟩) 1000000000 _ (by kernel_rfl) (by kernel_rfl)
-- decani/candle.Right, 4210 steps
noncomputable def ba543 : Ent :=
  ⟨30, [.agg ⟨[iP 10, iP 10, iP 0, iP 0, iP 2, iP 2, iP 1, iP 1, .slice (some ⟨6, 0, none⟩) 2 18446744073709551616, .slice none 0 0, .slice (some ⟨7, 0, none⟩) 1 1]⟩], 8,
   gC ++ [(6, .cells true 6 [iP 2, iP 2, iP 2, iP 0, iP 0, iP 2, iP 2, iP 2, iP 1, iP 0]),
    (7, .cells true 0 [iP 1, iP 0, iP 10, iP 0])],
   [],
   .tuple ⟨[.bool false, iP 0]⟩⟩
theorem ba543_h : ba543.holds EE := ent_run envOk (T := [bc137]) (List.forall_mem_cons.2 ⟨bc137_h, fun _ h => by cases h⟩) 1000000000 _ (by kernel_rfl) (by kernel_rfl)
-- decani/candle.Right, 4207 steps
noncomputable def ba548 : Ent :=
  ⟨30, [.agg ⟨[iP 10, iP 10, iP 0, iP 0, iP 1, iP 1, iP 1, iP 1, .slice (some ⟨6, 0, none⟩) 2 18446744073709551616, .slice none 0 0, .slice (some ⟨7, 0, none⟩) 1 1]⟩], 8,
   gC ++ [(6, .cells true 6 [iP 2, iP 2, iP 2, iP 0, iP 0, iP 2, iP 2, iP 2, iP 1, iP 0]),
    (7, .cells true 0 [iP 1, iP 0, iP 8, iP 0])],
   [],
   .tuple ⟨[.bool true, iP 0]⟩⟩
theorem ba548_h : ba548.holds EE := ent_run envOk (T := [bc142]) (List.forall_mem_cons.2 ⟨bc142_h, fun _ h => by cases h⟩) 1000000000 _ (by kernel_rfl) (by kernel_rfl)
-- decani/candle.Right, 4207 steps
noncomputable def ba565 : Ent :=
  ⟨30, [.agg ⟨[iP 9, iP 10, iP 0, iP 0, iP 2, iP 3, iP 1, iP 1, .slice (some ⟨6, 0, none⟩) 2 18446744073709551616, .slice none 0 0, .slice (some ⟨7, 0, none⟩) 1 1]⟩], 8,
   gC ++ [(6, .cells true 6 [iP 2, iP 2, iP 2, iP 0, iP 0, iP 2, iP 2, iP 2, iP 1, iP 0]),
    (7, .cells true 0 [iP 0, iP 0, iP 9, iP 0])],
   [],
   .tuple ⟨[.bool true, iP 0]⟩⟩
theorem ba565_h : ba565.holds EE := ent_run envOk (T := [bc159]) (List.forall_mem_cons.2 ⟨bc159_h, fun _ h => by cases h⟩) 1000000000 _ (by kernel_rfl) (by kernel_rfl)
-- decani/candle.Right, 3874 steps
noncomputable def ba587 : Ent :=
  ⟨30, [.agg ⟨[iP 8, iP 10, iP 0, iP 0, iP 1, iP 1, iP 1, iP 1, .slice (some ⟨6, 0, none⟩) 2 18446744073709551616, .slice none 0 0, .slice none 0 0]⟩], 7,
   gC ++ [(6, .cells true 6 [iP 2, iP 2, iP 2, iP 0, iP 0, iP 2, iP 2, iP 2, iP 1, iP 0])],
   [],
   .tuple ⟨[.bool true, iP 0]⟩⟩
theorem ba587_h : ba587.holds EE := ent_run envOk (T := [bc169]) (List.forall_mem_cons.2 ⟨bc169_h, fun _ h => by cases h⟩) 1000000000 _ (by kernel_rfl) (by kernel_rfl)
-- decani/cold.Takes, 3790 steps
noncomputable def ba603 : Ent :=
  ⟨33, [.agg ⟨[iP 2, iP 6, iP 1, iP 0, iP 1, iP 1, iP 1, iP 2, .slice none 0 0, iP 0, .slice none 0 0]⟩, iP 1], 6,
   gC,
   [],
   .tuple ⟨[.agg ⟨[iP 1, iP 2]⟩, iP 0]⟩⟩
theorem ba603_h : ba603.holds EE := ent_run envOk (T := [bc225]) (List.forall_mem_cons.2 ⟨bc225_h, fun _ h => by cases h⟩) 1000000000 _ (by kernel_rfl) (by kernel_rfl)
-- decani/cold.Caught, 3727 steps
noncomputable def ba612 : Ent :=
  ⟨10, [.agg ⟨[iP 2, iP 6, iP 1, iP 0, iP 1, iP 1, iP 1, iP 1, .slice none 0 0, iP 0, .slice (some ⟨6, 0, none⟩) 2 2]⟩, iP 0], 7,
   gC ++ [(6, .cells true 0 [iP 1, iP 2, .bool true, iP 1, iP 1, .bool false])],
   [],
   .tuple ⟨[.agg ⟨[iP 0, iP 0]⟩, iP 0]⟩⟩
theorem ba612_h : ba612.holds EE := ent_run envOk (T := [bc207]) (List.forall_mem_cons.2 ⟨bc207_h, fun _ h => by cases h⟩) 1000000000 _ (by kernel_rfl) (by kernel_rfl)
-- decani/cold.Caught, 3433 steps
noncomputable def ba644 : Ent :=
  ⟨10, [.agg ⟨[iP 2, iP 6, iP 1, iP 1, iP 1, iP 1, iP 2, iP 2, .slice none 0 0, iP 0, .slice (some ⟨6, 0, none⟩) 2 2]⟩, iP 0], 7,
   gC ++ [(6, .cells true 0 [iP 0, iP 4, .bool true, iP 0, iP 3, .bool false])],
   [],
   .tuple ⟨[.agg ⟨[iP 0, iP 0]⟩, iP 32]⟩⟩
theorem ba644_h : ba644.holds EE := ent_run envOk (T := [bc89]) (List.forall_mem_cons.2 ⟨bc89_h, fun _ h => by cases h⟩) 1000000000 _ (by kernel_rfl) (by kernel_rfl)
-- decani/cold.Caught, 3433 steps
noncomputable def ba648 : Ent :=
  ⟨10, [.agg ⟨[iP 2, iP 6, iP 1, iP 1, iP 1, iP 1, iP 2, iP 2, .slice none 0 0, iP 0, .slice (some ⟨6, 0, none⟩) 2 2]⟩, iP 0], 7,
   gC ++ [(6, .cells true 0 [iP 1, iP 5, .bool true, iP 1, iP 4, .bool false])],
   [],
   .tuple ⟨[.agg ⟨[iP 0, iP 0]⟩, iP 32]⟩⟩
theorem ba648_h : ba648.holds EE := ent_run envOk (T := [bc91]) (List.forall_mem_cons.2 ⟨bc91_h, fun _ h => by cases h⟩) 1000000000 _ (by kernel_rfl) (by kernel_rfl)
-- decani/cold.Right, 3341 steps
noncomputable def ba665 : Ent :=
  ⟨29, [.agg ⟨[iP 2, iP 6, iP 1, iP 1, iP 1, iP 1, iP 2, iP 2, .slice none 0 0, iP 0, .slice (some ⟨6, 0, none⟩) 2 2]⟩], 7,
   gC ++ [(6, .cells true 0 [iP 1, iP 5, .bool true, iP 1, iP 4, .bool false])],
   [],
   .tuple ⟨[.bool false, iP 0]⟩⟩
theorem ba665_h : ba665.holds EE := ent_run envOk (T := [bc91]) (List.forall_mem_cons.2 ⟨bc91_h, fun _ h => by cases h⟩) 1000000000 _ (by kernel_rfl) (by kernel_rfl)
-- decani/cold.Caught, 3091 steps
noncomputable def ba686 : Ent :=
  ⟨10, [.agg ⟨[iP 2, iP 6, iP 1, iP 0, iP 1, iP 1, iP 1, iP 2, .slice none 0 0, iP 0, .slice (some ⟨6, 0, none⟩) 2 2]⟩, iP 1], 7,
   gC ++ [(6, .cells true 0 [iP 0, iP 2, .bool true, iP 0, iP 1, .bool false])],
   [],
   .tuple ⟨[.agg ⟨[iP 0, iP 0]⟩, iP 32]⟩⟩
theorem ba686_h : ba686.holds EE := ent_run envOk (T := [bc114]) (List.forall_mem_cons.2 ⟨bc114_h, fun _ h => by cases h⟩) 1000000000 _ (by kernel_rfl) (by kernel_rfl)
-- decani/cold.Right, 2999 steps
noncomputable def ba700 : Ent :=
  ⟨29, [.agg ⟨[iP 2, iP 6, iP 1, iP 0, iP 1, iP 1, iP 1, iP 2, .slice none 0 0, iP 0, .slice (some ⟨6, 0, none⟩) 2 2]⟩], 7,
   gC ++ [(6, .cells true 0 [iP 0, iP 2, .bool true, iP 0, iP 1, .bool false])],
   [],
   .tuple ⟨[.bool false, iP 0]⟩⟩
theorem ba700_h : ba700.holds EE := ent_run envOk (T := [bc114]) (List.forall_mem_cons.2 ⟨bc114_h, fun _ h => by cases h⟩) 1000000000 _ (by kernel_rfl) (by kernel_rfl)
-- decani/cold.Caught, 2939 steps
noncomputable def ba714 : Ent :=
  ⟨10, [.agg ⟨[iP 2, iP 6, iP 1, iP 0, iP 1, iP 1, iP 1, iP 2, .slice none 0 0, iP 0, .slice (some ⟨6, 0, none⟩) 2 2]⟩, iP 1], 7,
   gC ++ [(6, .cells true 0 [iP 1, iP 1, .bool true, iP 1, iP 0, .bool false])],
   [],
   .tuple ⟨[.agg ⟨[iP 0, iP 0]⟩, iP 32]⟩⟩
theorem ba714_h : ba714.holds EE := ent_run envOk (T := [bc132]) (List.forall_mem_cons.2 ⟨bc132_h, fun _ h => by cases h⟩) 1000000000 _ (by kernel_rfl) (by kernel_rfl)
-- decani/cold.Caught, 2216 steps
noncomputable def ba747 : Ent :=
  ⟨10, [.agg ⟨[iP 2, iP 6, iP 1, iP 0, iP 1, iP 1, iP 1, iP 1, .slice none 0 0, iP 0, .slice (some ⟨6, 0, none⟩) 2 2]⟩, iP 0], 7,
   gC ++ [(6, .cells true 0 [iP 1, iP 3, .bool true, iP 1, iP 2, .bool false])],
   [],
   .tuple ⟨[.agg ⟨[iP 0, iP 0]⟩, iP 32]⟩⟩
theorem ba747_h : ba747.holds EE := ent_run envOk (T := [bc191]) (List.forall_mem_cons.2 ⟨bc191_h, fun _ h => by cases h⟩) 1000000000 _ (by kernel_rfl) (by kernel_rfl)
-- decani/cold.Right, 2124 steps
noncomputable def ba764 : Ent :=
  ⟨29, [.agg ⟨[iP 2, iP 6, iP 1, iP 0, iP 1, iP 1, iP 2, iP 2, .slice none 0 0, iP 0, .slice (some ⟨6, 0, none⟩) 2 2]⟩], 7,
   gC ++ [(6, .cells true 0 [iP 0, iP 3, .bool true, iP 0, iP 2, .bool false])],
   [],
   .tuple ⟨[.bool false, iP 0]⟩⟩
theorem ba764_h : ba764.holds EE := ent_run envOk (T := [bc182]) (List.forall_mem_cons.2 ⟨bc182_h, fun _ h => by cases h⟩) 1000000000 _ (by kernel_rfl) (by kernel_rfl)
-- decani/cold.Right, 2069 steps
noncomputable def ba780 : Ent :=
  ⟨29, [.agg ⟨[iP 2, iP 6, iP 1, iP 1, iP 1, iP 1, iP 2, iP 2, .slice none 0 0, iP 0, .slice (some ⟨6, 0, none⟩) 2 2]⟩], 7,
   gC ++ [(6, .cells true 0 [iP 0, iP 1, .bool true, iP 0, iP 0, .bool false])],
   [],
   .tuple ⟨[.bool true, iP 0]⟩⟩
theorem ba780_h : ba780.holds EE := ent_run envOk (T := [bc198]) (List.forall_mem_cons.2 ⟨bc198_h, fun _ h => by cases h⟩) 1000000000 _ (by kernel_rfl) (by kernel_rfl)
-- decani/cold.Right, 1565 steps
noncomputable def ba797 : Ent :=
  ⟨29, [.agg ⟨[iP 2, iP 6, iP 1, iP 0, iP 1, iP 1, iP 2, iP 2, .slice none 0 0, iP 0, .slice none 0 0]⟩], 6,
   gC,
   [],
   .tuple ⟨[.bool true, iP 0]⟩⟩
theorem ba797_h : ba797.holds EE := ent_run envOk (T := [bc224]) (List.forall_mem_cons.2 ⟨bc224_h, fun _ h => by cases h⟩) 1000000000 _ (by kernel_rfl) (by kernel_rfl)
end Go.Proofs.YtmjpnohpmfmdlaaGreatDoor
