/- Known calls, part 14: what single calls hand back, at small heaps, by the kernel's own run of the evaluator. No conditions. -/
import Derived.Test.YtmjpnohpmfmdlaaGreatDoorBCT
set_option linter.all false
namespace Go.Proofs.YtmjpnohpmfmdlaaGreatDoor
open Go.Ai
set_option maxRecDepth 1000000
-- decani/candle.Life, 16968 steps
noncomputable def ba14 : Ent :=
  ⟨34, [.agg ⟨[iP 8, iP 10, iP 0, iP 0, iP 1, iP 2, iP 1, iP 1, .slice (some ⟨6, 0, none⟩) 2 18446744073709551616, .slice none 0 0, .slice (some ⟨7, 0, none⟩) 1 1]⟩, iP 0], 8,
   gC ++ [(6, .cells true 6 [iP 2, iP 2, iP 2, iP 0, iP 0, iP 2, iP 2, iP 2, iP 1, iP 0]),
    (7, .cells true 0 [iP 1, iP 0, iP 7, iP 0])],
   [],
   .tuple ⟨[.agg ⟨[iP 1, iP 2]⟩, iP 0]⟩⟩
theorem ba14_h : ba14.holds EE := ent_run envOk (T := [bc76]) (List.forall_mem_cons.2 ⟨bc76_h, fun _ h => by cases h⟩) 1000000000 _ (by kernel_rfl) (by kernel_rfl)
-- decani/candle.Left, 16577 steps
noncomputable def ba19 : Ent :=
  ⟨31, [.agg ⟨[iP 8, iP 10, iP 0, iP 0, iP 1, iP 2, iP 1, iP 1, .slice (some ⟨6, 0, none⟩) 2 18446744073709551616, .slice none 0 0, .slice (some ⟨7, 0, none⟩) 1 1]⟩, iP 0, iP 1], 8,
   gC ++ [(6, .cells true 6 [iP 2, iP 2, iP 2, iP 0, iP 0, iP 2, iP 2, iP 2, iP 1, iP 0]),
    (7, .cells true 0 [iP 0, iP 0, iP 10, iP 0])],
   [],
   .tuple ⟨[.agg ⟨[iP 8, iP 9]⟩, iP 0]⟩⟩
theorem ba19_h : ba19.holds EE := ent_run envOk (T := [bc19]) (List.forall_mem_cons.2 ⟨bc19_h, fun _ h => by cases h⟩) 1000000000 _ (by kernel_rfl) (by kernel_rfl)
-- decani/candle.Left, 14930 steps
noncomputable def ba35 : Ent :=
  ⟨31, [.agg ⟨[iP 8, iP 10, iP 0, iP 0, iP 2, iP 3, iP 1, iP 1, .slice (some ⟨6, 0, none⟩) 2 18446744073709551616, .slice none 0 0, .slice none 0 0]⟩, iP 0, iP 0], 7,
   gC ++ [(6, .cells true 6 [iP 2, iP 2, iP 2, iP 0, iP 0, iP 2, iP 2, iP 2, iP 1, iP 0])],
   [],
   .tuple ⟨[.agg ⟨[iP 8, iP 10]⟩, iP 0]⟩⟩
theorem ba35_h : ba35.holds EE := ent_run envOk (T := [bc176]) (List.forall_mem_cons.2 ⟨bc176_h, fun _ h => by cases h⟩) 1000000000 _ (by kernel_rfl) (by kernel_rfl)
-- decani/cold.Caught, 13845 steps
noncomputable def ba53 : Ent :=
  ⟨10, [.agg ⟨[iP 2, iP 6, iP 1, iP 2, iP 1, iP 1, iP 1, iP 2, .slice none 0 0, iP 0, .slice (some ⟨6, 0, none⟩) 2 2]⟩, iP 0], 7,
   gC ++ [(6, .cells true 0 [iP 1, iP 5, .bool true, iP 1, iP 4, .bool false])],
   [],
   .tuple ⟨[.agg ⟨[iP 2, iP 2]⟩, iP 0]⟩⟩
theorem ba53_h : ba53.holds EE := ent_run envOk (T := [bc14]) (List.forall_mem_cons.2 ⟨bc14_h, fun _ h => by cases h⟩) 1000000000 _ (by kernel_rfl) (by kernel_rfl)
-- decani/candle.Right, 12902 steps
noncomputable def ba69 : Ent :=
  ⟨30, [.agg ⟨[iP 8, iP 10, iP 0, iP 0, iP 2, iP 3, iP 1, iP 1, .slice (some ⟨6, 0, none⟩) 2 18446744073709551616, .slice none 0 0, .slice (some ⟨7, 0, none⟩) 1 1]⟩], 8,
   gC ++ [(6, .cells true 6 [iP 2, iP 2, iP 2, iP 0, iP 0, iP 2, iP 2, iP 2, iP 1, iP 0]),
    (7, .cells true 0 [iP 1, iP 0, iP 10, iP 0])],
   [],
   .tuple ⟨[.bool false, iP 0]⟩⟩
theorem ba69_h : ba69.holds EE := ent_run envOk (T := [bc1]) (List.forall_mem_cons.2 ⟨bc1_h, fun _ h => by cases h⟩) 1000000000 _ (by kernel_rfl) (by kernel_rfl)
-- decani/candle.Life, 12036 steps
noncomputable def ba88 : Ent :=
  ⟨34, [.agg ⟨[iP 8, iP 10, iP 0, iP 0, iP 1, iP 1, iP 1, iP 1, .slice (some ⟨6, 0, none⟩) 2 18446744073709551616, .slice none 0 0, .slice (some ⟨7, 0, none⟩) 1 1]⟩, iP 0], 8,
   gC ++ [(6, .cells true 6 [iP 2, iP 2, iP 2, iP 0, iP 0, iP 2, iP 2, iP 2, iP 1, iP 0]),
    (7, .cells true 0 [iP 1, iP 0, iP 7, iP 0])],
   [],
   .tuple ⟨[.agg ⟨[iP 1, iP 1]⟩, iP 0]⟩⟩
theorem ba88_h : ba88.holds EE := ent_run envOk (T := [bc55]) (List.forall_mem_cons.2 ⟨bc55_h, fun _ h => by cases h⟩) 1000000000 _ (by kernel_rfl) (by kernel_rfl)
-- decani/candle.Right, 11239 steps
noncomputable def ba105 : Ent :=
  ⟨30, [.agg ⟨[iP 8, iP 10, iP 0, iP 0, iP 2, iP 3, iP 1, iP 1, .slice (some ⟨6, 0, none⟩) 2 18446744073709551616, .slice none 0 0, .slice (some ⟨7, 0, none⟩) 1 1]⟩], 8,
   gC ++ [(6, .cells true 6 [iP 2, iP 2, iP 2, iP 0, iP 0, iP 2, iP 2, iP 2, iP 1, iP 0]),
    (7, .cells true 0 [iP 1, iP 0, iP 9, iP 0])],
   [],
   .tuple ⟨[.bool true, iP 0]⟩⟩
theorem ba105_h : ba105.holds EE := ent_run envOk (T := [bc4]) (List.forall_mem_cons.2 ⟨bc4_h, fun _ h => by cases h⟩) 1000000000 _ (by kernel_rfl) (by kernel_rfl)
-- decani/candle.Left, 10261 steps
noncomputable def ba125 : Ent :=
  ⟨31, [.agg ⟨[iP 8, iP 10, iP 0, iP 0, iP 2, iP 2, iP 1, iP 1, .slice (some ⟨6, 0, none⟩) 2 18446744073709551616, .slice none 0 0, .slice (some ⟨7, 0, none⟩) 1 1]⟩, iP 0, iP 1], 8,
   gC ++ [(6, .cells true 6 [iP 2, iP 2, iP 2, iP 0, iP 0, iP 2, iP 2, iP 2, iP 1, iP 0]),
    (7, .cells true 0 [iP 1, iP 0, iP 7, iP 0])],
   [],
   .tuple ⟨[.agg ⟨[iP 7, iP 7]⟩, iP 0]⟩⟩
theorem ba125_h : ba125.holds EE := ent_run envOk (T := [bc162]) (List.forall_mem_cons.2 ⟨bc162_h, fun _ h => by cases h⟩) 1000000000 _ (by kernel_rfl) (by kernel_rfl)
-- decani/candle.Life, 9788 steps
noncomputable def ba142 : Ent :=
  ⟨34, [.agg ⟨[iP 10, iP 10, iP 0, iP 0, iP 1, iP 2, iP 1, iP 1, .slice (some ⟨6, 0, none⟩) 2 18446744073709551616, .slice none 0 0, .slice (some ⟨7, 0, none⟩) 1 1]⟩, iP 0], 8,
   gC ++ [(6, .cells true 6 [iP 2, iP 2, iP 2, iP 0, iP 0, iP 2, iP 2, iP 2, iP 1, iP 0]),
    (7, .cells true 0 [iP 1, iP 0, iP 9, iP 0])],
   [],
   .tuple ⟨[.agg ⟨[iP 2, iP 2]⟩, iP 0]⟩⟩
theorem ba142_h : ba142.holds EE := ent_run envOk (T := [bc74]) (List.forall_mem_cons.2 ⟨bc74_h, fun _ h => by cases h⟩) 1000000000 _ (by kernel_rfl) (by kernel_rfl)
-- decani/candle.Left, 9571 steps
noncomputable def ba159 : Ent :=
  ⟨31, [.agg ⟨[iP 9, iP 10, iP 0, iP 0, iP 2, iP 3, iP 1, iP 1, .slice (some ⟨6, 0, none⟩) 2 18446744073709551616, .slice none 0 0, .slice (some ⟨7, 0, none⟩) 1 1]⟩, iP 0, iP 1], 8,
   gC ++ [(6, .cells true 6 [iP 2, iP 2, iP 2, iP 0, iP 0, iP 2, iP 2, iP 2, iP 1, iP 0]),
    (7, .cells true 0 [iP 1, iP 0, iP 6, iP 0])],
   [],
   .tuple ⟨[.agg ⟨[iP 0, iP 0]⟩, iP 62]⟩⟩
theorem ba159_h : ba159.holds EE := ent_run envOk (T := [bc9]) (List.forall_mem_cons.2 ⟨bc9_h, fun _ h => by cases h⟩) 1000000000 _ (by kernel_rfl) (by kernel_rfl)
-- decani/candle.Left, 8799 steps
noncomputable def ba179 : Ent :=
  ⟨31, [.agg ⟨[iP 9, iP 10, iP 0, iP 0, iP 2, iP 2, iP 1, iP 1, .slice (some ⟨6, 0, none⟩) 2 18446744073709551616, .slice none 0 0, .slice (some ⟨7, 0, none⟩) 1 1]⟩, iP 0, iP 1], 8,
   gC ++ [(6, .cells true 6 [iP 2, iP 2, iP 2, iP 0, iP 0, iP 2, iP 2, iP 2, iP 1, iP 0]),
    (7, .cells true 0 [iP 0, iP 0, iP 10, iP 0])],
   [],
   .tuple ⟨[.agg ⟨[iP 9, iP 9]⟩, iP 0]⟩⟩
theorem ba179_h : ba179.holds EE := ent_run envOk (T := [bc85]) (List.forall_mem_cons.2 ⟨bc85_h, fun _ h => by cases h⟩) 1000000000 _ (by kernel_rfl) (by kernel_rfl)
-- decani/candle.Left, 8701 steps
noncomputable def ba192 : Ent :=
  ⟨31, [.agg ⟨[iP 8, iP 10, iP 0, iP 0, iP 2, iP 3, iP 1, iP 1, .slice (some ⟨6, 0, none⟩) 2 18446744073709551616, .slice none 0 0, .slice (some ⟨7, 0, none⟩) 1 1]⟩, iP 0, iP 0], 8,
   gC ++ [(6, .cells true 6 [iP 2, iP 2, iP 2, iP 0, iP 0, iP 2, iP 2, iP 2, iP 1, iP 0]),
    (7, .cells true 0 [iP 0, iP 0, iP 6, iP 0])],
   [],
   .tuple ⟨[.agg ⟨[iP 0, iP 0]⟩, iP 62]⟩⟩
theorem ba192_h : ba192.holds EE := ent_run envOk (T := [bc18]) (List.forall_mem_cons.2 ⟨bc18_h, fun _ h => by cases h⟩) 1000000000 _ (by kernel_rfl) (by kernel_rfl)
-- decani/candle.Left, 8405 steps
noncomputable def ba213 : Ent :=
  ⟨31, [.agg ⟨[iP 9, iP 10, iP 0, iP 0, iP 2, iP 2, iP 1, iP 1, .slice (some ⟨6, 0, none⟩) 2 18446744073709551616, .slice none 0 0, .slice (some ⟨7, 0, none⟩) 1 1]⟩, iP 0, iP 1], 8,
   gC ++ [(6, .cells true 6 [iP 2, iP 2, iP 2, iP 0, iP 0, iP 2, iP 2, iP 2, iP 1, iP 0]),
    (7, .cells true 0 [iP 1, iP 0, iP 8, iP 0])],
   [],
   .tuple ⟨[.agg ⟨[iP 8, iP 8]⟩, iP 0]⟩⟩
theorem ba213_h : ba213.holds EE := ent_run envOk (T := [bc158]) (List.forall_mem_cons.2 ⟨bc158_h, fun _ h => by cases h⟩) 1000000000 _ (by kernel_rfl) (by kernel_rfl)
-- decani/candle.Life, 8276 steps
noncomputable def ba225 : Ent :=
  ⟨34, [.agg ⟨[iP 10, iP 10, iP 0, iP 0, iP 2, iP 3, iP 1, iP 1, .slice (some ⟨6, 0, none⟩) 2 18446744073709551616, .slice none 0 0, .slice (some ⟨7, 0, none⟩) 1 1]⟩, iP 0], 8,
   gC ++ [(6, .cells true 6 [iP 2, iP 2, iP 2, iP 0, iP 0, iP 2, iP 2, iP 2, iP 1, iP 0]),
    (7, .cells true 0 [iP 0, iP 0, iP 10, iP 0])],
   [],
   .tuple ⟨[.agg ⟨[iP 2, iP 3]⟩, iP 0]⟩⟩
theorem ba225_h : ba225.holds EE := ent_run envOk (T := [bc155]) (List.forall_mem_cons.2 ⟨bc155_h, fun _ h => by cases h⟩) 1000000000 _ (by kernel_rfl) (by kernel_rfl)
-- decani/candle.Right, 7919 steps
noncomputable def ba246 : Ent :=
  ⟨30, [.agg ⟨[iP 8, iP 10, iP 0, iP 0, iP 1, iP 1, iP 1, iP 1, .slice (some ⟨6, 0, none⟩) 2 18446744073709551616, .slice none 0 0, .slice (some ⟨7, 0, none⟩) 1 1]⟩], 8,
   gC ++ [(6, .cells true 6 [iP 2, iP 2, iP 2, iP 0, iP 0, iP 2, iP 2, iP 2, iP 1, iP 0]),
    (7, .cells true 0 [iP 1, iP 0, iP 8, iP 0])],
   [],
   .tuple ⟨[.bool true, iP 0]⟩⟩
theorem ba246_h : ba246.holds EE := ent_run envOk (T := [bc25]) (List.forall_mem_cons.2 ⟨bc25_h, fun _ h => by cases h⟩) 1000000000 _ (by kernel_rfl) (by kernel_rfl)
-- decani/candle.Life, 7593 steps
noncomputable def ba269 : Ent :=
  ⟨34, [.agg ⟨[iP 9, iP 10, iP 0, iP 0, iP 2, iP 2, iP 1, iP 1, .slice (some ⟨6, 0, none⟩) 2 18446744073709551616, .slice none 0 0, .slice (some ⟨7, 0, none⟩) 1 1]⟩, iP 0], 8,
   gC ++ [(6, .cells true 6 [iP 2, iP 2, iP 2, iP 0, iP 0, iP 2, iP 2, iP 2, iP 1, iP 0]),
    (7, .cells true 0 [iP 0, iP 0, iP 9, iP 0])],
   [],
   .tuple ⟨[.agg ⟨[iP 2, iP 2]⟩, iP 0]⟩⟩
theorem ba269_h : ba269.holds EE := ent_run envOk (T := [bc157]) (List.forall_mem_cons.2 ⟨bc157_h, fun _ h => by cases h⟩) 1000000000 _ (by kernel_rfl) (by kernel_rfl)
-- decani/cold.Caught, 7275 steps
noncomputable def ba275 : Ent :=
  ⟨10, [.agg ⟨[iP 2, iP 6, iP 1, iP 2, iP 1, iP 1, iP 1, iP 2, .slice none 0 0, iP 0, .slice (some ⟨6, 0, none⟩) 2 2]⟩, iP 1], 7,
   gC ++ [(6, .cells true 0 [iP 0, iP 4, .bool true, iP 0, iP 3, .bool false])],
   [],
   .tuple ⟨[.agg ⟨[iP 0, iP 0]⟩, iP 32]⟩⟩
theorem ba275_h : ba275.holds EE := ent_run envOk (T := [bc12]) (List.forall_mem_cons.2 ⟨bc12_h, fun _ h => by cases h⟩) 1000000000 _ (by kernel_rfl) (by kernel_rfl)
-- decani/candle.Left, 6549 steps
noncomputable def ba301 : Ent :=
  ⟨31, [.agg ⟨[iP 10, iP 10, iP 0, iP 0, iP 2, iP 2, iP 1, iP 1, .slice (some ⟨6, 0, none⟩) 2 18446744073709551616, .slice none 0 0, .slice (some ⟨7, 0, none⟩) 1 1]⟩, iP 0, iP 0], 8,
   gC ++ [(6, .cells true 6 [iP 2, iP 2, iP 2, iP 0, iP 0, iP 2, iP 2, iP 2, iP 1, iP 0]),
    (7, .cells true 0 [iP 1, iP 0, iP 9, iP 0])],
   [],
   .tuple ⟨[.agg ⟨[iP 10, iP 10]⟩, iP 0]⟩⟩
theorem ba301_h : ba301.holds EE := ent_run envOk (T := [bc154]) (List.forall_mem_cons.2 ⟨bc154_h, fun _ h => by cases h⟩) 1000000000 _ (by kernel_rfl) (by kernel_rfl)
-- decani/candle.Right, 6457 steps
noncomputable def ba318 : Ent :=
  ⟨30, [.agg ⟨[iP 8, iP 10, iP 0, iP 0, iP 1, iP 1, iP 1, iP 1, .slice (some ⟨6, 0, none⟩) 2 18446744073709551616, .slice none 0 0, .slice (some ⟨7, 0, none⟩) 1 1]⟩], 8,
   gC ++ [(6, .cells true 6 [iP 2, iP 2, iP 2, iP 0, iP 0, iP 2, iP 2, iP 2, iP 1, iP 0]),
    (7, .cells true 0 [iP 0, iP 0, iP 10, iP 0])],
   [],
   .tuple ⟨[.bool true, iP 0]⟩⟩
theorem ba318_h : ba318.holds EE := ent_run envOk (T := [bc42]) (List.forall_mem_cons.2 ⟨bc42_h, fun _ h => by cases h⟩) 1000000000 _ (by kernel_rfl) (by kernel_rfl)
-- decani/candle.Left, 6251 steps
noncomputable def ba337 : Ent :=
  ⟨31, [.agg ⟨[iP 9, iP 10, iP 0, iP 0, iP 2, iP 2, iP 1, iP 1, .slice (some ⟨6, 0, none⟩) 2 18446744073709551616, .slice none 0 0, .slice (some ⟨7, 0, none⟩) 1 1]⟩, iP 0, iP 1], 8,
   gC ++ [(6, .cells true 6 [iP 2, iP 2, iP 2, iP 0, iP 0, iP 2, iP 2, iP 2, iP 1, iP 0]),
    (7, .cells true 0 [iP 1, iP 0, iP 6, iP 0])],
   [],
   .tuple ⟨[.agg ⟨[iP 0, iP 0]⟩, iP 62]⟩⟩
theorem ba337_h : ba337.holds EE := ent_run envOk (T := [bc53]) (List.forall_mem_cons.2 ⟨bc53_h, fun _ h => by cases h⟩) 1000000000 _ (by kernel_rfl) (by kernel_rfl)
-- decani/candle.Left, 6093 steps
noncomputable def ba356 : Ent :=
  ⟨31, [.agg ⟨[iP 10, iP 10, iP 0, iP 0, iP 1, iP 1, iP 1, iP 1, .slice (some ⟨6, 0, none⟩) 2 18446744073709551616, .slice none 0 0, .slice none 0 0]⟩, iP 0, iP 0], 7,
   gC ++ [(6, .cells true 6 [iP 2, iP 2, iP 2, iP 0, iP 0, iP 2, iP 2, iP 2, iP 1, iP 0])],
   [],
   .tuple ⟨[.agg ⟨[iP 10, iP 10]⟩, iP 0]⟩⟩
theorem ba356_h : ba356.holds EE := ent_run envOk (T := [bc165]) (List.forall_mem_cons.2 ⟨bc165_h, fun _ h => by cases h⟩) 1000000000 _ (by kernel_rfl) (by kernel_rfl)
-- decani/candle.Right, 6063 steps
noncomputable def ba368 : Ent :=
  ⟨30, [.agg ⟨[iP 9, iP 10, iP 0, iP 0, iP 2, iP 2, iP 1, iP 1, .slice (some ⟨6, 0, none⟩) 2 18446744073709551616, .slice none 0 0, .slice (some ⟨7, 0, none⟩) 1 1]⟩], 8,
   gC ++ [(6, .cells true 6 [iP 2, iP 2, iP 2, iP 0, iP 0, iP 2, iP 2, iP 2, iP 1, iP 0]),
    (7, .cells true 0 [iP 1, iP 0, iP 9, iP 0])],
   [],
   .tuple ⟨[.bool true, iP 0]⟩⟩
theorem ba368_h : ba368.holds EE := ent_run envOk (T := [bc56]) (List.forall_mem_cons.2 ⟨bc56_h, fun _ h => by cases h⟩) 1000000000 _ (by kernel_rfl) (by kernel_rfl)
-- decani/candle.Life, 6012 steps
noncomputable def ba385 : Ent :=
  ⟨34, [.agg ⟨[iP 10, iP 10, iP 0, iP 0, iP 2, iP 2, iP 1, iP 1, .slice (some ⟨6, 0, none⟩) 2 18446744073709551616, .slice none 0 0, .slice none 0 0]⟩, iP 0], 7,
   gC ++ [(6, .cells true 6 [iP 2, iP 2, iP 2, iP 0, iP 0, iP 2, iP 2, iP 2, iP 1, iP 0])],
   [],
   .tuple ⟨[.agg ⟨[iP 2, iP 2]⟩, iP 0]⟩⟩
theorem ba385_h : ba385.holds EE := ent_run envOk (T := [bc171]) (List.forall_mem_cons.2 ⟨bc171_h, fun _ h => by cases h⟩) 1000000000 _ (by kernel_rfl) (by kernel_rfl)
-- decani/candle.Right, 5867 steps
noncomputable def ba405 : Ent :=
  ⟨30, [.agg ⟨[iP 9, iP 10, iP 0, iP 0, iP 1, iP 2, iP 1, iP 1, .slice (some ⟨6, 0, none⟩) 2 18446744073709551616, .slice none 0 0, .slice (some ⟨7, 0, none⟩) 1 1]⟩], 8,
   gC ++ [(6, .cells true 6 [iP 2, iP 2, iP 2, iP 0, iP 0, iP 2, iP 2, iP 2, iP 1, iP 0]),
    (7, .cells true 0 [iP 1, iP 0, iP 8, iP 0])],
   [],
   .tuple ⟨[.bool true, iP 0]⟩⟩
theorem ba405_h : ba405.holds EE := ent_run envOk (T := [bc75]) (List.forall_mem_cons.2 ⟨bc75_h, fun _ h => by cases h⟩) 1000000000 _ (by kernel_rfl) (by kernel_rfl)
-- decani/cold.Caught, 5183 steps
noncomputable def ba423 : Ent :=
  ⟨10, [.agg ⟨[iP 2, iP 6, iP 1, iP 1, iP 1, iP 1, iP 1, iP 2, .slice none 0 0, iP 0, .slice (some ⟨6, 0, none⟩) 2 2]⟩, iP 0], 7,
   gC ++ [(6, .cells true 0 [iP 0, iP 4, .bool true, iP 0, iP 3, .bool false])],
   [],
   .tuple ⟨[.agg ⟨[iP 0, iP 0]⟩, iP 32]⟩⟩
theorem ba423_h : ba423.holds EE := ent_run envOk (T := [bc31]) (List.forall_mem_cons.2 ⟨bc31_h, fun _ h => by cases h⟩) 1000000000 _ (by kernel_rfl) (by kernel_rfl)
-- decani/cold.Caught, 5183 steps
noncomputable def ba427 : Ent :=
  ⟨10, [.agg ⟨[iP 2, iP 6, iP 1, iP 1, iP 1, iP 1, iP 1, iP 2, .slice none 0 0, iP 0, .slice (some ⟨6, 0, none⟩) 2 2]⟩, iP 0], 7,
   gC ++ [(6, .cells true 0 [iP 1, iP 5, .bool true, iP 1, iP 4, .bool false])],
   [],
   .tuple ⟨[.agg ⟨[iP 0, iP 0]⟩, iP 32]⟩⟩
theorem ba427_h : ba427.holds EE := ent_run envOk (T := [bc33]) (List.forall_mem_cons.2 ⟨bc33_h, fun _ h => by cases h⟩) 1000000000 _ (by kernel_rfl) (by kernel_rfl)
-- decani/cold.Caught, 4923 steps
noncomputable def ba444 : Ent :=
  ⟨10, [.agg ⟨[iP 2, iP 6, iP 1, iP 2, iP 1, iP 1, iP 1, iP 2, .slice none 0 0, iP 0, .slice (some ⟨6, 0, none⟩) 2 2]⟩, iP 1], 7,
   gC ++ [(6, .cells true 0 [iP 0, iP 1, .bool true, iP 0, iP 0, .bool false])],
   [],
   .tuple ⟨[.agg ⟨[iP 1, iP 2]⟩, iP 0]⟩⟩
theorem ba444_h : ba444.holds EE := ent_run envOk (T := [bc204]) (List.forall_mem_cons.2 ⟨bc204_h, fun _ h => by cases h⟩) 1000000000 _ (by kernel_rfl) (by kernel_rfl)
-- decani/candle.Left, 4789 steps
noncomputable def ba461 : Ent :=
  ⟨31, [.agg ⟨[iP 9, iP 10, iP 0, iP 0, iP 1, iP 1, iP 1, iP 1, .slice (some ⟨6, 0, none⟩) 2 18446744073709551616, .slice none 0 0, .slice (some ⟨7, 0, none⟩) 1 1]⟩, iP 0, iP 1], 8,
   gC ++ [(6, .cells true 6 [iP 2, iP 2, iP 2, iP 0, iP 0, iP 2, iP 2, iP 2, iP 1, iP 0]),
    (7, .cells true 0 [iP 0, iP 0, iP 6, iP 0])],
   [],
   .tuple ⟨[.agg ⟨[iP 0, iP 0]⟩, iP 62]⟩⟩
theorem ba461_h : ba461.holds EE := ent_run envOk (T := [bc109]) (List.forall_mem_cons.2 ⟨bc109_h, fun _ h => by cases h⟩) 1000000000 _ (by kernel_rfl) (by kernel_rfl)
-- decani/candle.Right, 4604 steps
noncomputable def ba484 : Ent :=
  ⟨30, [.agg ⟨[iP 9, iP 10, iP 0, iP 0, iP 2, iP 2, iP 1, iP 1, .slice (some ⟨6, 0, none⟩) 2 18446744073709551616, .slice none 0 0, .slice (some ⟨7, 0, none⟩) 1 1]⟩], 8,
   gC ++ [(6, .cells true 6 [iP 2, iP 2, iP 2, iP 0, iP 0, iP 2, iP 2, iP 2, iP 1, iP 0]),
    (7, .cells true 0 [iP 0, iP 0, iP 8, iP 0])],
   [],
   .tuple ⟨[.bool false, iP 0]⟩⟩
theorem ba484_h : ba484.holds EE := ent_run envOk (T := [bc110]) (List.forall_mem_cons.2 ⟨bc110_h, fun _ h => by cases h⟩) 1000000000 _ (by kernel_rfl) (by kernel_rfl)
-- decani/candle.Left, 4593 steps
noncomputable def ba497 : Ent :=
  ⟨31, [.agg ⟨[iP 10, iP 10, iP 0, iP 0, iP 2, iP 3, iP 1, iP 1, .slice (some ⟨6, 0, none⟩) 2 18446744073709551616, .slice none 0 0, .slice (some ⟨7, 0, none⟩) 1 1]⟩, iP 0, iP 0], 8,
   gC ++ [(6, .cells true 6 [iP 2, iP 2, iP 2, iP 0, iP 0, iP 2, iP 2, iP 2, iP 1, iP 0]),
    (7, .cells true 0 [iP 0, iP 0, iP 8, iP 0])],
   [],
   .tuple ⟨[.agg ⟨[iP 0, iP 0]⟩, iP 62]⟩⟩
theorem ba497_h : ba497.holds EE := ent_run envOk (T := [bc129]) (List.forall_mem_cons.2 ⟨bc129_h, fun _ h => by cases h⟩) 1000000000 _ (by kernel_rfl) (by kernel_rfl)
-- decani/candle.Right, 4408 steps
noncomputable def ba520 : Ent :=
  ⟨30, [.agg ⟨[iP 10, iP 10, iP 0, iP 0, iP 2, iP 3, iP 1, iP 1, .slice (some ⟨6, 0, none⟩) 2 18446744073709551616, .slice none 0 0, .slice (some ⟨7, 0, none⟩) 1 1]⟩], 8,
   gC ++ [(6, .cells true 6 [iP 2, iP 2, iP 2, iP 0, iP 0, iP 2, iP 2, iP 2, iP 1, iP 0]),
    (7, .cells true 0 [iP 0, iP 0, iP 8, iP 0])],
   [],
   .tuple ⟨[.bool false, iP 0]⟩⟩
theorem ba520_h : ba520.holds EE := ent_run envOk (T := [bc129]) (List.forall_mem_cons.2 ⟨bc129_h, fun _ h => by cases h⟩) 1000000000 _ (by kernel_rfl) (by kernel_rfl)
-- decani/candle.Left, 4395 steps
noncomputable def ba534 : Ent :=
  ⟨31, [.agg ⟨[iP 10, iP 10, iP 0, iP 0, iP 2, iP 2, iP 1, iP 1, .slice (some ⟨6, 0, none⟩) 2 18446744073709551616, .slice none 0 0, .slice (some ⟨7, 0, none⟩) 1 1]⟩, iP 0, iP 1], 8,
   gC ++ [(6, .cells true 6 [iP 2, iP 2, iP 2, iP 0, iP 0, iP 2, iP 2, iP 2, iP 1, iP 0]),
    (7, .cells true 0 [iP 1, iP 0, iP 8, iP 0])],
   [],
   .tuple ⟨[.agg ⟨[iP 0, iP 0]⟩, iP 62]⟩⟩
theorem ba534_h : ba534.holds EE := ent_run envOk (T := [bc138]) (List.forall_mem_cons.2 ⟨bc138_h, fun _ h => by cases h⟩) 1000000000 _ (by kernel_rfl) (by kernel_rfl)
-- decani/candle.Right, 4207 steps
noncomputable def ba556 : Ent :=
  ⟨30, [.agg ⟨[iP 8, iP 10, iP 0, iP 0, iP 1, iP 1, iP 1, iP 1, .slice (some ⟨6, 0, none⟩) 2 18446744073709551616, .slice none 0 0, .slice (some ⟨7, 0, none⟩) 1 1]⟩], 8,
   gC ++ [(6, .cells true 6 [iP 2, iP 2, iP 2, iP 0, iP 0, iP 2, iP 2, iP 2, iP 1, iP 0]),
    (7, .cells true 0 [iP 1, iP 0, iP 6, iP 0])],
   [],
   .tuple ⟨[.bool true, iP 0]⟩⟩
theorem ba556_h : ba556.holds EE := ent_run envOk (T := [bc150]) (List.forall_mem_cons.2 ⟨bc150_h, fun _ h => by cases h⟩) 1000000000 _ (by kernel_rfl) (by kernel_rfl)
-- decani/cold.Caught, 4071 steps
noncomputable def ba573 : Ent :=
  ⟨10, [.agg ⟨[iP 2, iP 6, iP 1, iP 1, iP 1, iP 1, iP 2, iP 2, .slice none 0 0, iP 0, .slice none 0 0]⟩, iP 0], 6,
   gC,
   [],
   .tuple ⟨[.agg ⟨[iP 0, iP 1]⟩, iP 0]⟩⟩
theorem ba573_h : ba573.holds EE := ent_run envOk (T := [bc226]) (List.forall_mem_cons.2 ⟨bc226_h, fun _ h => by cases h⟩) 1000000000 _ (by kernel_rfl) (by kernel_rfl)
-- decani/cold.Caught, 3889 steps
noncomputable def ba579 : Ent :=
  ⟨10, [.agg ⟨[iP 2, iP 6, iP 1, iP 2, iP 1, iP 1, iP 2, iP 2, .slice none 0 0, iP 0, .slice (some ⟨6, 0, none⟩) 2 2]⟩, iP 0], 7,
   gC ++ [(6, .cells true 0 [iP 0, iP 1, .bool true, iP 0, iP 0, .bool false])],
   [],
   .tuple ⟨[.agg ⟨[iP 0, iP 0]⟩, iP 0]⟩⟩
theorem ba579_h : ba579.holds EE := ent_run envOk (T := [bc202]) (List.forall_mem_cons.2 ⟨bc202_h, fun _ h => by cases h⟩) 1000000000 _ (by kernel_rfl) (by kernel_rfl)
-- decani/cold.Takes, 3857 steps
noncomputable def ba595 : Ent :=
  ⟨33, [.agg ⟨[iP 2, iP 6, iP 1, iP 2, iP 1, iP 1, iP 2, iP 2, .slice none 0 0, iP 0, .slice (some ⟨6, 0, none⟩) 2 2]⟩, iP 1], 7,
   gC ++ [(6, .cells true 0 [iP 0, iP 1, .bool true, iP 0, iP 0, .bool false])],
   [],
   .tuple ⟨[.agg ⟨[iP 2, iP 2]⟩, iP 0]⟩⟩
theorem ba595_h : ba595.holds EE := ent_run envOk (T := [bc202]) (List.forall_mem_cons.2 ⟨bc202_h, fun _ h => by cases h⟩) 1000000000 _ (by kernel_rfl) (by kernel_rfl)
-- decani/candle.Left, 3664 steps
noncomputable def ba627 : Ent :=
  ⟨31, [.agg ⟨[iP 10, iP 10, iP 0, iP 0, iP 2, iP 2, iP 1, iP 1, .slice (some ⟨6, 0, none⟩) 2 18446744073709551616, .slice none 0 0, .slice (some ⟨7, 0, none⟩) 1 1]⟩, iP 0, iP 1], 8,
   gC ++ [(6, .cells true 6 [iP 2, iP 2, iP 2, iP 0, iP 0, iP 2, iP 2, iP 2, iP 1, iP 0]),
    (7, .cells true 0 [iP 0, iP 0, iP 9, iP 0])],
   [],
   .tuple ⟨[.agg ⟨[iP 0, iP 0]⟩, iP 62]⟩⟩
theorem ba627_h : ba627.holds EE := ent_run envOk (T := [bc219]) (List.forall_mem_cons.2 ⟨bc219_h, fun _ h => by cases h⟩) 1000000000 _ (by kernel_rfl) (by kernel_rfl)
-- decani/cold.Caught, 3433 steps
noncomputable def ba642 : Ent :=
  ⟨10, [.agg ⟨[iP 2, iP 6, iP 1, iP 1, iP 1, iP 1, iP 2, iP 2, .slice none 0 0, iP 0, .slice (some ⟨6, 0, none⟩) 2 2]⟩, iP 0], 7,
   gC ++ [(6, .cells true 0 [iP 0, iP 3, .bool true, iP 0, iP 2, .bool false])],
   [],
   .tuple ⟨[.agg ⟨[iP 0, iP 0]⟩, iP 32]⟩⟩
theorem ba642_h : ba642.holds EE := ent_run envOk (T := [bc88]) (List.forall_mem_cons.2 ⟨bc88_h, fun _ h => by cases h⟩) 1000000000 _ (by kernel_rfl) (by kernel_rfl)
-- decani/cold.Caught, 3433 steps
noncomputable def ba646 : Ent :=
  ⟨10, [.agg ⟨[iP 2, iP 6, iP 1, iP 1, iP 1, iP 1, iP 2, iP 2, .slice none 0 0, iP 0, .slice (some ⟨6, 0, none⟩) 2 2]⟩, iP 0], 7,
   gC ++ [(6, .cells true 0 [iP 0, iP 5, .bool true, iP 0, iP 4, .bool false])],
   [],
   .tuple ⟨[.agg ⟨[iP 0, iP 0]⟩, iP 32]⟩⟩
theorem ba646_h : ba646.holds EE := ent_run envOk (T := [bc90]) (List.forall_mem_cons.2 ⟨bc90_h, fun _ h => by cases h⟩) 1000000000 _ (by kernel_rfl) (by kernel_rfl)
-- decani/cold.Right, 3341 steps
noncomputable def ba663 : Ent :=
  ⟨29, [.agg ⟨[iP 2, iP 6, iP 1, iP 1, iP 1, iP 1, iP 2, iP 2, .slice none 0 0, iP 0, .slice (some ⟨6, 0, none⟩) 2 2]⟩], 7,
   gC ++ [(6, .cells true 0 [iP 0, iP 4, .bool true, iP 0, iP 3, .bool false])],
   [],
   .tuple ⟨[.bool false, iP 0]⟩⟩
theorem ba663_h : ba663.holds EE := ent_run envOk (T := [bc89]) (List.forall_mem_cons.2 ⟨bc89_h, fun _ h => by cases h⟩) 1000000000 _ (by kernel_rfl) (by kernel_rfl)
-- decani/cold.Caught, 3101 steps
noncomputable def ba684 : Ent :=
  ⟨10, [.agg ⟨[iP 2, iP 6, iP 1, iP 2, iP 1, iP 1, iP 1, iP 2, .slice none 0 0, iP 0, .slice (some ⟨6, 0, none⟩) 2 2]⟩, iP 1], 7,
   gC ++ [(6, .cells true 0 [iP 1, iP 1, .bool true, iP 1, iP 0, .bool false])],
   [],
   .tuple ⟨[.agg ⟨[iP 0, iP 0]⟩, iP 32]⟩⟩
theorem ba684_h : ba684.holds EE := ent_run envOk (T := [bc113]) (List.forall_mem_cons.2 ⟨bc113_h, fun _ h => by cases h⟩) 1000000000 _ (by kernel_rfl) (by kernel_rfl)
-- decani/cold.Right, 3009 steps
noncomputable def ba699 : Ent :=
  ⟨29, [.agg ⟨[iP 2, iP 6, iP 1, iP 2, iP 1, iP 1, iP 1, iP 2, .slice none 0 0, iP 0, .slice (some ⟨6, 0, none⟩) 2 2]⟩], 7,
   gC ++ [(6, .cells true 0 [iP 1, iP 1, .bool true, iP 1, iP 0, .bool false])],
   [],
   .tuple ⟨[.bool false, iP 0]⟩⟩
theorem ba699_h : ba699.holds EE := ent_run envOk (T := [bc113]) (List.forall_mem_cons.2 ⟨bc113_h, fun _ h => by cases h⟩) 1000000000 _ (by kernel_rfl) (by kernel_rfl)
-- decani/cold.Takes, 2927 steps
noncomputable def ba716 : Ent :=
  ⟨33, [.agg ⟨[iP 2, iP 6, iP 1, iP 0, iP 1, iP 1, iP 2, iP 2, .slice none 0 0, iP 0, .slice none 0 0]⟩, iP 1], 6,
   gC,
   [],
   .tuple ⟨[.agg ⟨[iP 2, iP 2]⟩, iP 0]⟩⟩
theorem ba716_h : ba716.holds EE := ent_run envOk (T := [bc224]) (List.forall_mem_cons.2 ⟨bc224_h, fun _ h => by cases h⟩) 1000000000 _ (by kernel_rfl) (by kernel_rfl)
-- decani/cold.Caught, 2216 steps
noncomputable def ba745 : Ent :=
  ⟨10, [.agg ⟨[iP 2, iP 6, iP 1, iP 0, iP 1, iP 1, iP 1, iP 1, .slice none 0 0, iP 0, .slice (some ⟨6, 0, none⟩) 2 2]⟩, iP 0], 7,
   gC ++ [(6, .cells true 0 [iP 0, iP 5, .bool true, iP 0, iP 4, .bool false])],
   [],
   .tuple ⟨[.agg ⟨[iP 0, iP 0]⟩, iP 32]⟩⟩
theorem ba745_h : ba745.holds EE := ent_run envOk (T := [bc190]) (List.forall_mem_cons.2 ⟨bc190_h, fun _ h => by cases h⟩) 1000000000 _ (by kernel_rfl) (by kernel_rfl)
-- decani/cold.Right, 2129 steps
noncomputable def ba762 : Ent :=
  ⟨29, [.agg ⟨[iP 2, iP 6, iP 1, iP 1, iP 1, iP 1, iP 1, iP 1, .slice none 0 0, iP 0, .slice (some ⟨6, 0, none⟩) 2 2]⟩], 7,
   gC ++ [(6, .cells true 0 [iP 1, iP 1, .bool true, iP 1, iP 0, .bool false])],
   [],
   .tuple ⟨[.bool false, iP 0]⟩⟩
theorem ba762_h : ba762.holds EE := ent_run envOk (T := [bc180]) (List.forall_mem_cons.2 ⟨bc180_h, fun _ h => by cases h⟩) 1000000000 _ (by kernel_rfl) (by kernel_rfl)
-- decani/cold.Right, 2069 steps
noncomputable def ba781 : Ent :=
  ⟨29, [.agg ⟨[iP 2, iP 6, iP 1, iP 1, iP 1, iP 1, iP 2, iP 2, .slice none 0 0, iP 0, .slice (some ⟨6, 0, none⟩) 2 2]⟩], 7,
   gC ++ [(6, .cells true 0 [iP 1, iP 3, .bool true, iP 1, iP 2, .bool false])],
   [],
   .tuple ⟨[.bool true, iP 0]⟩⟩
theorem ba781_h : ba781.holds EE := ent_run envOk (T := [bc199]) (List.forall_mem_cons.2 ⟨bc199_h, fun _ h => by cases h⟩) 1000000000 _ (by kernel_rfl) (by kernel_rfl)
-- decani/cold.Right, 1565 steps
noncomputable def ba798 : Ent :=
  ⟨29, [.agg ⟨[iP 2, iP 6, iP 1, iP 0, iP 1, iP 1, iP 1, iP 2, .slice none 0 0, iP 0, .slice none 0 0]⟩], 6,
   gC,
   [],
   .tuple ⟨[.bool true, iP 0]⟩⟩
theorem ba798_h : ba798.holds EE := ent_run envOk (T := [bc225]) (List.forall_mem_cons.2 ⟨bc225_h, fun _ h => by cases h⟩) 1000000000 _ (by kernel_rfl) (by kernel_rfl)
end Go.Proofs.YtmjpnohpmfmdlaaGreatDoor
