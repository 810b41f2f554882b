/- Known calls, part 2: what single calls hand back, at small heaps, by the kernel's own run of the evaluator. No conditions. -/
import Derived.Test.YtmjpnohpmfmdlaaGreatDoorBG
set_option linter.all false
namespace Go.Proofs.YtmjpnohpmfmdlaaGreatDoor
open Go.Ai
set_option maxRecDepth 1000000
-- (decani/candle.vestry).canBeTrue, 10665 steps
noncomputable def bc2 : Ent :=
  ⟨74, [.agg ⟨[iP 8, iP 10, iP 0, iP 0, iP 2, iP 3, iP 1, iP 1, .slice (some ⟨6, 0, none⟩) 2 18446744073709551616, .slice none 0 0, .slice (some ⟨7, 0, none⟩) 1 1, .map (some 8)]⟩], 9,
   gC ++ [(6, .cells true 6 [iP 2, iP 2, iP 2, iP 0, iP 0, iP 2, iP 2, iP 2, iP 1, iP 0]),
    (7, .cells true 0 [iP 1, iP 0, iP 6, iP 0]),
    (8, .map [⟨.agg ⟨[iP 0, iP 0]⟩, iP 0, 0⟩, ⟨.agg ⟨[iP 1, iP 0]⟩, iP 0, 1⟩, ⟨.agg ⟨[iP 0, iP 1]⟩, iP 0, 2⟩, ⟨.agg ⟨[iP 1, iP 1]⟩, iP 0, 3⟩] 4)],
   [],
   .bool false⟩
theorem bc2_h : bc2.holds EE := ent0 _ (by kernel_rfl) (by kernel_rfl)
-- (decani/candle.vestry).canBeTrue, 7149 steps
noncomputable def bc7 : Ent :=
  ⟨74, [.agg ⟨[iP 9, iP 10, iP 0, iP 0, iP 2, iP 3, iP 1, iP 1, .slice (some ⟨6, 0, none⟩) 2 18446744073709551616, .slice none 0 0, .slice (some ⟨7, 0, none⟩) 1 1, .map (some 8)]⟩], 9,
   gC ++ [(6, .cells true 6 [iP 2, iP 2, iP 2, iP 0, iP 0, iP 2, iP 2, iP 2, iP 1, iP 0]),
    (7, .cells true 0 [iP 1, iP 0, iP 10, iP 0]),
    (8, .map [⟨.agg ⟨[iP 0, iP 0]⟩, iP 0, 0⟩, ⟨.agg ⟨[iP 1, iP 0]⟩, iP 0, 1⟩, ⟨.agg ⟨[iP 0, iP 1]⟩, iP 0, 2⟩, ⟨.agg ⟨[iP 1, iP 1]⟩, iP 0, 3⟩] 4)],
   [],
   .bool false⟩
theorem bc7_h : bc7.holds EE := ent0 _ (by kernel_rfl) (by kernel_rfl)
-- (decani/candle.vestry).canBeTrue, 7146 steps
noncomputable def bc10 : Ent :=
  ⟨74, [.agg ⟨[iP 9, iP 10, iP 0, iP 0, iP 1, iP 2, iP 1, iP 1, .slice (some ⟨6, 0, none⟩) 2 18446744073709551616, .slice none 0 0, .slice (some ⟨7, 0, none⟩) 1 1, .map (some 8)]⟩], 9,
   gC ++ [(6, .cells true 6 [iP 2, iP 2, iP 2, iP 0, iP 0, iP 2, iP 2, iP 2, iP 1, iP 0]),
    (7, .cells true 0 [iP 1, iP 0, iP 9, iP 0]),
    (8, .map [⟨.agg ⟨[iP 0, iP 0]⟩, iP 0, 0⟩, ⟨.agg ⟨[iP 1, iP 0]⟩, iP 0, 1⟩, ⟨.agg ⟨[iP 0, iP 1]⟩, iP 0, 2⟩, ⟨.agg ⟨[iP 1, iP 1]⟩, iP 0, 3⟩] 4)],
   [],
   .bool true⟩
theorem bc10_h : bc10.holds EE := ent0 _ (by kernel_rfl) (by kernel_rfl)
-- (decani/cold.dormitory).canBeTrue, 6448 steps
noncomputable def bc12 : Ent :=
  ⟨71, [.agg ⟨[iP 2, iP 6, iP 1, iP 2, iP 1, iP 1, iP 1, iP 2, .slice none 0 0, iP 0, .slice (some ⟨6, 0, none⟩) 2 2, .map (some 7)]⟩], 8,
   gC ++ [(6, .cells true 0 [iP 0, iP 4, .bool true, iP 0, iP 3, .bool false]),
    (7, .map [] 0)],
   [],
   .bool false⟩
theorem bc12_h : bc12.holds EE := ent0 _ (by kernel_rfl) (by kernel_rfl)
-- (decani/candle.vestry).canBeTrue, 6279 steps
noncomputable def bc17 : Ent :=
  ⟨74, [.agg ⟨[iP 8, iP 10, iP 0, iP 0, iP 2, iP 3, iP 1, iP 1, .slice (some ⟨6, 0, none⟩) 2 18446744073709551616, .slice none 0 0, .slice (some ⟨7, 0, none⟩) 1 1, .map (some 8)]⟩], 9,
   gC ++ [(6, .cells true 6 [iP 2, iP 2, iP 2, iP 0, iP 0, iP 2, iP 2, iP 2, iP 1, iP 0]),
    (7, .cells true 0 [iP 0, iP 0, iP 7, iP 0]),
    (8, .map [⟨.agg ⟨[iP 0, iP 0]⟩, iP 0, 0⟩, ⟨.agg ⟨[iP 1, iP 0]⟩, iP 0, 1⟩, ⟨.agg ⟨[iP 0, iP 1]⟩, iP 0, 2⟩, ⟨.agg ⟨[iP 1, iP 1]⟩, iP 0, 3⟩] 4)],
   [],
   .bool false⟩
theorem bc17_h : bc17.holds EE := ent0 _ (by kernel_rfl) (by kernel_rfl)
-- (decani/candle.vestry).canBeTrue, 5685 steps
noncomputable def bc21 : Ent :=
  ⟨74, [.agg ⟨[iP 8, iP 10, iP 0, iP 0, iP 1, iP 1, iP 1, iP 1, .slice (some ⟨6, 0, none⟩) 2 18446744073709551616, .slice none 0 0, .slice (some ⟨7, 0, none⟩) 1 1, .map (some 8)]⟩], 9,
   gC ++ [(6, .cells true 6 [iP 2, iP 2, iP 2, iP 0, iP 0, iP 2, iP 2, iP 2, iP 1, iP 0]),
    (7, .cells true 0 [iP 1, iP 0, iP 10, iP 0]),
    (8, .map [⟨.agg ⟨[iP 0, iP 0]⟩, iP 0, 0⟩, ⟨.agg ⟨[iP 1, iP 0]⟩, iP 0, 1⟩, ⟨.agg ⟨[iP 0, iP 1]⟩, iP 0, 2⟩, ⟨.agg ⟨[iP 1, iP 1]⟩, iP 0, 3⟩] 4)],
   [],
   .bool false⟩
theorem bc21_h : bc21.holds EE := ent0 _ (by kernel_rfl) (by kernel_rfl)
-- (decani/candle.vestry).canBeTrue, 5685 steps
noncomputable def bc24 : Ent :=
  ⟨74, [.agg ⟨[iP 8, iP 10, iP 0, iP 0, iP 2, iP 2, iP 1, iP 1, .slice (some ⟨6, 0, none⟩) 2 18446744073709551616, .slice none 0 0, .slice (some ⟨7, 0, none⟩) 1 1, .map (some 8)]⟩], 9,
   gC ++ [(6, .cells true 6 [iP 2, iP 2, iP 2, iP 0, iP 0, iP 2, iP 2, iP 2, iP 1, iP 0]),
    (7, .cells true 0 [iP 1, iP 0, iP 6, iP 0]),
    (8, .map [⟨.agg ⟨[iP 0, iP 0]⟩, iP 0, 0⟩, ⟨.agg ⟨[iP 1, iP 0]⟩, iP 0, 1⟩, ⟨.agg ⟨[iP 0, iP 1]⟩, iP 0, 2⟩, ⟨.agg ⟨[iP 1, iP 1]⟩, iP 0, 3⟩] 4)],
   [],
   .bool false⟩
theorem bc24_h : bc24.holds EE := ent0 _ (by kernel_rfl) (by kernel_rfl)
-- (decani/candle.vestry).canBeTrue, 5486 steps
noncomputable def bc29 : Ent :=
  ⟨74, [.agg ⟨[iP 8, iP 10, iP 0, iP 0, iP 2, iP 3, iP 1, iP 1, .slice (some ⟨6, 0, none⟩) 2 18446744073709551616, .slice none 0 0, .slice (some ⟨7, 0, none⟩) 1 1, .map (some 8)]⟩], 9,
   gC ++ [(6, .cells true 6 [iP 2, iP 2, iP 2, iP 0, iP 0, iP 2, iP 2, iP 2, iP 1, iP 0]),
    (7, .cells true 0 [iP 1, iP 0, iP 8, iP 0]),
    (8, .map [⟨.agg ⟨[iP 0, iP 0]⟩, iP 0, 0⟩, ⟨.agg ⟨[iP 1, iP 0]⟩, iP 0, 1⟩, ⟨.agg ⟨[iP 0, iP 1]⟩, iP 0, 2⟩, ⟨.agg ⟨[iP 1, iP 1]⟩, iP 0, 3⟩] 4)],
   [],
   .bool true⟩
theorem bc29_h : bc29.holds EE := ent0 _ (by kernel_rfl) (by kernel_rfl)
-- (decani/cold.dormitory).canBeTrue, 4301 steps
noncomputable def bc34 : Ent :=
  ⟨71, [.agg ⟨[iP 2, iP 6, iP 1, iP 1, iP 1, iP 1, iP 1, iP 2, .slice none 0 0, iP 0, .slice (some ⟨6, 0, none⟩) 2 2, .map (some 7)]⟩], 8,
   gC ++ [(6, .cells true 0 [iP 1, iP 4, .bool true, iP 1, iP 3, .bool false]),
    (7, .map [] 0)],
   [],
   .bool true⟩
theorem bc34_h : bc34.holds EE := ent0 _ (by kernel_rfl) (by kernel_rfl)
-- (decani/candle.vestry).canBeTrue, 4225 steps
noncomputable def bc37 : Ent :=
  ⟨74, [.agg ⟨[iP 9, iP 10, iP 0, iP 0, iP 1, iP 2, iP 1, iP 1, .slice (some ⟨6, 0, none⟩) 2 18446744073709551616, .slice none 0 0, .slice (some ⟨7, 0, none⟩) 1 1, .map (some 8)]⟩], 9,
   gC ++ [(6, .cells true 6 [iP 2, iP 2, iP 2, iP 0, iP 0, iP 2, iP 2, iP 2, iP 1, iP 0]),
    (7, .cells true 0 [iP 0, iP 0, iP 7, iP 0]),
    (8, .map [⟨.agg ⟨[iP 0, iP 0]⟩, iP 0, 0⟩, ⟨.agg ⟨[iP 1, iP 0]⟩, iP 0, 1⟩, ⟨.agg ⟨[iP 0, iP 1]⟩, iP 0, 2⟩, ⟨.agg ⟨[iP 1, iP 1]⟩, iP 0, 3⟩] 4)],
   [],
   .bool false⟩
theorem bc37_h : bc37.holds EE := ent0 _ (by kernel_rfl) (by kernel_rfl)
-- (decani/candle.vestry).canBeTrue, 4225 steps
noncomputable def bc41 : Ent :=
  ⟨74, [.agg ⟨[iP 9, iP 10, iP 0, iP 0, iP 2, iP 3, iP 1, iP 1, .slice (some ⟨6, 0, none⟩) 2 18446744073709551616, .slice none 0 0, .slice (some ⟨7, 0, none⟩) 1 1, .map (some 8)]⟩], 9,
   gC ++ [(6, .cells true 6 [iP 2, iP 2, iP 2, iP 0, iP 0, iP 2, iP 2, iP 2, iP 1, iP 0]),
    (7, .cells true 0 [iP 0, iP 0, iP 6, iP 0]),
    (8, .map [⟨.agg ⟨[iP 0, iP 0]⟩, iP 0, 0⟩, ⟨.agg ⟨[iP 1, iP 0]⟩, iP 0, 1⟩, ⟨.agg ⟨[iP 0, iP 1]⟩, iP 0, 2⟩, ⟨.agg ⟨[iP 1, iP 1]⟩, iP 0, 3⟩] 4)],
   [],
   .bool false⟩
theorem bc41_h : bc41.holds EE := ent0 _ (by kernel_rfl) (by kernel_rfl)
-- (decani/candle.vestry).canBeTrue, 4024 steps
noncomputable def bc45 : Ent :=
  ⟨74, [.agg ⟨[iP 8, iP 10, iP 0, iP 0, iP 1, iP 2, iP 1, iP 1, .slice (some ⟨6, 0, none⟩) 2 18446744073709551616, .slice none 0 0, .slice (some ⟨7, 0, none⟩) 1 1, .map (some 8)]⟩], 9,
   gC ++ [(6, .cells true 6 [iP 2, iP 2, iP 2, iP 0, iP 0, iP 2, iP 2, iP 2, iP 1, iP 0]),
    (7, .cells true 0 [iP 0, iP 0, iP 9, iP 0]),
    (8, .map [⟨.agg ⟨[iP 0, iP 0]⟩, iP 0, 0⟩, ⟨.agg ⟨[iP 1, iP 0]⟩, iP 0, 1⟩, ⟨.agg ⟨[iP 0, iP 1]⟩, iP 0, 2⟩, ⟨.agg ⟨[iP 1, iP 1]⟩, iP 0, 3⟩] 4)],
   [],
   .bool true⟩
theorem bc45_h : bc45.holds EE := ent0 _ (by kernel_rfl) (by kernel_rfl)
-- (decani/candle.vestry).canBeTrue, 3829 steps
noncomputable def bc49 : Ent :=
  ⟨74, [.agg ⟨[iP 9, iP 10, iP 0, iP 0, iP 1, iP 1, iP 1, iP 1, .slice (some ⟨6, 0, none⟩) 2 18446744073709551616, .slice none 0 0, .slice (some ⟨7, 0, none⟩) 1 1, .map (some 8)]⟩], 9,
   gC ++ [(6, .cells true 6 [iP 2, iP 2, iP 2, iP 0, iP 0, iP 2, iP 2, iP 2, iP 1, iP 0]),
    (7, .cells true 0 [iP 1, iP 0, iP 9, iP 0]),
    (8, .map [⟨.agg ⟨[iP 0, iP 0]⟩, iP 0, 0⟩, ⟨.agg ⟨[iP 1, iP 0]⟩, iP 0, 1⟩, ⟨.agg ⟨[iP 0, iP 1]⟩, iP 0, 2⟩, ⟨.agg ⟨[iP 1, iP 1]⟩, iP 0, 3⟩] 4)],
   [],
   .bool false⟩
theorem bc49_h : bc49.holds EE := ent0 _ (by kernel_rfl) (by kernel_rfl)
-- (decani/candle.vestry).canBeTrue, 3829 steps
noncomputable def bc53 : Ent :=
  ⟨74, [.agg ⟨[iP 9, iP 10, iP 0, iP 0, iP 2, iP 2, iP 1, iP 1, .slice (some ⟨6, 0, none⟩) 2 18446744073709551616, .slice none 0 0, .slice (some ⟨7, 0, none⟩) 1 1, .map (some 8)]⟩], 9,
   gC ++ [(6, .cells true 6 [iP 2, iP 2, iP 2, iP 0, iP 0, iP 2, iP 2, iP 2, iP 1, iP 0]),
    (7, .cells true 0 [iP 1, iP 0, iP 6, iP 0]),
    (8, .map [⟨.agg ⟨[iP 0, iP 0]⟩, iP 0, 0⟩, ⟨.agg ⟨[iP 1, iP 0]⟩, iP 0, 1⟩, ⟨.agg ⟨[iP 0, iP 1]⟩, iP 0, 2⟩, ⟨.agg ⟨[iP 1, iP 1]⟩, iP 0, 3⟩] 4)],
   [],
   .bool false⟩
theorem bc53_h : bc53.holds EE := ent0 _ (by kernel_rfl) (by kernel_rfl)
-- (decani/candle.vestry).canBeTrue, 3826 steps
noncomputable def bc57 : Ent :=
  ⟨74, [.agg ⟨[iP 8, iP 10, iP 0, iP 0, iP 2, iP 2, iP 1, iP 1, .slice (some ⟨6, 0, none⟩) 2 18446744073709551616, .slice none 0 0, .slice (some ⟨7, 0, none⟩) 1 1, .map (some 8)]⟩], 9,
   gC ++ [(6, .cells true 6 [iP 2, iP 2, iP 2, iP 0, iP 0, iP 2, iP 2, iP 2, iP 1, iP 0]),
    (7, .cells true 0 [iP 1, iP 0, iP 8, iP 0]),
    (8, .map [⟨.agg ⟨[iP 0, iP 0]⟩, iP 0, 0⟩, ⟨.agg ⟨[iP 1, iP 0]⟩, iP 0, 1⟩, ⟨.agg ⟨[iP 0, iP 1]⟩, iP 0, 2⟩, ⟨.agg ⟨[iP 1, iP 1]⟩, iP 0, 3⟩] 4)],
   [],
   .bool true⟩
theorem bc57_h : bc57.holds EE := ent0 _ (by kernel_rfl) (by kernel_rfl)
-- (decani/cold.dormitory).canBeTrue, 3823 steps
noncomputable def bc61 : Ent :=
  ⟨71, [.agg ⟨[iP 2, iP 6, iP 1, iP 2, iP 1, iP 1, iP 1, iP 1, .slice none 0 0, iP 0, .slice (some ⟨6, 0, none⟩) 2 2, .map (some 7)]⟩], 8,
   gC ++ [(6, .cells true 0 [iP 0, iP 5, .bool true, iP 0, iP 4, .bool false]),
    (7, .map [] 0)],
   [],
   .bool false⟩
theorem bc61_h : bc61.holds EE := ent0 _ (by kernel_rfl) (by kernel_rfl)
-- (decani/cold.dormitory).canBeTrue, 3768 steps
noncomputable def bc65 : Ent :=
  ⟨71, [.agg ⟨[iP 2, iP 6, iP 1, iP 2, iP 1, iP 1, iP 1, iP 1, .slice none 0 0, iP 0, .slice (some ⟨6, 0, none⟩) 2 2, .map (some 7)]⟩], 8,
   gC ++ [(6, .cells true 0 [iP 0, iP 3, .bool true, iP 0, iP 2, .bool false]),
    (7, .map [] 0)],
   [],
   .bool true⟩
theorem bc65_h : bc65.holds EE := ent0 _ (by kernel_rfl) (by kernel_rfl)
-- (decani/candle.vestry).canBeTrue, 3633 steps
noncomputable def bc70 : Ent :=
  ⟨74, [.agg ⟨[iP 10, iP 10, iP 0, iP 0, iP 2, iP 3, iP 1, iP 1, .slice (some ⟨6, 0, none⟩) 2 18446744073709551616, .slice none 0 0, .slice (some ⟨7, 0, none⟩) 1 1, .map (some 8)]⟩], 9,
   gC ++ [(6, .cells true 6 [iP 2, iP 2, iP 2, iP 0, iP 0, iP 2, iP 2, iP 2, iP 1, iP 0]),
    (7, .cells true 0 [iP 1, iP 0, iP 10, iP 0]),
    (8, .map [⟨.agg ⟨[iP 0, iP 0]⟩, iP 0, 0⟩, ⟨.agg ⟨[iP 1, iP 0]⟩, iP 0, 1⟩, ⟨.agg ⟨[iP 0, iP 1]⟩, iP 0, 2⟩, ⟨.agg ⟨[iP 1, iP 1]⟩, iP 0, 3⟩] 4)],
   [],
   .bool false⟩
theorem bc70_h : bc70.holds EE := ent0 _ (by kernel_rfl) (by kernel_rfl)
-- (decani/candle.vestry).canBeTrue, 3630 steps
noncomputable def bc74 : Ent :=
  ⟨74, [.agg ⟨[iP 10, iP 10, iP 0, iP 0, iP 1, iP 2, iP 1, iP 1, .slice (some ⟨6, 0, none⟩) 2 18446744073709551616, .slice none 0 0, .slice (some ⟨7, 0, none⟩) 1 1, .map (some 8)]⟩], 9,
   gC ++ [(6, .cells true 6 [iP 2, iP 2, iP 2, iP 0, iP 0, iP 2, iP 2, iP 2, iP 1, iP 0]),
    (7, .cells true 0 [iP 1, iP 0, iP 9, iP 0]),
    (8, .map [⟨.agg ⟨[iP 0, iP 0]⟩, iP 0, 0⟩, ⟨.agg ⟨[iP 1, iP 0]⟩, iP 0, 1⟩, ⟨.agg ⟨[iP 0, iP 1]⟩, iP 0, 2⟩, ⟨.agg ⟨[iP 1, iP 1]⟩, iP 0, 3⟩] 4)],
   [],
   .bool true⟩
theorem bc74_h : bc74.holds EE := ent0 _ (by kernel_rfl) (by kernel_rfl)
-- (decani/candle.vestry).canBeTrue, 3492 steps
noncomputable def bc78 : Ent :=
  ⟨74, [.agg ⟨[iP 8, iP 10, iP 0, iP 0, iP 1, iP 1, iP 1, iP 1, .slice (some ⟨6, 0, none⟩) 2 18446744073709551616, .slice none 0 0, .slice (some ⟨7, 0, none⟩) 1 1, .map (some 8)]⟩], 9,
   gC ++ [(6, .cells true 6 [iP 2, iP 2, iP 2, iP 0, iP 0, iP 2, iP 2, iP 2, iP 1, iP 0]),
    (7, .cells true 0 [iP 0, iP 0, iP 6, iP 0]),
    (8, .map [⟨.agg ⟨[iP 0, iP 0]⟩, iP 0, 0⟩, ⟨.agg ⟨[iP 1, iP 0]⟩, iP 0, 1⟩, ⟨.agg ⟨[iP 0, iP 1]⟩, iP 0, 2⟩, ⟨.agg ⟨[iP 1, iP 1]⟩, iP 0, 3⟩] 4)],
   [],
   .bool false⟩
theorem bc78_h : bc78.holds EE := ent0 _ (by kernel_rfl) (by kernel_rfl)
-- (decani/cold.dormitory).canBeTrue, 3426 steps
noncomputable def bc82 : Ent :=
  ⟨71, [.agg ⟨[iP 2, iP 6, iP 1, iP 2, iP 1, iP 1, iP 1, iP 2, .slice none 0 0, iP 0, .slice (some ⟨6, 0, none⟩) 2 2, .map (some 7)]⟩], 8,
   gC ++ [(6, .cells true 0 [iP 0, iP 2, .bool true, iP 0, iP 1, .bool false]),
    (7, .map [] 0)],
   [],
   .bool true⟩
theorem bc82_h : bc82.holds EE := ent0 _ (by kernel_rfl) (by kernel_rfl)
-- (decani/candle.vestry).canBeTrue, 2688 steps
noncomputable def bc87 : Ent :=
  ⟨74, [.agg ⟨[iP 9, iP 10, iP 0, iP 0, iP 2, iP 3, iP 1, iP 1, .slice (some ⟨6, 0, none⟩) 3 18446744073709551616, .slice none 0 0, .slice (some ⟨7, 0, none⟩) 1 1, .map (some 8)]⟩], 9,
   gC ++ [(6, .cells true 6 [iP 3, iP 3, iP 3, iP 1, iP 0, iP 3, iP 3, iP 3, iP 2, iP 0, iP 3, iP 3, iP 3, iP 2, iP 0]),
    (7, .cells true 0 [iP 1, iP 0, iP 4, iP 1]),
    (8, .map [⟨.agg ⟨[iP 0, iP 0]⟩, iP 0, 0⟩, ⟨.agg ⟨[iP 1, iP 0]⟩, iP 0, 1⟩, ⟨.agg ⟨[iP 0, iP 1]⟩, iP 0, 2⟩, ⟨.agg ⟨[iP 1, iP 1]⟩, iP 0, 3⟩, ⟨.agg ⟨[iP 0, iP 2]⟩, iP 0, 4⟩, ⟨.agg ⟨[iP 1, iP 2]⟩, iP 0, 5⟩] 6)],
   [],
   .bool true⟩
theorem bc87_h : bc87.holds EE := ent0 _ (by kernel_rfl) (by kernel_rfl)
-- (decani/cold.dormitory).canBeTrue, 2606 steps
noncomputable def bc89 : Ent :=
  ⟨71, [.agg ⟨[iP 2, iP 6, iP 1, iP 1, iP 1, iP 1, iP 2, iP 2, .slice none 0 0, iP 0, .slice (some ⟨6, 0, none⟩) 2 2, .map (some 7)]⟩], 8,
   gC ++ [(6, .cells true 0 [iP 0, iP 4, .bool true, iP 0, iP 3, .bool false]),
    (7, .map [] 0)],
   [],
   .bool false⟩
theorem bc89_h : bc89.holds EE := ent0 _ (by kernel_rfl) (by kernel_rfl)
-- (decani/cold.dormitory).canBeTrue, 2606 steps
noncomputable def bc93 : Ent :=
  ⟨71, [.agg ⟨[iP 2, iP 6, iP 1, iP 1, iP 1, iP 1, iP 1, iP 1, .slice none 0 0, iP 0, .slice (some ⟨6, 0, none⟩) 2 2, .map (some 7)]⟩], 8,
   gC ++ [(6, .cells true 0 [iP 0, iP 4, .bool true, iP 0, iP 3, .bool false]),
    (7, .map [] 0)],
   [],
   .bool false⟩
theorem bc93_h : bc93.holds EE := ent0 _ (by kernel_rfl) (by kernel_rfl)
-- (decani/cold.dormitory).canBeTrue, 2551 steps
noncomputable def bc97 : Ent :=
  ⟨71, [.agg ⟨[iP 2, iP 6, iP 1, iP 1, iP 1, iP 1, iP 2, iP 2, .slice none 0 0, iP 0, .slice (some ⟨6, 0, none⟩) 2 2, .map (some 7)]⟩], 8,
   gC ++ [(6, .cells true 0 [iP 0, iP 2, .bool true, iP 0, iP 1, .bool false]),
    (7, .map [] 0)],
   [],
   .bool true⟩
theorem bc97_h : bc97.holds EE := ent0 _ (by kernel_rfl) (by kernel_rfl)
-- (decani/cold.dormitory).canBeTrue, 2551 steps
noncomputable def bc101 : Ent :=
  ⟨71, [.agg ⟨[iP 2, iP 6, iP 1, iP 1, iP 1, iP 1, iP 1, iP 1, .slice none 0 0, iP 0, .slice (some ⟨6, 0, none⟩) 2 2, .map (some 7)]⟩], 8,
   gC ++ [(6, .cells true 0 [iP 0, iP 2, .bool true, iP 0, iP 1, .bool false]),
    (7, .map [] 0)],
   [],
   .bool true⟩
theorem bc101_h : bc101.holds EE := ent0 _ (by kernel_rfl) (by kernel_rfl)
-- (decani/cold.dormitory).canBeTrue, 2535 steps
noncomputable def bc105 : Ent :=
  ⟨71, [.agg ⟨[iP 2, iP 6, iP 1, iP 2, iP 1, iP 1, iP 2, iP 2, .slice none 0 0, iP 0, .slice (some ⟨6, 0, none⟩) 2 2, .map (some 7)]⟩], 8,
   gC ++ [(6, .cells true 0 [iP 1, iP 2, .bool true, iP 1, iP 1, .bool false]),
    (7, .map [] 0)],
   [],
   .bool false⟩
theorem bc105_h : bc105.holds EE := ent0 _ (by kernel_rfl) (by kernel_rfl)
-- (decani/candle.vestry).canBeTrue, 2367 steps
noncomputable def bc109 : Ent :=
  ⟨74, [.agg ⟨[iP 9, iP 10, iP 0, iP 0, iP 1, iP 1, iP 1, iP 1, .slice (some ⟨6, 0, none⟩) 2 18446744073709551616, .slice none 0 0, .slice (some ⟨7, 0, none⟩) 1 1, .map (some 8)]⟩], 9,
   gC ++ [(6, .cells true 6 [iP 2, iP 2, iP 2, iP 0, iP 0, iP 2, iP 2, iP 2, iP 1, iP 0]),
    (7, .cells true 0 [iP 0, iP 0, iP 6, iP 0]),
    (8, .map [⟨.agg ⟨[iP 0, iP 0]⟩, iP 0, 0⟩, ⟨.agg ⟨[iP 1, iP 0]⟩, iP 0, 1⟩, ⟨.agg ⟨[iP 0, iP 1]⟩, iP 0, 2⟩, ⟨.agg ⟨[iP 1, iP 1]⟩, iP 0, 3⟩] 4)],
   [],
   .bool false⟩
theorem bc109_h : bc109.holds EE := ent0 _ (by kernel_rfl) (by kernel_rfl)
-- (decani/cold.dormitory).canBeTrue, 2274 steps
noncomputable def bc113 : Ent :=
  ⟨71, [.agg ⟨[iP 2, iP 6, iP 1, iP 2, iP 1, iP 1, iP 1, iP 2, .slice none 0 0, iP 0, .slice (some ⟨6, 0, none⟩) 2 2, .map (some 7)]⟩], 8,
   gC ++ [(6, .cells true 0 [iP 1, iP 1, .bool true, iP 1, iP 0, .bool false]),
    (7, .map [] 0)],
   [],
   .bool false⟩
theorem bc113_h : bc113.holds EE := ent0 _ (by kernel_rfl) (by kernel_rfl)
-- (decani/cold.dormitory).canBeTrue, 2264 steps
noncomputable def bc116 : Ent :=
  ⟨71, [.agg ⟨[iP 2, iP 6, iP 1, iP 0, iP 1, iP 1, iP 1, iP 2, .slice none 0 0, iP 0, .slice (some ⟨6, 0, none⟩) 2 2, .map (some 7)]⟩], 8,
   gC ++ [(6, .cells true 0 [iP 0, iP 4, .bool true, iP 0, iP 3, .bool false]),
    (7, .map [] 0)],
   [],
   .bool false⟩
theorem bc116_h : bc116.holds EE := ent0 _ (by kernel_rfl) (by kernel_rfl)
-- (decani/cold.dormitory).canBeTrue, 2209 steps
noncomputable def bc120 : Ent :=
  ⟨71, [.agg ⟨[iP 2, iP 6, iP 1, iP 0, iP 1, iP 1, iP 1, iP 2, .slice none 0 0, iP 0, .slice (some ⟨6, 0, none⟩) 2 2, .map (some 7)]⟩], 8,
   gC ++ [(6, .cells true 0 [iP 1, iP 3, .bool true, iP 1, iP 2, .bool false]),
    (7, .map [] 0)],
   [],
   .bool true⟩
theorem bc120_h : bc120.holds EE := ent0 _ (by kernel_rfl) (by kernel_rfl)
-- (decani/candle.vestry).canBeTrue, 2171 steps
noncomputable def bc124 : Ent :=
  ⟨74, [.agg ⟨[iP 10, iP 10, iP 0, iP 0, iP 1, iP 2, iP 1, iP 1, .slice (some ⟨6, 0, none⟩) 2 18446744073709551616, .slice none 0 0, .slice (some ⟨7, 0, none⟩) 1 1, .map (some 8)]⟩], 9,
   gC ++ [(6, .cells true 6 [iP 2, iP 2, iP 2, iP 0, iP 0, iP 2, iP 2, iP 2, iP 1, iP 0]),
    (7, .cells true 0 [iP 0, iP 0, iP 9, iP 0]),
    (8, .map [⟨.agg ⟨[iP 0, iP 0]⟩, iP 0, 0⟩, ⟨.agg ⟨[iP 1, iP 0]⟩, iP 0, 1⟩, ⟨.agg ⟨[iP 0, iP 1]⟩, iP 0, 2⟩, ⟨.agg ⟨[iP 1, iP 1]⟩, iP 0, 3⟩] 4)],
   [],
   .bool false⟩
theorem bc124_h : bc124.holds EE := ent0 _ (by kernel_rfl) (by kernel_rfl)
-- (decani/candle.vestry).canBeTrue, 2171 steps
noncomputable def bc128 : Ent :=
  ⟨74, [.agg ⟨[iP 10, iP 10, iP 0, iP 0, iP 2, iP 3, iP 1, iP 1, .slice (some ⟨6, 0, none⟩) 2 18446744073709551616, .slice none 0 0, .slice (some ⟨7, 0, none⟩) 1 1, .map (some 8)]⟩], 9,
   gC ++ [(6, .cells true 6 [iP 2, iP 2, iP 2, iP 0, iP 0, iP 2, iP 2, iP 2, iP 1, iP 0]),
    (7, .cells true 0 [iP 0, iP 0, iP 9, iP 0]),
    (8, .map [⟨.agg ⟨[iP 0, iP 0]⟩, iP 0, 0⟩, ⟨.agg ⟨[iP 1, iP 0]⟩, iP 0, 1⟩, ⟨.agg ⟨[iP 0, iP 1]⟩, iP 0, 2⟩, ⟨.agg ⟨[iP 1, iP 1]⟩, iP 0, 3⟩] 4)],
   [],
   .bool false⟩
theorem bc128_h : bc128.holds EE := ent0 _ (by kernel_rfl) (by kernel_rfl)
-- (decani/cold.dormitory).canBeTrue, 2112 steps
noncomputable def bc132 : Ent :=
  ⟨71, [.agg ⟨[iP 2, iP 6, iP 1, iP 0, iP 1, iP 1, iP 1, iP 2, .slice none 0 0, iP 0, .slice (some ⟨6, 0, none⟩) 2 2, .map (some 7)]⟩], 8,
   gC ++ [(6, .cells true 0 [iP 1, iP 1, .bool true, iP 1, iP 0, .bool false]),
    (7, .map [] 0)],
   [],
   .bool false⟩
theorem bc132_h : bc132.holds EE := ent0 _ (by kernel_rfl) (by kernel_rfl)
-- (decani/candle.vestry).canBeTrue, 1973 steps
noncomputable def bc138 : Ent :=
  ⟨74, [.agg ⟨[iP 10, iP 10, iP 0, iP 0, iP 2, iP 2, iP 1, iP 1, .slice (some ⟨6, 0, none⟩) 2 18446744073709551616, .slice none 0 0, .slice (some ⟨7, 0, none⟩) 1 1, .map (some 8)]⟩], 9,
   gC ++ [(6, .cells true 6 [iP 2, iP 2, iP 2, iP 0, iP 0, iP 2, iP 2, iP 2, iP 1, iP 0]),
    (7, .cells true 0 [iP 1, iP 0, iP 8, iP 0]),
    (8, .map [⟨.agg ⟨[iP 0, iP 0]⟩, iP 0, 0⟩, ⟨.agg ⟨[iP 1, iP 0]⟩, iP 0, 1⟩, ⟨.agg ⟨[iP 0, iP 1]⟩, iP 0, 2⟩, ⟨.agg ⟨[iP 1, iP 1]⟩, iP 0, 3⟩] 4)],
   [],
   .bool false⟩
theorem bc138_h : bc138.holds EE := ent0 _ (by kernel_rfl) (by kernel_rfl)
-- (decani/candle.vestry).canBeTrue, 1970 steps
noncomputable def bc142 : Ent :=
  ⟨74, [.agg ⟨[iP 10, iP 10, iP 0, iP 0, iP 1, iP 1, iP 1, iP 1, .slice (some ⟨6, 0, none⟩) 2 18446744073709551616, .slice none 0 0, .slice (some ⟨7, 0, none⟩) 1 1, .map (some 8)]⟩], 9,
   gC ++ [(6, .cells true 6 [iP 2, iP 2, iP 2, iP 0, iP 0, iP 2, iP 2, iP 2, iP 1, iP 0]),
    (7, .cells true 0 [iP 1, iP 0, iP 8, iP 0]),
    (8, .map [⟨.agg ⟨[iP 0, iP 0]⟩, iP 0, 0⟩, ⟨.agg ⟨[iP 1, iP 0]⟩, iP 0, 1⟩, ⟨.agg ⟨[iP 0, iP 1]⟩, iP 0, 2⟩, ⟨.agg ⟨[iP 1, iP 1]⟩, iP 0, 3⟩] 4)],
   [],
   .bool true⟩
theorem bc142_h : bc142.holds EE := ent0 _ (by kernel_rfl) (by kernel_rfl)
-- (decani/candle.vestry).canBeTrue, 1970 steps
noncomputable def bc146 : Ent :=
  ⟨74, [.agg ⟨[iP 9, iP 10, iP 0, iP 0, iP 1, iP 1, iP 1, iP 1, .slice (some ⟨6, 0, none⟩) 2 18446744073709551616, .slice none 0 0, .slice (some ⟨7, 0, none⟩) 1 1, .map (some 8)]⟩], 9,
   gC ++ [(6, .cells true 6 [iP 2, iP 2, iP 2, iP 0, iP 0, iP 2, iP 2, iP 2, iP 1, iP 0]),
    (7, .cells true 0 [iP 1, iP 0, iP 7, iP 0]),
    (8, .map [⟨.agg ⟨[iP 0, iP 0]⟩, iP 0, 0⟩, ⟨.agg ⟨[iP 1, iP 0]⟩, iP 0, 1⟩, ⟨.agg ⟨[iP 0, iP 1]⟩, iP 0, 2⟩, ⟨.agg ⟨[iP 1, iP 1]⟩, iP 0, 3⟩] 4)],
   [],
   .bool true⟩
theorem bc146_h : bc146.holds EE := ent0 _ (by kernel_rfl) (by kernel_rfl)
-- (decani/candle.vestry).canBeTrue, 1970 steps
noncomputable def bc150 : Ent :=
  ⟨74, [.agg ⟨[iP 8, iP 10, iP 0, iP 0, iP 1, iP 1, iP 1, iP 1, .slice (some ⟨6, 0, none⟩) 2 18446744073709551616, .slice none 0 0, .slice (some ⟨7, 0, none⟩) 1 1, .map (some 8)]⟩], 9,
   gC ++ [(6, .cells true 6 [iP 2, iP 2, iP 2, iP 0, iP 0, iP 2, iP 2, iP 2, iP 1, iP 0]),
    (7, .cells true 0 [iP 1, iP 0, iP 6, iP 0]),
    (8, .map [⟨.agg ⟨[iP 0, iP 0]⟩, iP 0, 0⟩, ⟨.agg ⟨[iP 1, iP 0]⟩, iP 0, 1⟩, ⟨.agg ⟨[iP 0, iP 1]⟩, iP 0, 2⟩, ⟨.agg ⟨[iP 1, iP 1]⟩, iP 0, 3⟩] 4)],
   [],
   .bool true⟩
theorem bc150_h : bc150.holds EE := ent0 _ (by kernel_rfl) (by kernel_rfl)
-- (decani/candle.vestry).canBeTrue, 1970 steps
noncomputable def bc154 : Ent :=
  ⟨74, [.agg ⟨[iP 10, iP 10, iP 0, iP 0, iP 2, iP 2, iP 1, iP 1, .slice (some ⟨6, 0, none⟩) 2 18446744073709551616, .slice none 0 0, .slice (some ⟨7, 0, none⟩) 1 1, .map (some 8)]⟩], 9,
   gC ++ [(6, .cells true 6 [iP 2, iP 2, iP 2, iP 0, iP 0, iP 2, iP 2, iP 2, iP 1, iP 0]),
    (7, .cells true 0 [iP 1, iP 0, iP 9, iP 0]),
    (8, .map [⟨.agg ⟨[iP 0, iP 0]⟩, iP 0, 0⟩, ⟨.agg ⟨[iP 1, iP 0]⟩, iP 0, 1⟩, ⟨.agg ⟨[iP 0, iP 1]⟩, iP 0, 2⟩, ⟨.agg ⟨[iP 1, iP 1]⟩, iP 0, 3⟩] 4)],
   [],
   .bool true⟩
theorem bc154_h : bc154.holds EE := ent0 _ (by kernel_rfl) (by kernel_rfl)
-- (decani/candle.vestry).canBeTrue, 1970 steps
noncomputable def bc158 : Ent :=
  ⟨74, [.agg ⟨[iP 9, iP 10, iP 0, iP 0, iP 2, iP 2, iP 1, iP 1, .slice (some ⟨6, 0, none⟩) 2 18446744073709551616, .slice none 0 0, .slice (some ⟨7, 0, none⟩) 1 1, .map (some 8)]⟩], 9,
   gC ++ [(6, .cells true 6 [iP 2, iP 2, iP 2, iP 0, iP 0, iP 2, iP 2, iP 2, iP 1, iP 0]),
    (7, .cells true 0 [iP 1, iP 0, iP 8, iP 0]),
    (8, .map [⟨.agg ⟨[iP 0, iP 0]⟩, iP 0, 0⟩, ⟨.agg ⟨[iP 1, iP 0]⟩, iP 0, 1⟩, ⟨.agg ⟨[iP 0, iP 1]⟩, iP 0, 2⟩, ⟨.agg ⟨[iP 1, iP 1]⟩, iP 0, 3⟩] 4)],
   [],
   .bool true⟩
theorem bc158_h : bc158.holds EE := ent0 _ (by kernel_rfl) (by kernel_rfl)
-- (decani/candle.vestry).canBeTrue, 1970 steps
noncomputable def bc162 : Ent :=
  ⟨74, [.agg ⟨[iP 8, iP 10, iP 0, iP 0, iP 2, iP 2, iP 1, iP 1, .slice (some ⟨6, 0, none⟩) 2 18446744073709551616, .slice none 0 0, .slice (some ⟨7, 0, none⟩) 1 1, .map (some 8)]⟩], 9,
   gC ++ [(6, .cells true 6 [iP 2, iP 2, iP 2, iP 0, iP 0, iP 2, iP 2, iP 2, iP 1, iP 0]),
    (7, .cells true 0 [iP 1, iP 0, iP 7, iP 0]),
    (8, .map [⟨.agg ⟨[iP 0, iP 0]⟩, iP 0, 0⟩, ⟨.agg ⟨[iP 1, iP 0]⟩, iP 0, 1⟩, ⟨.agg ⟨[iP 0, iP 1]⟩, iP 0, 2⟩, ⟨.agg ⟨[iP 1, iP 1]⟩, iP 0, 3⟩] 4)],
   [],
   .bool true⟩
theorem bc162_h : bc162.holds EE := ent0 _ (by kernel_rfl) (by kernel_rfl)
-- (decani/candle.vestry).canBeTrue, 1847 steps
noncomputable def bc166 : Ent :=
  ⟨74, [.agg ⟨[iP 10, iP 10, iP 0, iP 0, iP 1, iP 2, iP 1, iP 1, .slice (some ⟨6, 0, none⟩) 2 18446744073709551616, .slice none 0 0, .slice none 0 0, .map (some 7)]⟩], 8,
   gC ++ [(6, .cells true 6 [iP 2, iP 2, iP 2, iP 0, iP 0, iP 2, iP 2, iP 2, iP 1, iP 0]),
    (7, .map [⟨.agg ⟨[iP 0, iP 0]⟩, iP 0, 0⟩, ⟨.agg ⟨[iP 1, iP 0]⟩, iP 0, 1⟩, ⟨.agg ⟨[iP 0, iP 1]⟩, iP 0, 2⟩, ⟨.agg ⟨[iP 1, iP 1]⟩, iP 0, 3⟩] 4)],
   [],
   .bool true⟩
theorem bc166_h : bc166.holds EE := ent0 _ (by kernel_rfl) (by kernel_rfl)
-- (decani/candle.vestry).canBeTrue, 1847 steps
noncomputable def bc169 : Ent :=
  ⟨74, [.agg ⟨[iP 8, iP 10, iP 0, iP 0, iP 1, iP 1, iP 1, iP 1, .slice (some ⟨6, 0, none⟩) 2 18446744073709551616, .slice none 0 0, .slice none 0 0, .map (some 7)]⟩], 8,
   gC ++ [(6, .cells true 6 [iP 2, iP 2, iP 2, iP 0, iP 0, iP 2, iP 2, iP 2, iP 1, iP 0]),
    (7, .map [⟨.agg ⟨[iP 0, iP 0]⟩, iP 0, 0⟩, ⟨.agg ⟨[iP 1, iP 0]⟩, iP 0, 1⟩, ⟨.agg ⟨[iP 0, iP 1]⟩, iP 0, 2⟩, ⟨.agg ⟨[iP 1, iP 1]⟩, iP 0, 3⟩] 4)],
   [],
   .bool true⟩
theorem bc169_h : bc169.holds EE := ent0 _ (by kernel_rfl) (by kernel_rfl)
-- (decani/candle.vestry).canBeTrue, 1847 steps
noncomputable def bc173 : Ent :=
  ⟨74, [.agg ⟨[iP 9, iP 10, iP 0, iP 0, iP 2, iP 2, iP 1, iP 1, .slice (some ⟨6, 0, none⟩) 2 18446744073709551616, .slice none 0 0, .slice none 0 0, .map (some 7)]⟩], 8,
   gC ++ [(6, .cells true 6 [iP 2, iP 2, iP 2, iP 0, iP 0, iP 2, iP 2, iP 2, iP 1, iP 0]),
    (7, .map [⟨.agg ⟨[iP 0, iP 0]⟩, iP 0, 0⟩, ⟨.agg ⟨[iP 1, iP 0]⟩, iP 0, 1⟩, ⟨.agg ⟨[iP 0, iP 1]⟩, iP 0, 2⟩, ⟨.agg ⟨[iP 1, iP 1]⟩, iP 0, 3⟩] 4)],
   [],
   .bool true⟩
theorem bc173_h : bc173.holds EE := ent0 _ (by kernel_rfl) (by kernel_rfl)
-- (decani/cold.dormitory).canBeTrue, 1475 steps
noncomputable def bc177 : Ent :=
  ⟨71, [.agg ⟨[iP 2, iP 6, iP 1, iP 2, iP 1, iP 1, iP 2, iP 2, .slice none 0 0, iP 0, .slice (some ⟨6, 0, none⟩) 2 2, .map (some 7)]⟩], 8,
   gC ++ [(6, .cells true 0 [iP 1, iP 1, .bool true, iP 1, iP 0, .bool false]),
    (7, .map [] 0)],
   [],
   .bool false⟩
theorem bc177_h : bc177.holds EE := ent0 _ (by kernel_rfl) (by kernel_rfl)
-- (decani/cold.dormitory).canBeTrue, 1389 steps
noncomputable def bc181 : Ent :=
  ⟨71, [.agg ⟨[iP 2, iP 6, iP 1, iP 0, iP 1, iP 1, iP 2, iP 2, .slice none 0 0, iP 0, .slice (some ⟨6, 0, none⟩) 2 2, .map (some 7)]⟩], 8,
   gC ++ [(6, .cells true 0 [iP 0, iP 2, .bool true, iP 0, iP 1, .bool false]),
    (7, .map [] 0)],
   [],
   .bool false⟩
theorem bc181_h : bc181.holds EE := ent0 _ (by kernel_rfl) (by kernel_rfl)
-- (decani/cold.dormitory).canBeTrue, 1389 steps
noncomputable def bc185 : Ent :=
  ⟨71, [.agg ⟨[iP 2, iP 6, iP 1, iP 0, iP 1, iP 1, iP 2, iP 2, .slice none 0 0, iP 0, .slice (some ⟨6, 0, none⟩) 2 2, .map (some 7)]⟩], 8,
   gC ++ [(6, .cells true 0 [iP 1, iP 4, .bool true, iP 1, iP 3, .bool false]),
    (7, .map [] 0)],
   [],
   .bool false⟩
theorem bc185_h : bc185.holds EE := ent0 _ (by kernel_rfl) (by kernel_rfl)
-- (decani/cold.dormitory).canBeTrue, 1389 steps
noncomputable def bc189 : Ent :=
  ⟨71, [.agg ⟨[iP 2, iP 6, iP 1, iP 0, iP 1, iP 1, iP 1, iP 1, .slice none 0 0, iP 0, .slice (some ⟨6, 0, none⟩) 2 2, .map (some 7)]⟩], 8,
   gC ++ [(6, .cells true 0 [iP 0, iP 4, .bool true, iP 0, iP 3, .bool false]),
    (7, .map [] 0)],
   [],
   .bool false⟩
theorem bc189_h : bc189.holds EE := ent0 _ (by kernel_rfl) (by kernel_rfl)
-- (decani/cold.dormitory).canBeTrue, 1389 steps
noncomputable def bc193 : Ent :=
  ⟨71, [.agg ⟨[iP 2, iP 6, iP 1, iP 0, iP 1, iP 1, iP 1, iP 1, .slice none 0 0, iP 0, .slice (some ⟨6, 0, none⟩) 2 2, .map (some 7)]⟩], 8,
   gC ++ [(6, .cells true 0 [iP 1, iP 5, .bool true, iP 1, iP 4, .bool false]),
    (7, .map [] 0)],
   [],
   .bool false⟩
theorem bc193_h : bc193.holds EE := ent0 _ (by kernel_rfl) (by kernel_rfl)
-- (decani/cold.dormitory).canBeTrue, 1334 steps
noncomputable def bc198 : Ent :=
  ⟨71, [.agg ⟨[iP 2, iP 6, iP 1, iP 1, iP 1, iP 1, iP 2, iP 2, .slice none 0 0, iP 0, .slice (some ⟨6, 0, none⟩) 2 2, .map (some 7)]⟩], 8,
   gC ++ [(6, .cells true 0 [iP 0, iP 1, .bool true, iP 0, iP 0, .bool false]),
    (7, .map [] 0)],
   [],
   .bool true⟩
theorem bc198_h : bc198.holds EE := ent0 _ (by kernel_rfl) (by kernel_rfl)
-- (decani/cold.dormitory).canBeTrue, 1334 steps
noncomputable def bc202 : Ent :=
  ⟨71, [.agg ⟨[iP 2, iP 6, iP 1, iP 2, iP 1, iP 1, iP 2, iP 2, .slice none 0 0, iP 0, .slice (some ⟨6, 0, none⟩) 2 2, .map (some 7)]⟩], 8,
   gC ++ [(6, .cells true 0 [iP 0, iP 1, .bool true, iP 0, iP 0, .bool false]),
    (7, .map [] 0)],
   [],
   .bool true⟩
theorem bc202_h : bc202.holds EE := ent0 _ (by kernel_rfl) (by kernel_rfl)
-- (decani/cold.dormitory).canBeTrue, 1334 steps
noncomputable def bc206 : Ent :=
  ⟨71, [.agg ⟨[iP 2, iP 6, iP 1, iP 0, iP 1, iP 1, iP 1, iP 1, .slice none 0 0, iP 0, .slice (some ⟨6, 0, none⟩) 2 2, .map (some 7)]⟩], 8,
   gC ++ [(6, .cells true 0 [iP 0, iP 1, .bool true, iP 0, iP 0, .bool false]),
    (7, .map [] 0)],
   [],
   .bool true⟩
theorem bc206_h : bc206.holds EE := ent0 _ (by kernel_rfl) (by kernel_rfl)
-- (decani/cold.dormitory).canBeTrue, 1334 steps
noncomputable def bc210 : Ent :=
  ⟨71, [.agg ⟨[iP 2, iP 6, iP 1, iP 2, iP 1, iP 1, iP 1, iP 1, .slice none 0 0, iP 0, .slice (some ⟨6, 0, none⟩) 2 2, .map (some 7)]⟩], 8,
   gC ++ [(6, .cells true 0 [iP 0, iP 1, .bool true, iP 0, iP 0, .bool false]),
    (7, .map [] 0)],
   [],
   .bool true⟩
theorem bc210_h : bc210.holds EE := ent0 _ (by kernel_rfl) (by kernel_rfl)
-- (decani/cold.dormitory).canBeTrue, 1313 steps
noncomputable def bc214 : Ent :=
  ⟨71, [.agg ⟨[iP 2, iP 6, iP 1, iP 0, iP 1, iP 1, iP 1, iP 1, .slice none 0 0, iP 0, .slice (some ⟨6, 0, none⟩) 2 2, .map (some 7)]⟩], 8,
   gC ++ [(6, .cells true 0 [iP 1, iP 1, .bool true, iP 1, iP 0, .bool false]),
    (7, .map [] 0)],
   [],
   .bool false⟩
theorem bc214_h : bc214.holds EE := ent0 _ (by kernel_rfl) (by kernel_rfl)
-- (decani/candle.vestry).canBeTrue, 1242 steps
noncomputable def bc218 : Ent :=
  ⟨74, [.agg ⟨[iP 10, iP 10, iP 0, iP 0, iP 1, iP 1, iP 1, iP 1, .slice (some ⟨6, 0, none⟩) 2 18446744073709551616, .slice none 0 0, .slice (some ⟨7, 0, none⟩) 1 1, .map (some 8)]⟩], 9,
   gC ++ [(6, .cells true 6 [iP 2, iP 2, iP 2, iP 0, iP 0, iP 2, iP 2, iP 2, iP 1, iP 0]),
    (7, .cells true 0 [iP 0, iP 0, iP 6, iP 0]),
    (8, .map [⟨.agg ⟨[iP 0, iP 0]⟩, iP 0, 0⟩, ⟨.agg ⟨[iP 1, iP 0]⟩, iP 0, 1⟩, ⟨.agg ⟨[iP 0, iP 1]⟩, iP 0, 2⟩, ⟨.agg ⟨[iP 1, iP 1]⟩, iP 0, 3⟩] 4)],
   [],
   .bool false⟩
theorem bc218_h : bc218.holds EE := ent0 _ (by kernel_rfl) (by kernel_rfl)
-- (decani/candle.vestry).canBeTrue, 1242 steps
noncomputable def bc222 : Ent :=
  ⟨74, [.agg ⟨[iP 10, iP 10, iP 0, iP 0, iP 2, iP 2, iP 1, iP 1, .slice (some ⟨6, 0, none⟩) 2 18446744073709551616, .slice none 0 0, .slice (some ⟨7, 0, none⟩) 1 1, .map (some 8)]⟩], 9,
   gC ++ [(6, .cells true 6 [iP 2, iP 2, iP 2, iP 0, iP 0, iP 2, iP 2, iP 2, iP 1, iP 0]),
    (7, .cells true 0 [iP 0, iP 0, iP 6, iP 0]),
    (8, .map [⟨.agg ⟨[iP 0, iP 0]⟩, iP 0, 0⟩, ⟨.agg ⟨[iP 1, iP 0]⟩, iP 0, 1⟩, ⟨.agg ⟨[iP 0, iP 1]⟩, iP 0, 2⟩, ⟨.agg ⟨[iP 1, iP 1]⟩, iP 0, 3⟩] 4)],
   [],
   .bool false⟩
theorem bc222_h : bc222.holds EE := ent0 _ (by kernel_rfl) (by kernel_rfl)
-- (decani/cold.dormitory).canBeTrue, 1070 steps
noncomputable def bc227 : Ent :=
  ⟨71, [.agg ⟨[iP 2, iP 6, iP 1, iP 2, iP 1, iP 1, iP 2, iP 2, .slice none 0 0, iP 0, .slice none 0 0, .map (some 6)]⟩], 7,
   gC ++ [(6, .map [] 0)],
   [],
   .bool true⟩
theorem bc227_h : bc227.holds EE := ent0 _ (by kernel_rfl) (by kernel_rfl)
-- (decani/cold.dormitory).canBeTrue, 1070 steps
noncomputable def bc231 : Ent :=
  ⟨71, [.agg ⟨[iP 2, iP 6, iP 1, iP 2, iP 1, iP 1, iP 1, iP 1, .slice none 0 0, iP 0, .slice none 0 0, .map (some 6)]⟩], 7,
   gC ++ [(6, .map [] 0)],
   [],
   .bool true⟩
theorem bc231_h : bc231.holds EE := ent0 _ (by kernel_rfl) (by kernel_rfl)
end Go.Proofs.YtmjpnohpmfmdlaaGreatDoor
