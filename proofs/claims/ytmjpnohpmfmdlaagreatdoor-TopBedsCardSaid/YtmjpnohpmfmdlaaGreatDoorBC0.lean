/- Known calls, part 0: what single calls hand back, at small heaps, by the kernel's own run of the evaluator. No conditions. -/
import Derived.Test.YtmjpnohpmfmdlaaGreatDoorBG
set_option linter.all false
namespace Go.Proofs.YtmjpnohpmfmdlaaGreatDoor
open Go.Ai
set_option maxRecDepth 1000000
-- (decani/candle.vestry).canBeTrue, 10665 steps
noncomputable def bc0 : Ent :=
  ⟨74, [.agg ⟨[iP 8, iP 10, iP 0, iP 0, iP 1, iP 2, iP 1, iP 1, .slice (some ⟨6, 0, none⟩) 2 18446744073709551616, .slice none 0 0, .slice (some ⟨7, 0, none⟩) 1 1, .map (some 8)]⟩], 9,
   gC ++ [(6, .cells true 6 [iP 2, iP 2, iP 2, iP 0, iP 0, iP 2, iP 2, iP 2, iP 1, iP 0]),
    (7, .cells true 0 [iP 1, iP 0, iP 10, iP 0]),
    (8, .map [⟨.agg ⟨[iP 0, iP 0]⟩, iP 0, 0⟩, ⟨.agg ⟨[iP 1, iP 0]⟩, iP 0, 1⟩, ⟨.agg ⟨[iP 0, iP 1]⟩, iP 0, 2⟩, ⟨.agg ⟨[iP 1, iP 1]⟩, iP 0, 3⟩] 4)],
   [],
   .bool false⟩
theorem bc0_h : bc0.holds EE := ent0 _ (by kernel_rfl) (by kernel_rfl)
-- (decani/candle.vestry).canBeTrue, 7149 steps
noncomputable def bc5 : Ent :=
  ⟨74, [.agg ⟨[iP 9, iP 10, iP 0, iP 0, iP 1, iP 2, iP 1, iP 1, .slice (some ⟨6, 0, none⟩) 2 18446744073709551616, .slice none 0 0, .slice (some ⟨7, 0, none⟩) 1 1, .map (some 8)]⟩], 9,
   gC ++ [(6, .cells true 6 [iP 2, iP 2, iP 2, iP 0, iP 0, iP 2, iP 2, iP 2, iP 1, iP 0]),
    (7, .cells true 0 [iP 1, iP 0, iP 10, iP 0]),
    (8, .map [⟨.agg ⟨[iP 0, iP 0]⟩, iP 0, 0⟩, ⟨.agg ⟨[iP 1, iP 0]⟩, iP 0, 1⟩, ⟨.agg ⟨[iP 0, iP 1]⟩, iP 0, 2⟩, ⟨.agg ⟨[iP 1, iP 1]⟩, iP 0, 3⟩] 4)],
   [],
   .bool false⟩
theorem bc5_h : bc5.holds EE := ent0 _ (by kernel_rfl) (by kernel_rfl)
-- (decani/candle.vestry).canBeTrue, 7149 steps
noncomputable def bc8 : Ent :=
  ⟨74, [.agg ⟨[iP 9, iP 10, iP 0, iP 0, iP 2, iP 3, iP 1, iP 1, .slice (some ⟨6, 0, none⟩) 2 18446744073709551616, .slice none 0 0, .slice (some ⟨7, 0, none⟩) 1 1, .map (some 8)]⟩], 9,
   gC ++ [(6, .cells true 6 [iP 2, iP 2, iP 2, iP 0, iP 0, iP 2, iP 2, iP 2, iP 1, iP 0]),
    (7, .cells true 0 [iP 1, iP 0, iP 7, iP 0]),
    (8, .map [⟨.agg ⟨[iP 0, iP 0]⟩, iP 0, 0⟩, ⟨.agg ⟨[iP 1, iP 0]⟩, iP 0, 1⟩, ⟨.agg ⟨[iP 0, iP 1]⟩, iP 0, 2⟩, ⟨.agg ⟨[iP 1, iP 1]⟩, iP 0, 3⟩] 4)],
   [],
   .bool false⟩
theorem bc8_h : bc8.holds EE := ent0 _ (by kernel_rfl) (by kernel_rfl)
-- (decani/cold.dormitory).canBeTrue, 6448 steps
noncomputable def bc13 : Ent :=
  ⟨71, [.agg ⟨[iP 2, iP 6, iP 1, iP 2, iP 1, iP 1, iP 1, iP 2, .slice none 0 0, iP 0, .slice (some ⟨6, 0, none⟩) 2 2, .map (some 7)]⟩], 8,
   gC ++ [(6, .cells true 0 [iP 0, iP 5, .bool true, iP 0, iP 4, .bool false]),
    (7, .map [] 0)],
   [],
   .bool false⟩
theorem bc13_h : bc13.holds EE := ent0 _ (by kernel_rfl) (by kernel_rfl)
-- (decani/candle.vestry).canBeTrue, 6279 steps
noncomputable def bc18 : Ent :=
  ⟨74, [.agg ⟨[iP 8, iP 10, iP 0, iP 0, iP 2, iP 3, iP 1, iP 1, .slice (some ⟨6, 0, none⟩) 2 18446744073709551616, .slice none 0 0, .slice (some ⟨7, 0, none⟩) 1 1, .map (some 8)]⟩], 9,
   gC ++ [(6, .cells true 6 [iP 2, iP 2, iP 2, iP 0, iP 0, iP 2, iP 2, iP 2, iP 1, iP 0]),
    (7, .cells true 0 [iP 0, iP 0, iP 6, iP 0]),
    (8, .map [⟨.agg ⟨[iP 0, iP 0]⟩, iP 0, 0⟩, ⟨.agg ⟨[iP 1, iP 0]⟩, iP 0, 1⟩, ⟨.agg ⟨[iP 0, iP 1]⟩, iP 0, 2⟩, ⟨.agg ⟨[iP 1, iP 1]⟩, iP 0, 3⟩] 4)],
   [],
   .bool false⟩
theorem bc18_h : bc18.holds EE := ent0 _ (by kernel_rfl) (by kernel_rfl)
-- (decani/candle.vestry).canBeTrue, 5685 steps
noncomputable def bc22 : Ent :=
  ⟨74, [.agg ⟨[iP 8, iP 10, iP 0, iP 0, iP 1, iP 1, iP 1, iP 1, .slice (some ⟨6, 0, none⟩) 2 18446744073709551616, .slice none 0 0, .slice (some ⟨7, 0, none⟩) 1 1, .map (some 8)]⟩], 9,
   gC ++ [(6, .cells true 6 [iP 2, iP 2, iP 2, iP 0, iP 0, iP 2, iP 2, iP 2, iP 1, iP 0]),
    (7, .cells true 0 [iP 1, iP 0, iP 9, iP 0]),
    (8, .map [⟨.agg ⟨[iP 0, iP 0]⟩, iP 0, 0⟩, ⟨.agg ⟨[iP 1, iP 0]⟩, iP 0, 1⟩, ⟨.agg ⟨[iP 0, iP 1]⟩, iP 0, 2⟩, ⟨.agg ⟨[iP 1, iP 1]⟩, iP 0, 3⟩] 4)],
   [],
   .bool false⟩
theorem bc22_h : bc22.holds EE := ent0 _ (by kernel_rfl) (by kernel_rfl)
-- (decani/candle.vestry).canBeTrue, 5682 steps
noncomputable def bc25 : Ent :=
  ⟨74, [.agg ⟨[iP 8, iP 10, iP 0, iP 0, iP 1, iP 1, iP 1, iP 1, .slice (some ⟨6, 0, none⟩) 2 18446744073709551616, .slice none 0 0, .slice (some ⟨7, 0, none⟩) 1 1, .map (some 8)]⟩], 9,
   gC ++ [(6, .cells true 6 [iP 2, iP 2, iP 2, iP 0, iP 0, iP 2, iP 2, iP 2, iP 1, iP 0]),
    (7, .cells true 0 [iP 1, iP 0, iP 8, iP 0]),
    (8, .map [⟨.agg ⟨[iP 0, iP 0]⟩, iP 0, 0⟩, ⟨.agg ⟨[iP 1, iP 0]⟩, iP 0, 1⟩, ⟨.agg ⟨[iP 0, iP 1]⟩, iP 0, 2⟩, ⟨.agg ⟨[iP 1, iP 1]⟩, iP 0, 3⟩] 4)],
   [],
   .bool true⟩
theorem bc25_h : bc25.holds EE := ent0 _ (by kernel_rfl) (by kernel_rfl)
-- (decani/candle.vestry).canBeTrue, 5486 steps
noncomputable def bc28 : Ent :=
  ⟨74, [.agg ⟨[iP 9, iP 10, iP 0, iP 0, iP 2, iP 3, iP 1, iP 1, .slice (some ⟨6, 0, none⟩) 2 18446744073709551616, .slice none 0 0, .slice (some ⟨7, 0, none⟩) 1 1, .map (some 8)]⟩], 9,
   gC ++ [(6, .cells true 6 [iP 2, iP 2, iP 2, iP 0, iP 0, iP 2, iP 2, iP 2, iP 1, iP 0]),
    (7, .cells true 0 [iP 1, iP 0, iP 9, iP 0]),
    (8, .map [⟨.agg ⟨[iP 0, iP 0]⟩, iP 0, 0⟩, ⟨.agg ⟨[iP 1, iP 0]⟩, iP 0, 1⟩, ⟨.agg ⟨[iP 0, iP 1]⟩, iP 0, 2⟩, ⟨.agg ⟨[iP 1, iP 1]⟩, iP 0, 3⟩] 4)],
   [],
   .bool true⟩
theorem bc28_h : bc28.holds EE := ent0 _ (by kernel_rfl) (by kernel_rfl)
-- (decani/cold.dormitory).canBeTrue, 4356 steps
noncomputable def bc33 : Ent :=
  ⟨71, [.agg ⟨[iP 2, iP 6, iP 1, iP 1, iP 1, iP 1, iP 1, iP 2, .slice none 0 0, iP 0, .slice (some ⟨6, 0, none⟩) 2 2, .map (some 7)]⟩], 8,
   gC ++ [(6, .cells true 0 [iP 1, iP 5, .bool true, iP 1, iP 4, .bool false]),
    (7, .map [] 0)],
   [],
   .bool false⟩
theorem bc33_h : bc33.holds EE := ent0 _ (by kernel_rfl) (by kernel_rfl)
-- (decani/candle.vestry).canBeTrue, 4225 steps
noncomputable def bc38 : Ent :=
  ⟨74, [.agg ⟨[iP 9, iP 10, iP 0, iP 0, iP 1, iP 2, iP 1, iP 1, .slice (some ⟨6, 0, none⟩) 2 18446744073709551616, .slice none 0 0, .slice (some ⟨7, 0, none⟩) 1 1, .map (some 8)]⟩], 9,
   gC ++ [(6, .cells true 6 [iP 2, iP 2, iP 2, iP 0, iP 0, iP 2, iP 2, iP 2, iP 1, iP 0]),
    (7, .cells true 0 [iP 0, iP 0, iP 6, iP 0]),
    (8, .map [⟨.agg ⟨[iP 0, iP 0]⟩, iP 0, 0⟩, ⟨.agg ⟨[iP 1, iP 0]⟩, iP 0, 1⟩, ⟨.agg ⟨[iP 0, iP 1]⟩, iP 0, 2⟩, ⟨.agg ⟨[iP 1, iP 1]⟩, iP 0, 3⟩] 4)],
   [],
   .bool false⟩
theorem bc38_h : bc38.holds EE := ent0 _ (by kernel_rfl) (by kernel_rfl)
-- (decani/candle.vestry).canBeTrue, 4220 steps
noncomputable def bc42 : Ent :=
  ⟨74, [.agg ⟨[iP 8, iP 10, iP 0, iP 0, iP 1, iP 1, iP 1, iP 1, .slice (some ⟨6, 0, none⟩) 2 18446744073709551616, .slice none 0 0, .slice (some ⟨7, 0, none⟩) 1 1, .map (some 8)]⟩], 9,
   gC ++ [(6, .cells true 6 [iP 2, iP 2, iP 2, iP 0, iP 0, iP 2, iP 2, iP 2, iP 1, iP 0]),
    (7, .cells true 0 [iP 0, iP 0, iP 10, iP 0]),
    (8, .map [⟨.agg ⟨[iP 0, iP 0]⟩, iP 0, 0⟩, ⟨.agg ⟨[iP 1, iP 0]⟩, iP 0, 1⟩, ⟨.agg ⟨[iP 0, iP 1]⟩, iP 0, 2⟩, ⟨.agg ⟨[iP 1, iP 1]⟩, iP 0, 3⟩] 4)],
   [],
   .bool true⟩
theorem bc42_h : bc42.holds EE := ent0 _ (by kernel_rfl) (by kernel_rfl)
-- (decani/candle.vestry).canBeTrue, 4024 steps
noncomputable def bc46 : Ent :=
  ⟨74, [.agg ⟨[iP 9, iP 10, iP 0, iP 0, iP 2, iP 3, iP 1, iP 1, .slice (some ⟨6, 0, none⟩) 2 18446744073709551616, .slice none 0 0, .slice (some ⟨7, 0, none⟩) 1 1, .map (some 8)]⟩], 9,
   gC ++ [(6, .cells true 6 [iP 2, iP 2, iP 2, iP 0, iP 0, iP 2, iP 2, iP 2, iP 1, iP 0]),
    (7, .cells true 0 [iP 0, iP 0, iP 10, iP 0]),
    (8, .map [⟨.agg ⟨[iP 0, iP 0]⟩, iP 0, 0⟩, ⟨.agg ⟨[iP 1, iP 0]⟩, iP 0, 1⟩, ⟨.agg ⟨[iP 0, iP 1]⟩, iP 0, 2⟩, ⟨.agg ⟨[iP 1, iP 1]⟩, iP 0, 3⟩] 4)],
   [],
   .bool true⟩
theorem bc46_h : bc46.holds EE := ent0 _ (by kernel_rfl) (by kernel_rfl)
-- (decani/candle.vestry).canBeTrue, 3829 steps
noncomputable def bc50 : Ent :=
  ⟨74, [.agg ⟨[iP 9, iP 10, iP 0, iP 0, iP 1, iP 1, iP 1, iP 1, .slice (some ⟨6, 0, none⟩) 2 18446744073709551616, .slice none 0 0, .slice (some ⟨7, 0, none⟩) 1 1, .map (some 8)]⟩], 9,
   gC ++ [(6, .cells true 6 [iP 2, iP 2, iP 2, iP 0, iP 0, iP 2, iP 2, iP 2, iP 1, iP 0]),
    (7, .cells true 0 [iP 1, iP 0, iP 6, iP 0]),
    (8, .map [⟨.agg ⟨[iP 0, iP 0]⟩, iP 0, 0⟩, ⟨.agg ⟨[iP 1, iP 0]⟩, iP 0, 1⟩, ⟨.agg ⟨[iP 0, iP 1]⟩, iP 0, 2⟩, ⟨.agg ⟨[iP 1, iP 1]⟩, iP 0, 3⟩] 4)],
   [],
   .bool false⟩
theorem bc50_h : bc50.holds EE := ent0 _ (by kernel_rfl) (by kernel_rfl)
-- (decani/candle.vestry).canBeTrue, 3826 steps
noncomputable def bc54 : Ent :=
  ⟨74, [.agg ⟨[iP 9, iP 10, iP 0, iP 0, iP 1, iP 1, iP 1, iP 1, .slice (some ⟨6, 0, none⟩) 2 18446744073709551616, .slice none 0 0, .slice (some ⟨7, 0, none⟩) 1 1, .map (some 8)]⟩], 9,
   gC ++ [(6, .cells true 6 [iP 2, iP 2, iP 2, iP 0, iP 0, iP 2, iP 2, iP 2, iP 1, iP 0]),
    (7, .cells true 0 [iP 1, iP 0, iP 8, iP 0]),
    (8, .map [⟨.agg ⟨[iP 0, iP 0]⟩, iP 0, 0⟩, ⟨.agg ⟨[iP 1, iP 0]⟩, iP 0, 1⟩, ⟨.agg ⟨[iP 0, iP 1]⟩, iP 0, 2⟩, ⟨.agg ⟨[iP 1, iP 1]⟩, iP 0, 3⟩] 4)],
   [],
   .bool true⟩
theorem bc54_h : bc54.holds EE := ent0 _ (by kernel_rfl) (by kernel_rfl)
-- (decani/cold.dormitory).canBeTrue, 3823 steps
noncomputable def bc58 : Ent :=
  ⟨71, [.agg ⟨[iP 2, iP 6, iP 1, iP 2, iP 1, iP 1, iP 2, iP 2, .slice none 0 0, iP 0, .slice (some ⟨6, 0, none⟩) 2 2, .map (some 7)]⟩], 8,
   gC ++ [(6, .cells true 0 [iP 0, iP 4, .bool true, iP 0, iP 3, .bool false]),
    (7, .map [] 0)],
   [],
   .bool false⟩
theorem bc58_h : bc58.holds EE := ent0 _ (by kernel_rfl) (by kernel_rfl)
-- (decani/cold.dormitory).canBeTrue, 3823 steps
noncomputable def bc62 : Ent :=
  ⟨71, [.agg ⟨[iP 2, iP 6, iP 1, iP 2, iP 1, iP 1, iP 1, iP 1, .slice none 0 0, iP 0, .slice (some ⟨6, 0, none⟩) 2 2, .map (some 7)]⟩], 8,
   gC ++ [(6, .cells true 0 [iP 1, iP 5, .bool true, iP 1, iP 4, .bool false]),
    (7, .map [] 0)],
   [],
   .bool false⟩
theorem bc62_h : bc62.holds EE := ent0 _ (by kernel_rfl) (by kernel_rfl)
-- (decani/cold.dormitory).canBeTrue, 3768 steps
noncomputable def bc66 : Ent :=
  ⟨71, [.agg ⟨[iP 2, iP 6, iP 1, iP 2, iP 1, iP 1, iP 1, iP 1, .slice none 0 0, iP 0, .slice (some ⟨6, 0, none⟩) 2 2, .map (some 7)]⟩], 8,
   gC ++ [(6, .cells true 0 [iP 1, iP 4, .bool true, iP 1, iP 3, .bool false]),
    (7, .map [] 0)],
   [],
   .bool true⟩
theorem bc66_h : bc66.holds EE := ent0 _ (by kernel_rfl) (by kernel_rfl)
-- (decani/candle.vestry).canBeTrue, 3633 steps
noncomputable def bc71 : Ent :=
  ⟨74, [.agg ⟨[iP 10, iP 10, iP 0, iP 0, iP 2, iP 3, iP 1, iP 1, .slice (some ⟨6, 0, none⟩) 2 18446744073709551616, .slice none 0 0, .slice (some ⟨7, 0, none⟩) 1 1, .map (some 8)]⟩], 9,
   gC ++ [(6, .cells true 6 [iP 2, iP 2, iP 2, iP 0, iP 0, iP 2, iP 2, iP 2, iP 1, iP 0]),
    (7, .cells true 0 [iP 1, iP 0, iP 8, iP 0]),
    (8, .map [⟨.agg ⟨[iP 0, iP 0]⟩, iP 0, 0⟩, ⟨.agg ⟨[iP 1, iP 0]⟩, iP 0, 1⟩, ⟨.agg ⟨[iP 0, iP 1]⟩, iP 0, 2⟩, ⟨.agg ⟨[iP 1, iP 1]⟩, iP 0, 3⟩] 4)],
   [],
   .bool false⟩
theorem bc71_h : bc71.holds EE := ent0 _ (by kernel_rfl) (by kernel_rfl)
-- (decani/candle.vestry).canBeTrue, 3630 steps
noncomputable def bc75 : Ent :=
  ⟨74, [.agg ⟨[iP 9, iP 10, iP 0, iP 0, iP 1, iP 2, iP 1, iP 1, .slice (some ⟨6, 0, none⟩) 2 18446744073709551616, .slice none 0 0, .slice (some ⟨7, 0, none⟩) 1 1, .map (some 8)]⟩], 9,
   gC ++ [(6, .cells true 6 [iP 2, iP 2, iP 2, iP 0, iP 0, iP 2, iP 2, iP 2, iP 1, iP 0]),
    (7, .cells true 0 [iP 1, iP 0, iP 8, iP 0]),
    (8, .map [⟨.agg ⟨[iP 0, iP 0]⟩, iP 0, 0⟩, ⟨.agg ⟨[iP 1, iP 0]⟩, iP 0, 1⟩, ⟨.agg ⟨[iP 0, iP 1]⟩, iP 0, 2⟩, ⟨.agg ⟨[iP 1, iP 1]⟩, iP 0, 3⟩] 4)],
   [],
   .bool true⟩
theorem bc75_h : bc75.holds EE := ent0 _ (by kernel_rfl) (by kernel_rfl)
-- (decani/candle.vestry).canBeTrue, 3492 steps
noncomputable def bc79 : Ent :=
  ⟨74, [.agg ⟨[iP 8, iP 10, iP 0, iP 0, iP 2, iP 2, iP 1, iP 1, .slice (some ⟨6, 0, none⟩) 2 18446744073709551616, .slice none 0 0, .slice (some ⟨7, 0, none⟩) 1 1, .map (some 8)]⟩], 9,
   gC ++ [(6, .cells true 6 [iP 2, iP 2, iP 2, iP 0, iP 0, iP 2, iP 2, iP 2, iP 1, iP 0]),
    (7, .cells true 0 [iP 0, iP 0, iP 7, iP 0]),
    (8, .map [⟨.agg ⟨[iP 0, iP 0]⟩, iP 0, 0⟩, ⟨.agg ⟨[iP 1, iP 0]⟩, iP 0, 1⟩, ⟨.agg ⟨[iP 0, iP 1]⟩, iP 0, 2⟩, ⟨.agg ⟨[iP 1, iP 1]⟩, iP 0, 3⟩] 4)],
   [],
   .bool false⟩
theorem bc79_h : bc79.holds EE := ent0 _ (by kernel_rfl) (by kernel_rfl)
-- (decani/candle.vestry).canBeTrue, 3095 steps
noncomputable def bc83 : Ent :=
  ⟨74, [.agg ⟨[iP 9, iP 10, iP 0, iP 0, iP 1, iP 1, iP 1, iP 1, .slice (some ⟨6, 0, none⟩) 2 18446744073709551616, .slice none 0 0, .slice (some ⟨7, 0, none⟩) 1 1, .map (some 8)]⟩], 9,
   gC ++ [(6, .cells true 6 [iP 2, iP 2, iP 2, iP 0, iP 0, iP 2, iP 2, iP 2, iP 1, iP 0]),
    (7, .cells true 0 [iP 0, iP 0, iP 10, iP 0]),
    (8, .map [⟨.agg ⟨[iP 0, iP 0]⟩, iP 0, 0⟩, ⟨.agg ⟨[iP 1, iP 0]⟩, iP 0, 1⟩, ⟨.agg ⟨[iP 0, iP 1]⟩, iP 0, 2⟩, ⟨.agg ⟨[iP 1, iP 1]⟩, iP 0, 3⟩] 4)],
   [],
   .bool true⟩
theorem bc83_h : bc83.holds EE := ent0 _ (by kernel_rfl) (by kernel_rfl)
-- (decani/candle.vestry).canBeTrue, 3095 steps
noncomputable def bc85 : Ent :=
  ⟨74, [.agg ⟨[iP 9, iP 10, iP 0, iP 0, iP 2, iP 2, iP 1, iP 1, .slice (some ⟨6, 0, none⟩) 2 18446744073709551616, .slice none 0 0, .slice (some ⟨7, 0, none⟩) 1 1, .map (some 8)]⟩], 9,
   gC ++ [(6, .cells true 6 [iP 2, iP 2, iP 2, iP 0, iP 0, iP 2, iP 2, iP 2, iP 1, iP 0]),
    (7, .cells true 0 [iP 0, iP 0, iP 10, iP 0]),
    (8, .map [⟨.agg ⟨[iP 0, iP 0]⟩, iP 0, 0⟩, ⟨.agg ⟨[iP 1, iP 0]⟩, iP 0, 1⟩, ⟨.agg ⟨[iP 0, iP 1]⟩, iP 0, 2⟩, ⟨.agg ⟨[iP 1, iP 1]⟩, iP 0, 3⟩] 4)],
   [],
   .bool true⟩
theorem bc85_h : bc85.holds EE := ent0 _ (by kernel_rfl) (by kernel_rfl)
-- (decani/cold.dormitory).canBeTrue, 2606 steps
noncomputable def bc90 : Ent :=
  ⟨71, [.agg ⟨[iP 2, iP 6, iP 1, iP 1, iP 1, iP 1, iP 2, iP 2, .slice none 0 0, iP 0, .slice (some ⟨6, 0, none⟩) 2 2, .map (some 7)]⟩], 8,
   gC ++ [(6, .cells true 0 [iP 0, iP 5, .bool true, iP 0, iP 4, .bool false]),
    (7, .map [] 0)],
   [],
   .bool false⟩
theorem bc90_h : bc90.holds EE := ent0 _ (by kernel_rfl) (by kernel_rfl)
-- (decani/cold.dormitory).canBeTrue, 2606 steps
noncomputable def bc94 : Ent :=
  ⟨71, [.agg ⟨[iP 2, iP 6, iP 1, iP 1, iP 1, iP 1, iP 1, iP 1, .slice none 0 0, iP 0, .slice (some ⟨6, 0, none⟩) 2 2, .map (some 7)]⟩], 8,
   gC ++ [(6, .cells true 0 [iP 0, iP 5, .bool true, iP 0, iP 4, .bool false]),
    (7, .map [] 0)],
   [],
   .bool false⟩
theorem bc94_h : bc94.holds EE := ent0 _ (by kernel_rfl) (by kernel_rfl)
-- (decani/cold.dormitory).canBeTrue, 2551 steps
noncomputable def bc98 : Ent :=
  ⟨71, [.agg ⟨[iP 2, iP 6, iP 1, iP 1, iP 1, iP 1, iP 2, iP 2, .slice none 0 0, iP 0, .slice (some ⟨6, 0, none⟩) 2 2, .map (some 7)]⟩], 8,
   gC ++ [(6, .cells true 0 [iP 1, iP 4, .bool true, iP 1, iP 3, .bool false]),
    (7, .map [] 0)],
   [],
   .bool true⟩
theorem bc98_h : bc98.holds EE := ent0 _ (by kernel_rfl) (by kernel_rfl)
-- (decani/cold.dormitory).canBeTrue, 2551 steps
noncomputable def bc102 : Ent :=
  ⟨71, [.agg ⟨[iP 2, iP 6, iP 1, iP 1, iP 1, iP 1, iP 1, iP 1, .slice none 0 0, iP 0, .slice (some ⟨6, 0, none⟩) 2 2, .map (some 7)]⟩], 8,
   gC ++ [(6, .cells true 0 [iP 1, iP 3, .bool true, iP 1, iP 2, .bool false]),
    (7, .map [] 0)],
   [],
   .bool true⟩
theorem bc102_h : bc102.holds EE := ent0 _ (by kernel_rfl) (by kernel_rfl)
-- (decani/cold.dormitory).canBeTrue, 2454 steps
noncomputable def bc106 : Ent :=
  ⟨71, [.agg ⟨[iP 2, iP 6, iP 1, iP 1, iP 1, iP 1, iP 2, iP 2, .slice none 0 0, iP 0, .slice (some ⟨6, 0, none⟩) 2 2, .map (some 7)]⟩], 8,
   gC ++ [(6, .cells true 0 [iP 1, iP 2, .bool true, iP 1, iP 1, .bool false]),
    (7, .map [] 0)],
   [],
   .bool false⟩
theorem bc106_h : bc106.holds EE := ent0 _ (by kernel_rfl) (by kernel_rfl)
-- (decani/candle.vestry).canBeTrue, 2367 steps
noncomputable def bc110 : Ent :=
  ⟨74, [.agg ⟨[iP 9, iP 10, iP 0, iP 0, iP 2, iP 2, iP 1, iP 1, .slice (some ⟨6, 0, none⟩) 2 18446744073709551616, .slice none 0 0, .slice (some ⟨7, 0, none⟩) 1 1, .map (some 8)]⟩], 9,
   gC ++ [(6, .cells true 6 [iP 2, iP 2, iP 2, iP 0, iP 0, iP 2, iP 2, iP 2, iP 1, iP 0]),
    (7, .cells true 0 [iP 0, iP 0, iP 8, iP 0]),
    (8, .map [⟨.agg ⟨[iP 0, iP 0]⟩, iP 0, 0⟩, ⟨.agg ⟨[iP 1, iP 0]⟩, iP 0, 1⟩, ⟨.agg ⟨[iP 0, iP 1]⟩, iP 0, 2⟩, ⟨.agg ⟨[iP 1, iP 1]⟩, iP 0, 3⟩] 4)],
   [],
   .bool false⟩
theorem bc110_h : bc110.holds EE := ent0 _ (by kernel_rfl) (by kernel_rfl)
-- (decani/cold.dormitory).canBeTrue, 2264 steps
noncomputable def bc114 : Ent :=
  ⟨71, [.agg ⟨[iP 2, iP 6, iP 1, iP 0, iP 1, iP 1, iP 1, iP 2, .slice none 0 0, iP 0, .slice (some ⟨6, 0, none⟩) 2 2, .map (some 7)]⟩], 8,
   gC ++ [(6, .cells true 0 [iP 0, iP 2, .bool true, iP 0, iP 1, .bool false]),
    (7, .map [] 0)],
   [],
   .bool false⟩
theorem bc114_h : bc114.holds EE := ent0 _ (by kernel_rfl) (by kernel_rfl)
-- (decani/cold.dormitory).canBeTrue, 2264 steps
noncomputable def bc117 : Ent :=
  ⟨71, [.agg ⟨[iP 2, iP 6, iP 1, iP 0, iP 1, iP 1, iP 1, iP 2, .slice none 0 0, iP 0, .slice (some ⟨6, 0, none⟩) 2 2, .map (some 7)]⟩], 8,
   gC ++ [(6, .cells true 0 [iP 0, iP 5, .bool true, iP 0, iP 4, .bool false]),
    (7, .map [] 0)],
   [],
   .bool false⟩
theorem bc117_h : bc117.holds EE := ent0 _ (by kernel_rfl) (by kernel_rfl)
-- (decani/cold.dormitory).canBeTrue, 2209 steps
noncomputable def bc121 : Ent :=
  ⟨71, [.agg ⟨[iP 2, iP 6, iP 1, iP 1, iP 1, iP 1, iP 1, iP 2, .slice none 0 0, iP 0, .slice (some ⟨6, 0, none⟩) 2 2, .map (some 7)]⟩], 8,
   gC ++ [(6, .cells true 0 [iP 1, iP 3, .bool true, iP 1, iP 2, .bool false]),
    (7, .map [] 0)],
   [],
   .bool true⟩
theorem bc121_h : bc121.holds EE := ent0 _ (by kernel_rfl) (by kernel_rfl)
-- (decani/candle.vestry).canBeTrue, 2171 steps
noncomputable def bc125 : Ent :=
  ⟨74, [.agg ⟨[iP 10, iP 10, iP 0, iP 0, iP 1, iP 2, iP 1, iP 1, .slice (some ⟨6, 0, none⟩) 2 18446744073709551616, .slice none 0 0, .slice (some ⟨7, 0, none⟩) 1 1, .map (some 8)]⟩], 9,
   gC ++ [(6, .cells true 6 [iP 2, iP 2, iP 2, iP 0, iP 0, iP 2, iP 2, iP 2, iP 1, iP 0]),
    (7, .cells true 0 [iP 0, iP 0, iP 8, iP 0]),
    (8, .map [⟨.agg ⟨[iP 0, iP 0]⟩, iP 0, 0⟩, ⟨.agg ⟨[iP 1, iP 0]⟩, iP 0, 1⟩, ⟨.agg ⟨[iP 0, iP 1]⟩, iP 0, 2⟩, ⟨.agg ⟨[iP 1, iP 1]⟩, iP 0, 3⟩] 4)],
   [],
   .bool false⟩
theorem bc125_h : bc125.holds EE := ent0 _ (by kernel_rfl) (by kernel_rfl)
-- (decani/candle.vestry).canBeTrue, 2171 steps
noncomputable def bc129 : Ent :=
  ⟨74, [.agg ⟨[iP 10, iP 10, iP 0, iP 0, iP 2, iP 3, iP 1, iP 1, .slice (some ⟨6, 0, none⟩) 2 18446744073709551616, .slice none 0 0, .slice (some ⟨7, 0, none⟩) 1 1, .map (some 8)]⟩], 9,
   gC ++ [(6, .cells true 6 [iP 2, iP 2, iP 2, iP 0, iP 0, iP 2, iP 2, iP 2, iP 1, iP 0]),
    (7, .cells true 0 [iP 0, iP 0, iP 8, iP 0]),
    (8, .map [⟨.agg ⟨[iP 0, iP 0]⟩, iP 0, 0⟩, ⟨.agg ⟨[iP 1, iP 0]⟩, iP 0, 1⟩, ⟨.agg ⟨[iP 0, iP 1]⟩, iP 0, 2⟩, ⟨.agg ⟨[iP 1, iP 1]⟩, iP 0, 3⟩] 4)],
   [],
   .bool false⟩
theorem bc129_h : bc129.holds EE := ent0 _ (by kernel_rfl) (by kernel_rfl)
-- (decani/candle.vestry).canBeTrue, 1973 steps
noncomputable def bc133 : Ent :=
  ⟨74, [.agg ⟨[iP 10, iP 10, iP 0, iP 0, iP 1, iP 1, iP 1, iP 1, .slice (some ⟨6, 0, none⟩) 2 18446744073709551616, .slice none 0 0, .slice (some ⟨7, 0, none⟩) 1 1, .map (some 8)]⟩], 9,
   gC ++ [(6, .cells true 6 [iP 2, iP 2, iP 2, iP 0, iP 0, iP 2, iP 2, iP 2, iP 1, iP 0]),
    (7, .cells true 0 [iP 1, iP 0, iP 10, iP 0]),
    (8, .map [⟨.agg ⟨[iP 0, iP 0]⟩, iP 0, 0⟩, ⟨.agg ⟨[iP 1, iP 0]⟩, iP 0, 1⟩, ⟨.agg ⟨[iP 0, iP 1]⟩, iP 0, 2⟩, ⟨.agg ⟨[iP 1, iP 1]⟩, iP 0, 3⟩] 4)],
   [],
   .bool false⟩
theorem bc133_h : bc133.holds EE := ent0 _ (by kernel_rfl) (by kernel_rfl)
-- (decani/candle.vestry).canBeTrue, 1973 steps
noncomputable def bc136 : Ent :=
  ⟨74, [.agg ⟨[iP 10, iP 10, iP 0, iP 0, iP 1, iP 1, iP 1, iP 1, .slice (some ⟨6, 0, none⟩) 2 18446744073709551616, .slice none 0 0, .slice (some ⟨7, 0, none⟩) 1 1, .map (some 8)]⟩], 9,
   gC ++ [(6, .cells true 6 [iP 2, iP 2, iP 2, iP 0, iP 0, iP 2, iP 2, iP 2, iP 1, iP 0]),
    (7, .cells true 0 [iP 1, iP 0, iP 6, iP 0]),
    (8, .map [⟨.agg ⟨[iP 0, iP 0]⟩, iP 0, 0⟩, ⟨.agg ⟨[iP 1, iP 0]⟩, iP 0, 1⟩, ⟨.agg ⟨[iP 0, iP 1]⟩, iP 0, 2⟩, ⟨.agg ⟨[iP 1, iP 1]⟩, iP 0, 3⟩] 4)],
   [],
   .bool false⟩
theorem bc136_h : bc136.holds EE := ent0 _ (by kernel_rfl) (by kernel_rfl)
-- (decani/candle.vestry).canBeTrue, 1973 steps
noncomputable def bc140 : Ent :=
  ⟨74, [.agg ⟨[iP 10, iP 10, iP 0, iP 0, iP 2, iP 2, iP 1, iP 1, .slice (some ⟨6, 0, none⟩) 2 18446744073709551616, .slice none 0 0, .slice (some ⟨7, 0, none⟩) 1 1, .map (some 8)]⟩], 9,
   gC ++ [(6, .cells true 6 [iP 2, iP 2, iP 2, iP 0, iP 0, iP 2, iP 2, iP 2, iP 1, iP 0]),
    (7, .cells true 0 [iP 1, iP 0, iP 6, iP 0]),
    (8, .map [⟨.agg ⟨[iP 0, iP 0]⟩, iP 0, 0⟩, ⟨.agg ⟨[iP 1, iP 0]⟩, iP 0, 1⟩, ⟨.agg ⟨[iP 0, iP 1]⟩, iP 0, 2⟩, ⟨.agg ⟨[iP 1, iP 1]⟩, iP 0, 3⟩] 4)],
   [],
   .bool false⟩
theorem bc140_h : bc140.holds EE := ent0 _ (by kernel_rfl) (by kernel_rfl)
-- (decani/candle.vestry).canBeTrue, 1970 steps
noncomputable def bc144 : Ent :=
  ⟨74, [.agg ⟨[iP 10, iP 10, iP 0, iP 0, iP 1, iP 2, iP 1, iP 1, .slice (some ⟨6, 0, none⟩) 2 18446744073709551616, .slice none 0 0, .slice (some ⟨7, 0, none⟩) 1 1, .map (some 8)]⟩], 9,
   gC ++ [(6, .cells true 6 [iP 2, iP 2, iP 2, iP 0, iP 0, iP 2, iP 2, iP 2, iP 1, iP 0]),
    (7, .cells true 0 [iP 1, iP 0, iP 8, iP 0]),
    (8, .map [⟨.agg ⟨[iP 0, iP 0]⟩, iP 0, 0⟩, ⟨.agg ⟨[iP 1, iP 0]⟩, iP 0, 1⟩, ⟨.agg ⟨[iP 0, iP 1]⟩, iP 0, 2⟩, ⟨.agg ⟨[iP 1, iP 1]⟩, iP 0, 3⟩] 4)],
   [],
   .bool true⟩
theorem bc144_h : bc144.holds EE := ent0 _ (by kernel_rfl) (by kernel_rfl)
-- (decani/candle.vestry).canBeTrue, 1970 steps
noncomputable def bc148 : Ent :=
  ⟨74, [.agg ⟨[iP 9, iP 10, iP 0, iP 0, iP 1, iP 2, iP 1, iP 1, .slice (some ⟨6, 0, none⟩) 2 18446744073709551616, .slice none 0 0, .slice (some ⟨7, 0, none⟩) 1 1, .map (some 8)]⟩], 9,
   gC ++ [(6, .cells true 6 [iP 2, iP 2, iP 2, iP 0, iP 0, iP 2, iP 2, iP 2, iP 1, iP 0]),
    (7, .cells true 0 [iP 1, iP 0, iP 7, iP 0]),
    (8, .map [⟨.agg ⟨[iP 0, iP 0]⟩, iP 0, 0⟩, ⟨.agg ⟨[iP 1, iP 0]⟩, iP 0, 1⟩, ⟨.agg ⟨[iP 0, iP 1]⟩, iP 0, 2⟩, ⟨.agg ⟨[iP 1, iP 1]⟩, iP 0, 3⟩] 4)],
   [],
   .bool true⟩
theorem bc148_h : bc148.holds EE := ent0 _ (by kernel_rfl) (by kernel_rfl)
-- (decani/candle.vestry).canBeTrue, 1970 steps
noncomputable def bc152 : Ent :=
  ⟨74, [.agg ⟨[iP 8, iP 10, iP 0, iP 0, iP 1, iP 2, iP 1, iP 1, .slice (some ⟨6, 0, none⟩) 2 18446744073709551616, .slice none 0 0, .slice (some ⟨7, 0, none⟩) 1 1, .map (some 8)]⟩], 9,
   gC ++ [(6, .cells true 6 [iP 2, iP 2, iP 2, iP 0, iP 0, iP 2, iP 2, iP 2, iP 1, iP 0]),
    (7, .cells true 0 [iP 1, iP 0, iP 6, iP 0]),
    (8, .map [⟨.agg ⟨[iP 0, iP 0]⟩, iP 0, 0⟩, ⟨.agg ⟨[iP 1, iP 0]⟩, iP 0, 1⟩, ⟨.agg ⟨[iP 0, iP 1]⟩, iP 0, 2⟩, ⟨.agg ⟨[iP 1, iP 1]⟩, iP 0, 3⟩] 4)],
   [],
   .bool true⟩
theorem bc152_h : bc152.holds EE := ent0 _ (by kernel_rfl) (by kernel_rfl)
-- (decani/candle.vestry).canBeTrue, 1970 steps
noncomputable def bc156 : Ent :=
  ⟨74, [.agg ⟨[iP 10, iP 10, iP 0, iP 0, iP 2, iP 3, iP 1, iP 1, .slice (some ⟨6, 0, none⟩) 2 18446744073709551616, .slice none 0 0, .slice (some ⟨7, 0, none⟩) 1 1, .map (some 8)]⟩], 9,
   gC ++ [(6, .cells true 6 [iP 2, iP 2, iP 2, iP 0, iP 0, iP 2, iP 2, iP 2, iP 1, iP 0]),
    (7, .cells true 0 [iP 1, iP 0, iP 9, iP 0]),
    (8, .map [⟨.agg ⟨[iP 0, iP 0]⟩, iP 0, 0⟩, ⟨.agg ⟨[iP 1, iP 0]⟩, iP 0, 1⟩, ⟨.agg ⟨[iP 0, iP 1]⟩, iP 0, 2⟩, ⟨.agg ⟨[iP 1, iP 1]⟩, iP 0, 3⟩] 4)],
   [],
   .bool true⟩
theorem bc156_h : bc156.holds EE := ent0 _ (by kernel_rfl) (by kernel_rfl)
-- (decani/candle.vestry).canBeTrue, 1970 steps
noncomputable def bc160 : Ent :=
  ⟨74, [.agg ⟨[iP 9, iP 10, iP 0, iP 0, iP 2, iP 3, iP 1, iP 1, .slice (some ⟨6, 0, none⟩) 2 18446744073709551616, .slice none 0 0, .slice (some ⟨7, 0, none⟩) 1 1, .map (some 8)]⟩], 9,
   gC ++ [(6, .cells true 6 [iP 2, iP 2, iP 2, iP 0, iP 0, iP 2, iP 2, iP 2, iP 1, iP 0]),
    (7, .cells true 0 [iP 1, iP 0, iP 8, iP 0]),
    (8, .map [⟨.agg ⟨[iP 0, iP 0]⟩, iP 0, 0⟩, ⟨.agg ⟨[iP 1, iP 0]⟩, iP 0, 1⟩, ⟨.agg ⟨[iP 0, iP 1]⟩, iP 0, 2⟩, ⟨.agg ⟨[iP 1, iP 1]⟩, iP 0, 3⟩] 4)],
   [],
   .bool true⟩
theorem bc160_h : bc160.holds EE := ent0 _ (by kernel_rfl) (by kernel_rfl)
-- (decani/candle.vestry).canBeTrue, 1970 steps
noncomputable def bc164 : Ent :=
  ⟨74, [.agg ⟨[iP 8, iP 10, iP 0, iP 0, iP 2, iP 3, iP 1, iP 1, .slice (some ⟨6, 0, none⟩) 2 18446744073709551616, .slice none 0 0, .slice (some ⟨7, 0, none⟩) 1 1, .map (some 8)]⟩], 9,
   gC ++ [(6, .cells true 6 [iP 2, iP 2, iP 2, iP 0, iP 0, iP 2, iP 2, iP 2, iP 1, iP 0]),
    (7, .cells true 0 [iP 1, iP 0, iP 7, iP 0]),
    (8, .map [⟨.agg ⟨[iP 0, iP 0]⟩, iP 0, 0⟩, ⟨.agg ⟨[iP 1, iP 0]⟩, iP 0, 1⟩, ⟨.agg ⟨[iP 0, iP 1]⟩, iP 0, 2⟩, ⟨.agg ⟨[iP 1, iP 1]⟩, iP 0, 3⟩] 4)],
   [],
   .bool true⟩
theorem bc164_h : bc164.holds EE := ent0 _ (by kernel_rfl) (by kernel_rfl)
-- (decani/candle.vestry).canBeTrue, 1847 steps
noncomputable def bc170 : Ent :=
  ⟨74, [.agg ⟨[iP 8, iP 10, iP 0, iP 0, iP 1, iP 2, iP 1, iP 1, .slice (some ⟨6, 0, none⟩) 2 18446744073709551616, .slice none 0 0, .slice none 0 0, .map (some 7)]⟩], 8,
   gC ++ [(6, .cells true 6 [iP 2, iP 2, iP 2, iP 0, iP 0, iP 2, iP 2, iP 2, iP 1, iP 0]),
    (7, .map [⟨.agg ⟨[iP 0, iP 0]⟩, iP 0, 0⟩, ⟨.agg ⟨[iP 1, iP 0]⟩, iP 0, 1⟩, ⟨.agg ⟨[iP 0, iP 1]⟩, iP 0, 2⟩, ⟨.agg ⟨[iP 1, iP 1]⟩, iP 0, 3⟩] 4)],
   [],
   .bool true⟩
theorem bc170_h : bc170.holds EE := ent0 _ (by kernel_rfl) (by kernel_rfl)
-- (decani/candle.vestry).canBeTrue, 1847 steps
noncomputable def bc174 : Ent :=
  ⟨74, [.agg ⟨[iP 9, iP 10, iP 0, iP 0, iP 2, iP 3, iP 1, iP 1, .slice (some ⟨6, 0, none⟩) 2 18446744073709551616, .slice none 0 0, .slice none 0 0, .map (some 7)]⟩], 8,
   gC ++ [(6, .cells true 6 [iP 2, iP 2, iP 2, iP 0, iP 0, iP 2, iP 2, iP 2, iP 1, iP 0]),
    (7, .map [⟨.agg ⟨[iP 0, iP 0]⟩, iP 0, 0⟩, ⟨.agg ⟨[iP 1, iP 0]⟩, iP 0, 1⟩, ⟨.agg ⟨[iP 0, iP 1]⟩, iP 0, 2⟩, ⟨.agg ⟨[iP 1, iP 1]⟩, iP 0, 3⟩] 4)],
   [],
   .bool true⟩
theorem bc174_h : bc174.holds EE := ent0 _ (by kernel_rfl) (by kernel_rfl)
-- (decani/cold.dormitory).canBeTrue, 1475 steps
noncomputable def bc178 : Ent :=
  ⟨71, [.agg ⟨[iP 2, iP 6, iP 1, iP 2, iP 1, iP 1, iP 1, iP 1, .slice none 0 0, iP 0, .slice (some ⟨6, 0, none⟩) 2 2, .map (some 7)]⟩], 8,
   gC ++ [(6, .cells true 0 [iP 1, iP 1, .bool true, iP 1, iP 0, .bool false]),
    (7, .map [] 0)],
   [],
   .bool false⟩
theorem bc178_h : bc178.holds EE := ent0 _ (by kernel_rfl) (by kernel_rfl)
-- (decani/cold.dormitory).canBeTrue, 1389 steps
noncomputable def bc182 : Ent :=
  ⟨71, [.agg ⟨[iP 2, iP 6, iP 1, iP 0, iP 1, iP 1, iP 2, iP 2, .slice none 0 0, iP 0, .slice (some ⟨6, 0, none⟩) 2 2, .map (some 7)]⟩], 8,
   gC ++ [(6, .cells true 0 [iP 0, iP 3, .bool true, iP 0, iP 2, .bool false]),
    (7, .map [] 0)],
   [],
   .bool false⟩
theorem bc182_h : bc182.holds EE := ent0 _ (by kernel_rfl) (by kernel_rfl)
-- (decani/cold.dormitory).canBeTrue, 1389 steps
noncomputable def bc186 : Ent :=
  ⟨71, [.agg ⟨[iP 2, iP 6, iP 1, iP 0, iP 1, iP 1, iP 2, iP 2, .slice none 0 0, iP 0, .slice (some ⟨6, 0, none⟩) 2 2, .map (some 7)]⟩], 8,
   gC ++ [(6, .cells true 0 [iP 1, iP 5, .bool true, iP 1, iP 4, .bool false]),
    (7, .map [] 0)],
   [],
   .bool false⟩
theorem bc186_h : bc186.holds EE := ent0 _ (by kernel_rfl) (by kernel_rfl)
-- (decani/cold.dormitory).canBeTrue, 1389 steps
noncomputable def bc190 : Ent :=
  ⟨71, [.agg ⟨[iP 2, iP 6, iP 1, iP 0, iP 1, iP 1, iP 1, iP 1, .slice none 0 0, iP 0, .slice (some ⟨6, 0, none⟩) 2 2, .map (some 7)]⟩], 8,
   gC ++ [(6, .cells true 0 [iP 0, iP 5, .bool true, iP 0, iP 4, .bool false]),
    (7, .map [] 0)],
   [],
   .bool false⟩
theorem bc190_h : bc190.holds EE := ent0 _ (by kernel_rfl) (by kernel_rfl)
-- (decani/cold.dormitory).canBeTrue, 1334 steps
noncomputable def bc194 : Ent :=
  ⟨71, [.agg ⟨[iP 2, iP 6, iP 1, iP 0, iP 1, iP 1, iP 2, iP 2, .slice none 0 0, iP 0, .slice (some ⟨6, 0, none⟩) 2 2, .map (some 7)]⟩], 8,
   gC ++ [(6, .cells true 0 [iP 0, iP 1, .bool true, iP 0, iP 0, .bool false]),
    (7, .map [] 0)],
   [],
   .bool true⟩
theorem bc194_h : bc194.holds EE := ent0 _ (by kernel_rfl) (by kernel_rfl)
-- (decani/cold.dormitory).canBeTrue, 1334 steps
noncomputable def bc196 : Ent :=
  ⟨71, [.agg ⟨[iP 2, iP 6, iP 1, iP 0, iP 1, iP 1, iP 1, iP 2, .slice none 0 0, iP 0, .slice (some ⟨6, 0, none⟩) 2 2, .map (some 7)]⟩], 8,
   gC ++ [(6, .cells true 0 [iP 0, iP 1, .bool true, iP 0, iP 0, .bool false]),
    (7, .map [] 0)],
   [],
   .bool true⟩
theorem bc196_h : bc196.holds EE := ent0 _ (by kernel_rfl) (by kernel_rfl)
-- (decani/cold.dormitory).canBeTrue, 1334 steps
noncomputable def bc200 : Ent :=
  ⟨71, [.agg ⟨[iP 2, iP 6, iP 1, iP 1, iP 1, iP 1, iP 1, iP 2, .slice none 0 0, iP 0, .slice (some ⟨6, 0, none⟩) 2 2, .map (some 7)]⟩], 8,
   gC ++ [(6, .cells true 0 [iP 0, iP 1, .bool true, iP 0, iP 0, .bool false]),
    (7, .map [] 0)],
   [],
   .bool true⟩
theorem bc200_h : bc200.holds EE := ent0 _ (by kernel_rfl) (by kernel_rfl)
-- (decani/cold.dormitory).canBeTrue, 1334 steps
noncomputable def bc204 : Ent :=
  ⟨71, [.agg ⟨[iP 2, iP 6, iP 1, iP 2, iP 1, iP 1, iP 1, iP 2, .slice none 0 0, iP 0, .slice (some ⟨6, 0, none⟩) 2 2, .map (some 7)]⟩], 8,
   gC ++ [(6, .cells true 0 [iP 0, iP 1, .bool true, iP 0, iP 0, .bool false]),
    (7, .map [] 0)],
   [],
   .bool true⟩
theorem bc204_h : bc204.holds EE := ent0 _ (by kernel_rfl) (by kernel_rfl)
-- (decani/cold.dormitory).canBeTrue, 1334 steps
noncomputable def bc208 : Ent :=
  ⟨71, [.agg ⟨[iP 2, iP 6, iP 1, iP 1, iP 1, iP 1, iP 1, iP 1, .slice none 0 0, iP 0, .slice (some ⟨6, 0, none⟩) 2 2, .map (some 7)]⟩], 8,
   gC ++ [(6, .cells true 0 [iP 0, iP 1, .bool true, iP 0, iP 0, .bool false]),
    (7, .map [] 0)],
   [],
   .bool true⟩
theorem bc208_h : bc208.holds EE := ent0 _ (by kernel_rfl) (by kernel_rfl)
-- (decani/cold.dormitory).canBeTrue, 1313 steps
noncomputable def bc212 : Ent :=
  ⟨71, [.agg ⟨[iP 2, iP 6, iP 1, iP 0, iP 1, iP 1, iP 2, iP 2, .slice none 0 0, iP 0, .slice (some ⟨6, 0, none⟩) 2 2, .map (some 7)]⟩], 8,
   gC ++ [(6, .cells true 0 [iP 1, iP 1, .bool true, iP 1, iP 0, .bool false]),
    (7, .map [] 0)],
   [],
   .bool false⟩
theorem bc212_h : bc212.holds EE := ent0 _ (by kernel_rfl) (by kernel_rfl)
-- (decani/candle.vestry).canBeTrue, 1242 steps
noncomputable def bc216 : Ent :=
  ⟨74, [.agg ⟨[iP 10, iP 10, iP 0, iP 0, iP 1, iP 1, iP 1, iP 1, .slice (some ⟨6, 0, none⟩) 2 18446744073709551616, .slice none 0 0, .slice (some ⟨7, 0, none⟩) 1 1, .map (some 8)]⟩], 9,
   gC ++ [(6, .cells true 6 [iP 2, iP 2, iP 2, iP 0, iP 0, iP 2, iP 2, iP 2, iP 1, iP 0]),
    (7, .cells true 0 [iP 0, iP 0, iP 8, iP 0]),
    (8, .map [⟨.agg ⟨[iP 0, iP 0]⟩, iP 0, 0⟩, ⟨.agg ⟨[iP 1, iP 0]⟩, iP 0, 1⟩, ⟨.agg ⟨[iP 0, iP 1]⟩, iP 0, 2⟩, ⟨.agg ⟨[iP 1, iP 1]⟩, iP 0, 3⟩] 4)],
   [],
   .bool false⟩
theorem bc216_h : bc216.holds EE := ent0 _ (by kernel_rfl) (by kernel_rfl)
-- (decani/candle.vestry).canBeTrue, 1242 steps
noncomputable def bc220 : Ent :=
  ⟨74, [.agg ⟨[iP 10, iP 10, iP 0, iP 0, iP 2, iP 2, iP 1, iP 1, .slice (some ⟨6, 0, none⟩) 2 18446744073709551616, .slice none 0 0, .slice (some ⟨7, 0, none⟩) 1 1, .map (some 8)]⟩], 9,
   gC ++ [(6, .cells true 6 [iP 2, iP 2, iP 2, iP 0, iP 0, iP 2, iP 2, iP 2, iP 1, iP 0]),
    (7, .cells true 0 [iP 0, iP 0, iP 8, iP 0]),
    (8, .map [⟨.agg ⟨[iP 0, iP 0]⟩, iP 0, 0⟩, ⟨.agg ⟨[iP 1, iP 0]⟩, iP 0, 1⟩, ⟨.agg ⟨[iP 0, iP 1]⟩, iP 0, 2⟩, ⟨.agg ⟨[iP 1, iP 1]⟩, iP 0, 3⟩] 4)],
   [],
   .bool false⟩
theorem bc220_h : bc220.holds EE := ent0 _ (by kernel_rfl) (by kernel_rfl)
-- (decani/cold.dormitory).canBeTrue, 1070 steps
noncomputable def bc224 : Ent :=
  ⟨71, [.agg ⟨[iP 2, iP 6, iP 1, iP 0, iP 1, iP 1, iP 2, iP 2, .slice none 0 0, iP 0, .slice none 0 0, .map (some 6)]⟩], 7,
   gC ++ [(6, .map [] 0)],
   [],
   .bool true⟩
theorem bc224_h : bc224.holds EE := ent0 _ (by kernel_rfl) (by kernel_rfl)
-- (decani/cold.dormitory).canBeTrue, 1070 steps
noncomputable def bc228 : Ent :=
  ⟨71, [.agg ⟨[iP 2, iP 6, iP 1, iP 2, iP 1, iP 1, iP 1, iP 2, .slice none 0 0, iP 0, .slice none 0 0, .map (some 6)]⟩], 7,
   gC ++ [(6, .map [] 0)],
   [],
   .bool true⟩
theorem bc228_h : bc228.holds EE := ent0 _ (by kernel_rfl) (by kernel_rfl)
end Go.Proofs.YtmjpnohpmfmdlaaGreatDoor
