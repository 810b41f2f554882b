/- Known calls, part 1: what single calls hand back, at small heaps, by the kernel's own run of the evaluator. No conditions. -/
import Derived.Test.YtmjpnohpmfmdlaaGreatDoorBG
set_option linter.all false
namespace Go.Proofs.YtmjpnohpmfmdlaaGreatDoor
open Go.Ai
set_option maxRecDepth 1000000
-- (decani/candle.vestry).canBeTrue, 10665 steps
noncomputable def bc1 : Ent :=
  ⟨74, [.agg ⟨[iP 8, iP 10, iP 0, iP 0, iP 2, iP 3, iP 1, iP 1, .slice (some ⟨6, 0, none⟩) 2 18446744073709551616, .slice none 0 0, .slice (some ⟨7, 0, none⟩) 1 1, .map (some 8)]⟩], 9,
   gC ++ [(6, .cells true 6 [iP 2, iP 2, iP 2, iP 0, iP 0, iP 2, iP 2, iP 2, iP 1, iP 0]),
    (7, .cells true 0 [iP 1, iP 0, iP 10, iP 0]),
    (8, .map [⟨.agg ⟨[iP 0, iP 0]⟩, iP 0, 0⟩, ⟨.agg ⟨[iP 1, iP 0]⟩, iP 0, 1⟩, ⟨.agg ⟨[iP 0, iP 1]⟩, iP 0, 2⟩, ⟨.agg ⟨[iP 1, iP 1]⟩, iP 0, 3⟩] 4)],
   [],
   .bool false⟩
theorem bc1_h : bc1.holds EE := ent0 _ (by kernel_rfl) (by kernel_rfl)
-- (decani/candle.vestry).canBeTrue, 7149 steps
noncomputable def bc6 : Ent :=
  ⟨74, [.agg ⟨[iP 9, iP 10, iP 0, iP 0, iP 1, iP 2, iP 1, iP 1, .slice (some ⟨6, 0, none⟩) 2 18446744073709551616, .slice none 0 0, .slice (some ⟨7, 0, none⟩) 1 1, .map (some 8)]⟩], 9,
   gC ++ [(6, .cells true 6 [iP 2, iP 2, iP 2, iP 0, iP 0, iP 2, iP 2, iP 2, iP 1, iP 0]),
    (7, .cells true 0 [iP 1, iP 0, iP 6, iP 0]),
    (8, .map [⟨.agg ⟨[iP 0, iP 0]⟩, iP 0, 0⟩, ⟨.agg ⟨[iP 1, iP 0]⟩, iP 0, 1⟩, ⟨.agg ⟨[iP 0, iP 1]⟩, iP 0, 2⟩, ⟨.agg ⟨[iP 1, iP 1]⟩, iP 0, 3⟩] 4)],
   [],
   .bool false⟩
theorem bc6_h : bc6.holds EE := ent0 _ (by kernel_rfl) (by kernel_rfl)
-- (decani/candle.vestry).canBeTrue, 7149 steps
noncomputable def bc9 : Ent :=
  ⟨74, [.agg ⟨[iP 9, iP 10, iP 0, iP 0, iP 2, iP 3, iP 1, iP 1, .slice (some ⟨6, 0, none⟩) 2 18446744073709551616, .slice none 0 0, .slice (some ⟨7, 0, none⟩) 1 1, .map (some 8)]⟩], 9,
   gC ++ [(6, .cells true 6 [iP 2, iP 2, iP 2, iP 0, iP 0, iP 2, iP 2, iP 2, iP 1, iP 0]),
    (7, .cells true 0 [iP 1, iP 0, iP 6, iP 0]),
    (8, .map [⟨.agg ⟨[iP 0, iP 0]⟩, iP 0, 0⟩, ⟨.agg ⟨[iP 1, iP 0]⟩, iP 0, 1⟩, ⟨.agg ⟨[iP 0, iP 1]⟩, iP 0, 2⟩, ⟨.agg ⟨[iP 1, iP 1]⟩, iP 0, 3⟩] 4)],
   [],
   .bool false⟩
theorem bc9_h : bc9.holds EE := ent0 _ (by kernel_rfl) (by kernel_rfl)
-- (decani/cold.dormitory).canBeTrue, 6393 steps
noncomputable def bc14 : Ent :=
  ⟨71, [.agg ⟨[iP 2, iP 6, iP 1, iP 2, iP 1, iP 1, iP 1, iP 2, .slice none 0 0, iP 0, .slice (some ⟨6, 0, none⟩) 2 2, .map (some 7)]⟩], 8,
   gC ++ [(6, .cells true 0 [iP 1, iP 5, .bool true, iP 1, iP 4, .bool false]),
    (7, .map [] 0)],
   [],
   .bool true⟩
theorem bc14_h : bc14.holds EE := ent0 _ (by kernel_rfl) (by kernel_rfl)
-- (decani/candle.vestry).canBeTrue, 6279 steps
noncomputable def bc16 : Ent :=
  ⟨74, [.agg ⟨[iP 8, iP 10, iP 0, iP 0, iP 1, iP 2, iP 1, iP 1, .slice (some ⟨6, 0, none⟩) 2 18446744073709551616, .slice none 0 0, .slice (some ⟨7, 0, none⟩) 1 1, .map (some 8)]⟩], 9,
   gC ++ [(6, .cells true 6 [iP 2, iP 2, iP 2, iP 0, iP 0, iP 2, iP 2, iP 2, iP 1, iP 0]),
    (7, .cells true 0 [iP 0, iP 0, iP 6, iP 0]),
    (8, .map [⟨.agg ⟨[iP 0, iP 0]⟩, iP 0, 0⟩, ⟨.agg ⟨[iP 1, iP 0]⟩, iP 0, 1⟩, ⟨.agg ⟨[iP 0, iP 1]⟩, iP 0, 2⟩, ⟨.agg ⟨[iP 1, iP 1]⟩, iP 0, 3⟩] 4)],
   [],
   .bool false⟩
theorem bc16_h : bc16.holds EE := ent0 _ (by kernel_rfl) (by kernel_rfl)
-- (decani/candle.vestry).canBeTrue, 6078 steps
noncomputable def bc20 : Ent :=
  ⟨74, [.agg ⟨[iP 8, iP 10, iP 0, iP 0, iP 2, iP 3, iP 1, iP 1, .slice (some ⟨6, 0, none⟩) 2 18446744073709551616, .slice none 0 0, .slice (some ⟨7, 0, none⟩) 1 1, .map (some 8)]⟩], 9,
   gC ++ [(6, .cells true 6 [iP 2, iP 2, iP 2, iP 0, iP 0, iP 2, iP 2, iP 2, iP 1, iP 0]),
    (7, .cells true 0 [iP 0, iP 0, iP 10, iP 0]),
    (8, .map [⟨.agg ⟨[iP 0, iP 0]⟩, iP 0, 0⟩, ⟨.agg ⟨[iP 1, iP 0]⟩, iP 0, 1⟩, ⟨.agg ⟨[iP 0, iP 1]⟩, iP 0, 2⟩, ⟨.agg ⟨[iP 1, iP 1]⟩, iP 0, 3⟩] 4)],
   [],
   .bool true⟩
theorem bc20_h : bc20.holds EE := ent0 _ (by kernel_rfl) (by kernel_rfl)
-- (decani/candle.vestry).canBeTrue, 5682 steps
noncomputable def bc26 : Ent :=
  ⟨74, [.agg ⟨[iP 8, iP 10, iP 0, iP 0, iP 2, iP 2, iP 1, iP 1, .slice (some ⟨6, 0, none⟩) 2 18446744073709551616, .slice none 0 0, .slice (some ⟨7, 0, none⟩) 1 1, .map (some 8)]⟩], 9,
   gC ++ [(6, .cells true 6 [iP 2, iP 2, iP 2, iP 0, iP 0, iP 2, iP 2, iP 2, iP 1, iP 0]),
    (7, .cells true 0 [iP 1, iP 0, iP 9, iP 0]),
    (8, .map [⟨.agg ⟨[iP 0, iP 0]⟩, iP 0, 0⟩, ⟨.agg ⟨[iP 1, iP 0]⟩, iP 0, 1⟩, ⟨.agg ⟨[iP 0, iP 1]⟩, iP 0, 2⟩, ⟨.agg ⟨[iP 1, iP 1]⟩, iP 0, 3⟩] 4)],
   [],
   .bool true⟩
theorem bc26_h : bc26.holds EE := ent0 _ (by kernel_rfl) (by kernel_rfl)
-- (decani/cold.dormitory).canBeTrue, 4356 steps
noncomputable def bc30 : Ent :=
  ⟨71, [.agg ⟨[iP 2, iP 6, iP 1, iP 1, iP 1, iP 1, iP 1, iP 2, .slice none 0 0, iP 0, .slice (some ⟨6, 0, none⟩) 2 2, .map (some 7)]⟩], 8,
   gC ++ [(6, .cells true 0 [iP 0, iP 3, .bool true, iP 0, iP 2, .bool false]),
    (7, .map [] 0)],
   [],
   .bool false⟩
theorem bc30_h : bc30.holds EE := ent0 _ (by kernel_rfl) (by kernel_rfl)
-- (decani/cold.dormitory).canBeTrue, 4356 steps
noncomputable def bc32 : Ent :=
  ⟨71, [.agg ⟨[iP 2, iP 6, iP 1, iP 1, iP 1, iP 1, iP 1, iP 2, .slice none 0 0, iP 0, .slice (some ⟨6, 0, none⟩) 2 2, .map (some 7)]⟩], 8,
   gC ++ [(6, .cells true 0 [iP 0, iP 5, .bool true, iP 0, iP 4, .bool false]),
    (7, .map [] 0)],
   [],
   .bool false⟩
theorem bc32_h : bc32.holds EE := ent0 _ (by kernel_rfl) (by kernel_rfl)
-- (decani/candle.vestry).canBeTrue, 4225 steps
noncomputable def bc36 : Ent :=
  ⟨74, [.agg ⟨[iP 9, iP 10, iP 0, iP 0, iP 1, iP 2, iP 1, iP 1, .slice (some ⟨6, 0, none⟩) 2 18446744073709551616, .slice none 0 0, .slice (some ⟨7, 0, none⟩) 1 1, .map (some 8)]⟩], 9,
   gC ++ [(6, .cells true 6 [iP 2, iP 2, iP 2, iP 0, iP 0, iP 2, iP 2, iP 2, iP 1, iP 0]),
    (7, .cells true 0 [iP 0, iP 0, iP 8, iP 0]),
    (8, .map [⟨.agg ⟨[iP 0, iP 0]⟩, iP 0, 0⟩, ⟨.agg ⟨[iP 1, iP 0]⟩, iP 0, 1⟩, ⟨.agg ⟨[iP 0, iP 1]⟩, iP 0, 2⟩, ⟨.agg ⟨[iP 1, iP 1]⟩, iP 0, 3⟩] 4)],
   [],
   .bool false⟩
theorem bc36_h : bc36.holds EE := ent0 _ (by kernel_rfl) (by kernel_rfl)
-- (decani/candle.vestry).canBeTrue, 4225 steps
noncomputable def bc40 : Ent :=
  ⟨74, [.agg ⟨[iP 9, iP 10, iP 0, iP 0, iP 2, iP 3, iP 1, iP 1, .slice (some ⟨6, 0, none⟩) 2 18446744073709551616, .slice none 0 0, .slice (some ⟨7, 0, none⟩) 1 1, .map (some 8)]⟩], 9,
   gC ++ [(6, .cells true 6 [iP 2, iP 2, iP 2, iP 0, iP 0, iP 2, iP 2, iP 2, iP 1, iP 0]),
    (7, .cells true 0 [iP 0, iP 0, iP 7, iP 0]),
    (8, .map [⟨.agg ⟨[iP 0, iP 0]⟩, iP 0, 0⟩, ⟨.agg ⟨[iP 1, iP 0]⟩, iP 0, 1⟩, ⟨.agg ⟨[iP 0, iP 1]⟩, iP 0, 2⟩, ⟨.agg ⟨[iP 1, iP 1]⟩, iP 0, 3⟩] 4)],
   [],
   .bool false⟩
theorem bc40_h : bc40.holds EE := ent0 _ (by kernel_rfl) (by kernel_rfl)
-- (decani/candle.vestry).canBeTrue, 4024 steps
noncomputable def bc44 : Ent :=
  ⟨74, [.agg ⟨[iP 9, iP 10, iP 0, iP 0, iP 1, iP 2, iP 1, iP 1, .slice (some ⟨6, 0, none⟩) 2 18446744073709551616, .slice none 0 0, .slice (some ⟨7, 0, none⟩) 1 1, .map (some 8)]⟩], 9,
   gC ++ [(6, .cells true 6 [iP 2, iP 2, iP 2, iP 0, iP 0, iP 2, iP 2, iP 2, iP 1, iP 0]),
    (7, .cells true 0 [iP 0, iP 0, iP 10, iP 0]),
    (8, .map [⟨.agg ⟨[iP 0, iP 0]⟩, iP 0, 0⟩, ⟨.agg ⟨[iP 1, iP 0]⟩, iP 0, 1⟩, ⟨.agg ⟨[iP 0, iP 1]⟩, iP 0, 2⟩, ⟨.agg ⟨[iP 1, iP 1]⟩, iP 0, 3⟩] 4)],
   [],
   .bool true⟩
theorem bc44_h : bc44.holds EE := ent0 _ (by kernel_rfl) (by kernel_rfl)
-- (decani/candle.vestry).canBeTrue, 3829 steps
noncomputable def bc48 : Ent :=
  ⟨74, [.agg ⟨[iP 9, iP 10, iP 0, iP 0, iP 1, iP 1, iP 1, iP 1, .slice (some ⟨6, 0, none⟩) 2 18446744073709551616, .slice none 0 0, .slice (some ⟨7, 0, none⟩) 1 1, .map (some 8)]⟩], 9,
   gC ++ [(6, .cells true 6 [iP 2, iP 2, iP 2, iP 0, iP 0, iP 2, iP 2, iP 2, iP 1, iP 0]),
    (7, .cells true 0 [iP 1, iP 0, iP 10, iP 0]),
    (8, .map [⟨.agg ⟨[iP 0, iP 0]⟩, iP 0, 0⟩, ⟨.agg ⟨[iP 1, iP 0]⟩, iP 0, 1⟩, ⟨.agg ⟨[iP 0, iP 1]⟩, iP 0, 2⟩, ⟨.agg ⟨[iP 1, iP 1]⟩, iP 0, 3⟩] 4)],
   [],
   .bool false⟩
theorem bc48_h : bc48.holds EE := ent0 _ (by kernel_rfl) (by kernel_rfl)
-- (decani/candle.vestry).canBeTrue, 3829 steps
noncomputable def bc52 : Ent :=
  ⟨74, [.agg ⟨[iP 9, iP 10, iP 0, iP 0, iP 2, iP 2, iP 1, iP 1, .slice (some ⟨6, 0, none⟩) 2 18446744073709551616, .slice none 0 0, .slice (some ⟨7, 0, none⟩) 1 1, .map (some 8)]⟩], 9,
   gC ++ [(6, .cells true 6 [iP 2, iP 2, iP 2, iP 0, iP 0, iP 2, iP 2, iP 2, iP 1, iP 0]),
    (7, .cells true 0 [iP 1, iP 0, iP 7, iP 0]),
    (8, .map [⟨.agg ⟨[iP 0, iP 0]⟩, iP 0, 0⟩, ⟨.agg ⟨[iP 1, iP 0]⟩, iP 0, 1⟩, ⟨.agg ⟨[iP 0, iP 1]⟩, iP 0, 2⟩, ⟨.agg ⟨[iP 1, iP 1]⟩, iP 0, 3⟩] 4)],
   [],
   .bool false⟩
theorem bc52_h : bc52.holds EE := ent0 _ (by kernel_rfl) (by kernel_rfl)
-- (decani/candle.vestry).canBeTrue, 3826 steps
noncomputable def bc56 : Ent :=
  ⟨74, [.agg ⟨[iP 9, iP 10, iP 0, iP 0, iP 2, iP 2, iP 1, iP 1, .slice (some ⟨6, 0, none⟩) 2 18446744073709551616, .slice none 0 0, .slice (some ⟨7, 0, none⟩) 1 1, .map (some 8)]⟩], 9,
   gC ++ [(6, .cells true 6 [iP 2, iP 2, iP 2, iP 0, iP 0, iP 2, iP 2, iP 2, iP 1, iP 0]),
    (7, .cells true 0 [iP 1, iP 0, iP 9, iP 0]),
    (8, .map [⟨.agg ⟨[iP 0, iP 0]⟩, iP 0, 0⟩, ⟨.agg ⟨[iP 1, iP 0]⟩, iP 0, 1⟩, ⟨.agg ⟨[iP 0, iP 1]⟩, iP 0, 2⟩, ⟨.agg ⟨[iP 1, iP 1]⟩, iP 0, 3⟩] 4)],
   [],
   .bool true⟩
theorem bc56_h : bc56.holds EE := ent0 _ (by kernel_rfl) (by kernel_rfl)
-- (decani/cold.dormitory).canBeTrue, 3823 steps
noncomputable def bc60 : Ent :=
  ⟨71, [.agg ⟨[iP 2, iP 6, iP 1, iP 2, iP 1, iP 1, iP 1, iP 1, .slice none 0 0, iP 0, .slice (some ⟨6, 0, none⟩) 2 2, .map (some 7)]⟩], 8,
   gC ++ [(6, .cells true 0 [iP 0, iP 4, .bool true, iP 0, iP 3, .bool false]),
    (7, .map [] 0)],
   [],
   .bool false⟩
theorem bc60_h : bc60.holds EE := ent0 _ (by kernel_rfl) (by kernel_rfl)
-- (decani/cold.dormitory).canBeTrue, 3768 steps
noncomputable def bc64 : Ent :=
  ⟨71, [.agg ⟨[iP 2, iP 6, iP 1, iP 2, iP 1, iP 1, iP 2, iP 2, .slice none 0 0, iP 0, .slice (some ⟨6, 0, none⟩) 2 2, .map (some 7)]⟩], 8,
   gC ++ [(6, .cells true 0 [iP 1, iP 5, .bool true, iP 1, iP 4, .bool false]),
    (7, .map [] 0)],
   [],
   .bool true⟩
theorem bc64_h : bc64.holds EE := ent0 _ (by kernel_rfl) (by kernel_rfl)
-- (decani/candle.vestry).canBeTrue, 3633 steps
noncomputable def bc68 : Ent :=
  ⟨74, [.agg ⟨[iP 10, iP 10, iP 0, iP 0, iP 1, iP 2, iP 1, iP 1, .slice (some ⟨6, 0, none⟩) 2 18446744073709551616, .slice none 0 0, .slice (some ⟨7, 0, none⟩) 1 1, .map (some 8)]⟩], 9,
   gC ++ [(6, .cells true 6 [iP 2, iP 2, iP 2, iP 0, iP 0, iP 2, iP 2, iP 2, iP 1, iP 0]),
    (7, .cells true 0 [iP 1, iP 0, iP 7, iP 0]),
    (8, .map [⟨.agg ⟨[iP 0, iP 0]⟩, iP 0, 0⟩, ⟨.agg ⟨[iP 1, iP 0]⟩, iP 0, 1⟩, ⟨.agg ⟨[iP 0, iP 1]⟩, iP 0, 2⟩, ⟨.agg ⟨[iP 1, iP 1]⟩, iP 0, 3⟩] 4)],
   [],
   .bool false⟩
theorem bc68_h : bc68.holds EE := ent0 _ (by kernel_rfl) (by kernel_rfl)
-- (decani/candle.vestry).canBeTrue, 3633 steps
noncomputable def bc72 : Ent :=
  ⟨74, [.agg ⟨[iP 10, iP 10, iP 0, iP 0, iP 2, iP 3, iP 1, iP 1, .slice (some ⟨6, 0, none⟩) 2 18446744073709551616, .slice none 0 0, .slice (some ⟨7, 0, none⟩) 1 1, .map (some 8)]⟩], 9,
   gC ++ [(6, .cells true 6 [iP 2, iP 2, iP 2, iP 0, iP 0, iP 2, iP 2, iP 2, iP 1, iP 0]),
    (7, .cells true 0 [iP 1, iP 0, iP 7, iP 0]),
    (8, .map [⟨.agg ⟨[iP 0, iP 0]⟩, iP 0, 0⟩, ⟨.agg ⟨[iP 1, iP 0]⟩, iP 0, 1⟩, ⟨.agg ⟨[iP 0, iP 1]⟩, iP 0, 2⟩, ⟨.agg ⟨[iP 1, iP 1]⟩, iP 0, 3⟩] 4)],
   [],
   .bool false⟩
theorem bc72_h : bc72.holds EE := ent0 _ (by kernel_rfl) (by kernel_rfl)
-- (decani/candle.vestry).canBeTrue, 3630 steps
noncomputable def bc76 : Ent :=
  ⟨74, [.agg ⟨[iP 8, iP 10, iP 0, iP 0, iP 1, iP 2, iP 1, iP 1, .slice (some ⟨6, 0, none⟩) 2 18446744073709551616, .slice none 0 0, .slice (some ⟨7, 0, none⟩) 1 1, .map (some 8)]⟩], 9,
   gC ++ [(6, .cells true 6 [iP 2, iP 2, iP 2, iP 0, iP 0, iP 2, iP 2, iP 2, iP 1, iP 0]),
    (7, .cells true 0 [iP 1, iP 0, iP 7, iP 0]),
    (8, .map [⟨.agg ⟨[iP 0, iP 0]⟩, iP 0, 0⟩, ⟨.agg ⟨[iP 1, iP 0]⟩, iP 0, 1⟩, ⟨.agg ⟨[iP 0, iP 1]⟩, iP 0, 2⟩, ⟨.agg ⟨[iP 1, iP 1]⟩, iP 0, 3⟩] 4)],
   [],
   .bool true⟩
theorem bc76_h : bc76.holds EE := ent0 _ (by kernel_rfl) (by kernel_rfl)
-- (decani/candle.vestry).canBeTrue, 3492 steps
noncomputable def bc80 : Ent :=
  ⟨74, [.agg ⟨[iP 8, iP 10, iP 0, iP 0, iP 2, iP 2, iP 1, iP 1, .slice (some ⟨6, 0, none⟩) 2 18446744073709551616, .slice none 0 0, .slice (some ⟨7, 0, none⟩) 1 1, .map (some 8)]⟩], 9,
   gC ++ [(6, .cells true 6 [iP 2, iP 2, iP 2, iP 0, iP 0, iP 2, iP 2, iP 2, iP 1, iP 0]),
    (7, .cells true 0 [iP 0, iP 0, iP 6, iP 0]),
    (8, .map [⟨.agg ⟨[iP 0, iP 0]⟩, iP 0, 0⟩, ⟨.agg ⟨[iP 1, iP 0]⟩, iP 0, 1⟩, ⟨.agg ⟨[iP 0, iP 1]⟩, iP 0, 2⟩, ⟨.agg ⟨[iP 1, iP 1]⟩, iP 0, 3⟩] 4)],
   [],
   .bool false⟩
theorem bc80_h : bc80.holds EE := ent0 _ (by kernel_rfl) (by kernel_rfl)
-- (decani/candle.vestry).canBeTrue, 3095 steps
noncomputable def bc84 : Ent :=
  ⟨74, [.agg ⟨[iP 8, iP 10, iP 0, iP 0, iP 1, iP 1, iP 1, iP 1, .slice (some ⟨6, 0, none⟩) 2 18446744073709551616, .slice none 0 0, .slice (some ⟨7, 0, none⟩) 1 1, .map (some 8)]⟩], 9,
   gC ++ [(6, .cells true 6 [iP 2, iP 2, iP 2, iP 0, iP 0, iP 2, iP 2, iP 2, iP 1, iP 0]),
    (7, .cells true 0 [iP 0, iP 0, iP 9, iP 0]),
    (8, .map [⟨.agg ⟨[iP 0, iP 0]⟩, iP 0, 0⟩, ⟨.agg ⟨[iP 1, iP 0]⟩, iP 0, 1⟩, ⟨.agg ⟨[iP 0, iP 1]⟩, iP 0, 2⟩, ⟨.agg ⟨[iP 1, iP 1]⟩, iP 0, 3⟩] 4)],
   [],
   .bool true⟩
theorem bc84_h : bc84.holds EE := ent0 _ (by kernel_rfl) (by kernel_rfl)
-- (decani/cold.dormitory).canBeTrue, 2606 steps
noncomputable def bc88 : Ent :=
  ⟨71, [.agg ⟨[iP 2, iP 6, iP 1, iP 1, iP 1, iP 1, iP 2, iP 2, .slice none 0 0, iP 0, .slice (some ⟨6, 0, none⟩) 2 2, .map (some 7)]⟩], 8,
   gC ++ [(6, .cells true 0 [iP 0, iP 3, .bool true, iP 0, iP 2, .bool false]),
    (7, .map [] 0)],
   [],
   .bool false⟩
theorem bc88_h : bc88.holds EE := ent0 _ (by kernel_rfl) (by kernel_rfl)
-- (decani/cold.dormitory).canBeTrue, 2606 steps
noncomputable def bc92 : Ent :=
  ⟨71, [.agg ⟨[iP 2, iP 6, iP 1, iP 1, iP 1, iP 1, iP 1, iP 1, .slice none 0 0, iP 0, .slice (some ⟨6, 0, none⟩) 2 2, .map (some 7)]⟩], 8,
   gC ++ [(6, .cells true 0 [iP 0, iP 3, .bool true, iP 0, iP 2, .bool false]),
    (7, .map [] 0)],
   [],
   .bool false⟩
theorem bc92_h : bc92.holds EE := ent0 _ (by kernel_rfl) (by kernel_rfl)
-- (decani/cold.dormitory).canBeTrue, 2606 steps
noncomputable def bc96 : Ent :=
  ⟨71, [.agg ⟨[iP 2, iP 6, iP 1, iP 1, iP 1, iP 1, iP 1, iP 1, .slice none 0 0, iP 0, .slice (some ⟨6, 0, none⟩) 2 2, .map (some 7)]⟩], 8,
   gC ++ [(6, .cells true 0 [iP 1, iP 5, .bool true, iP 1, iP 4, .bool false]),
    (7, .map [] 0)],
   [],
   .bool false⟩
theorem bc96_h : bc96.holds EE := ent0 _ (by kernel_rfl) (by kernel_rfl)
-- (decani/cold.dormitory).canBeTrue, 2551 steps
noncomputable def bc100 : Ent :=
  ⟨71, [.agg ⟨[iP 2, iP 6, iP 1, iP 2, iP 1, iP 1, iP 2, iP 2, .slice none 0 0, iP 0, .slice (some ⟨6, 0, none⟩) 2 2, .map (some 7)]⟩], 8,
   gC ++ [(6, .cells true 0 [iP 1, iP 4, .bool true, iP 1, iP 3, .bool false]),
    (7, .map [] 0)],
   [],
   .bool true⟩
theorem bc100_h : bc100.holds EE := ent0 _ (by kernel_rfl) (by kernel_rfl)
-- (decani/cold.dormitory).canBeTrue, 2551 steps
noncomputable def bc104 : Ent :=
  ⟨71, [.agg ⟨[iP 2, iP 6, iP 1, iP 2, iP 1, iP 1, iP 1, iP 1, .slice none 0 0, iP 0, .slice (some ⟨6, 0, none⟩) 2 2, .map (some 7)]⟩], 8,
   gC ++ [(6, .cells true 0 [iP 1, iP 3, .bool true, iP 1, iP 2, .bool false]),
    (7, .map [] 0)],
   [],
   .bool true⟩
theorem bc104_h : bc104.holds EE := ent0 _ (by kernel_rfl) (by kernel_rfl)
-- (decani/candle.vestry).canBeTrue, 2367 steps
noncomputable def bc108 : Ent :=
  ⟨74, [.agg ⟨[iP 9, iP 10, iP 0, iP 0, iP 1, iP 1, iP 1, iP 1, .slice (some ⟨6, 0, none⟩) 2 18446744073709551616, .slice none 0 0, .slice (some ⟨7, 0, none⟩) 1 1, .map (some 8)]⟩], 9,
   gC ++ [(6, .cells true 6 [iP 2, iP 2, iP 2, iP 0, iP 0, iP 2, iP 2, iP 2, iP 1, iP 0]),
    (7, .cells true 0 [iP 0, iP 0, iP 7, iP 0]),
    (8, .map [⟨.agg ⟨[iP 0, iP 0]⟩, iP 0, 0⟩, ⟨.agg ⟨[iP 1, iP 0]⟩, iP 0, 1⟩, ⟨.agg ⟨[iP 0, iP 1]⟩, iP 0, 2⟩, ⟨.agg ⟨[iP 1, iP 1]⟩, iP 0, 3⟩] 4)],
   [],
   .bool false⟩
theorem bc108_h : bc108.holds EE := ent0 _ (by kernel_rfl) (by kernel_rfl)
-- (decani/candle.vestry).canBeTrue, 2367 steps
noncomputable def bc112 : Ent :=
  ⟨74, [.agg ⟨[iP 9, iP 10, iP 0, iP 0, iP 2, iP 2, iP 1, iP 1, .slice (some ⟨6, 0, none⟩) 2 18446744073709551616, .slice none 0 0, .slice (some ⟨7, 0, none⟩) 1 1, .map (some 8)]⟩], 9,
   gC ++ [(6, .cells true 6 [iP 2, iP 2, iP 2, iP 0, iP 0, iP 2, iP 2, iP 2, iP 1, iP 0]),
    (7, .cells true 0 [iP 0, iP 0, iP 6, iP 0]),
    (8, .map [⟨.agg ⟨[iP 0, iP 0]⟩, iP 0, 0⟩, ⟨.agg ⟨[iP 1, iP 0]⟩, iP 0, 1⟩, ⟨.agg ⟨[iP 0, iP 1]⟩, iP 0, 2⟩, ⟨.agg ⟨[iP 1, iP 1]⟩, iP 0, 3⟩] 4)],
   [],
   .bool false⟩
theorem bc112_h : bc112.holds EE := ent0 _ (by kernel_rfl) (by kernel_rfl)
-- (decani/cold.dormitory).canBeTrue, 2264 steps
noncomputable def bc118 : Ent :=
  ⟨71, [.agg ⟨[iP 2, iP 6, iP 1, iP 0, iP 1, iP 1, iP 1, iP 2, .slice none 0 0, iP 0, .slice (some ⟨6, 0, none⟩) 2 2, .map (some 7)]⟩], 8,
   gC ++ [(6, .cells true 0 [iP 1, iP 4, .bool true, iP 1, iP 3, .bool false]),
    (7, .map [] 0)],
   [],
   .bool false⟩
theorem bc118_h : bc118.holds EE := ent0 _ (by kernel_rfl) (by kernel_rfl)
-- (decani/cold.dormitory).canBeTrue, 2209 steps
noncomputable def bc122 : Ent :=
  ⟨71, [.agg ⟨[iP 2, iP 6, iP 1, iP 2, iP 1, iP 1, iP 1, iP 2, .slice none 0 0, iP 0, .slice (some ⟨6, 0, none⟩) 2 2, .map (some 7)]⟩], 8,
   gC ++ [(6, .cells true 0 [iP 1, iP 3, .bool true, iP 1, iP 2, .bool false]),
    (7, .map [] 0)],
   [],
   .bool true⟩
theorem bc122_h : bc122.holds EE := ent0 _ (by kernel_rfl) (by kernel_rfl)
-- (decani/candle.vestry).canBeTrue, 2171 steps
noncomputable def bc126 : Ent :=
  ⟨74, [.agg ⟨[iP 10, iP 10, iP 0, iP 0, iP 1, iP 2, iP 1, iP 1, .slice (some ⟨6, 0, none⟩) 2 18446744073709551616, .slice none 0 0, .slice (some ⟨7, 0, none⟩) 1 1, .map (some 8)]⟩], 9,
   gC ++ [(6, .cells true 6 [iP 2, iP 2, iP 2, iP 0, iP 0, iP 2, iP 2, iP 2, iP 1, iP 0]),
    (7, .cells true 0 [iP 0, iP 0, iP 7, iP 0]),
    (8, .map [⟨.agg ⟨[iP 0, iP 0]⟩, iP 0, 0⟩, ⟨.agg ⟨[iP 1, iP 0]⟩, iP 0, 1⟩, ⟨.agg ⟨[iP 0, iP 1]⟩, iP 0, 2⟩, ⟨.agg ⟨[iP 1, iP 1]⟩, iP 0, 3⟩] 4)],
   [],
   .bool false⟩
theorem bc126_h : bc126.holds EE := ent0 _ (by kernel_rfl) (by kernel_rfl)
-- (decani/candle.vestry).canBeTrue, 2171 steps
noncomputable def bc130 : Ent :=
  ⟨74, [.agg ⟨[iP 10, iP 10, iP 0, iP 0, iP 2, iP 3, iP 1, iP 1, .slice (some ⟨6, 0, none⟩) 2 18446744073709551616, .slice none 0 0, .slice (some ⟨7, 0, none⟩) 1 1, .map (some 8)]⟩], 9,
   gC ++ [(6, .cells true 6 [iP 2, iP 2, iP 2, iP 0, iP 0, iP 2, iP 2, iP 2, iP 1, iP 0]),
    (7, .cells true 0 [iP 0, iP 0, iP 7, iP 0]),
    (8, .map [⟨.agg ⟨[iP 0, iP 0]⟩, iP 0, 0⟩, ⟨.agg ⟨[iP 1, iP 0]⟩, iP 0, 1⟩, ⟨.agg ⟨[iP 0, iP 1]⟩, iP 0, 2⟩, ⟨.agg ⟨[iP 1, iP 1]⟩, iP 0, 3⟩] 4)],
   [],
   .bool false⟩
theorem bc130_h : bc130.holds EE := ent0 _ (by kernel_rfl) (by kernel_rfl)
-- (decani/candle.vestry).canBeTrue, 1973 steps
noncomputable def bc134 : Ent :=
  ⟨74, [.agg ⟨[iP 10, iP 10, iP 0, iP 0, iP 1, iP 1, iP 1, iP 1, .slice (some ⟨6, 0, none⟩) 2 18446744073709551616, .slice none 0 0, .slice (some ⟨7, 0, none⟩) 1 1, .map (some 8)]⟩], 9,
   gC ++ [(6, .cells true 6 [iP 2, iP 2, iP 2, iP 0, iP 0, iP 2, iP 2, iP 2, iP 1, iP 0]),
    (7, .cells true 0 [iP 1, iP 0, iP 9, iP 0]),
    (8, .map [⟨.agg ⟨[iP 0, iP 0]⟩, iP 0, 0⟩, ⟨.agg ⟨[iP 1, iP 0]⟩, iP 0, 1⟩, ⟨.agg ⟨[iP 0, iP 1]⟩, iP 0, 2⟩, ⟨.agg ⟨[iP 1, iP 1]⟩, iP 0, 3⟩] 4)],
   [],
   .bool false⟩
theorem bc134_h : bc134.holds EE := ent0 _ (by kernel_rfl) (by kernel_rfl)
-- (decani/candle.vestry).canBeTrue, 1973 steps
noncomputable def bc137 : Ent :=
  ⟨74, [.agg ⟨[iP 10, iP 10, iP 0, iP 0, iP 2, iP 2, iP 1, iP 1, .slice (some ⟨6, 0, none⟩) 2 18446744073709551616, .slice none 0 0, .slice (some ⟨7, 0, none⟩) 1 1, .map (some 8)]⟩], 9,
   gC ++ [(6, .cells true 6 [iP 2, iP 2, iP 2, iP 0, iP 0, iP 2, iP 2, iP 2, iP 1, iP 0]),
    (7, .cells true 0 [iP 1, iP 0, iP 10, iP 0]),
    (8, .map [⟨.agg ⟨[iP 0, iP 0]⟩, iP 0, 0⟩, ⟨.agg ⟨[iP 1, iP 0]⟩, iP 0, 1⟩, ⟨.agg ⟨[iP 0, iP 1]⟩, iP 0, 2⟩, ⟨.agg ⟨[iP 1, iP 1]⟩, iP 0, 3⟩] 4)],
   [],
   .bool false⟩
theorem bc137_h : bc137.holds EE := ent0 _ (by kernel_rfl) (by kernel_rfl)
-- (decani/candle.vestry).canBeTrue, 1970 steps
noncomputable def bc141 : Ent :=
  ⟨74, [.agg ⟨[iP 10, iP 10, iP 0, iP 0, iP 1, iP 1, iP 1, iP 1, .slice (some ⟨6, 0, none⟩) 2 18446744073709551616, .slice none 0 0, .slice (some ⟨7, 0, none⟩) 1 1, .map (some 8)]⟩], 9,
   gC ++ [(6, .cells true 6 [iP 2, iP 2, iP 2, iP 0, iP 0, iP 2, iP 2, iP 2, iP 1, iP 0]),
    (7, .cells true 0 [iP 0, iP 0, iP 10, iP 0]),
    (8, .map [⟨.agg ⟨[iP 0, iP 0]⟩, iP 0, 0⟩, ⟨.agg ⟨[iP 1, iP 0]⟩, iP 0, 1⟩, ⟨.agg ⟨[iP 0, iP 1]⟩, iP 0, 2⟩, ⟨.agg ⟨[iP 1, iP 1]⟩, iP 0, 3⟩] 4)],
   [],
   .bool true⟩
theorem bc141_h : bc141.holds EE := ent0 _ (by kernel_rfl) (by kernel_rfl)
-- (decani/candle.vestry).canBeTrue, 1970 steps
noncomputable def bc145 : Ent :=
  ⟨74, [.agg ⟨[iP 9, iP 10, iP 0, iP 0, iP 1, iP 1, iP 1, iP 1, .slice (some ⟨6, 0, none⟩) 2 18446744073709551616, .slice none 0 0, .slice (some ⟨7, 0, none⟩) 1 1, .map (some 8)]⟩], 9,
   gC ++ [(6, .cells true 6 [iP 2, iP 2, iP 2, iP 0, iP 0, iP 2, iP 2, iP 2, iP 1, iP 0]),
    (7, .cells true 0 [iP 0, iP 0, iP 9, iP 0]),
    (8, .map [⟨.agg ⟨[iP 0, iP 0]⟩, iP 0, 0⟩, ⟨.agg ⟨[iP 1, iP 0]⟩, iP 0, 1⟩, ⟨.agg ⟨[iP 0, iP 1]⟩, iP 0, 2⟩, ⟨.agg ⟨[iP 1, iP 1]⟩, iP 0, 3⟩] 4)],
   [],
   .bool true⟩
theorem bc145_h : bc145.holds EE := ent0 _ (by kernel_rfl) (by kernel_rfl)
-- (decani/candle.vestry).canBeTrue, 1970 steps
noncomputable def bc149 : Ent :=
  ⟨74, [.agg ⟨[iP 8, iP 10, iP 0, iP 0, iP 1, iP 1, iP 1, iP 1, .slice (some ⟨6, 0, none⟩) 2 18446744073709551616, .slice none 0 0, .slice (some ⟨7, 0, none⟩) 1 1, .map (some 8)]⟩], 9,
   gC ++ [(6, .cells true 6 [iP 2, iP 2, iP 2, iP 0, iP 0, iP 2, iP 2, iP 2, iP 1, iP 0]),
    (7, .cells true 0 [iP 0, iP 0, iP 8, iP 0]),
    (8, .map [⟨.agg ⟨[iP 0, iP 0]⟩, iP 0, 0⟩, ⟨.agg ⟨[iP 1, iP 0]⟩, iP 0, 1⟩, ⟨.agg ⟨[iP 0, iP 1]⟩, iP 0, 2⟩, ⟨.agg ⟨[iP 1, iP 1]⟩, iP 0, 3⟩] 4)],
   [],
   .bool true⟩
theorem bc149_h : bc149.holds EE := ent0 _ (by kernel_rfl) (by kernel_rfl)
-- (decani/candle.vestry).canBeTrue, 1970 steps
noncomputable def bc153 : Ent :=
  ⟨74, [.agg ⟨[iP 10, iP 10, iP 0, iP 0, iP 2, iP 2, iP 1, iP 1, .slice (some ⟨6, 0, none⟩) 2 18446744073709551616, .slice none 0 0, .slice (some ⟨7, 0, none⟩) 1 1, .map (some 8)]⟩], 9,
   gC ++ [(6, .cells true 6 [iP 2, iP 2, iP 2, iP 0, iP 0, iP 2, iP 2, iP 2, iP 1, iP 0]),
    (7, .cells true 0 [iP 0, iP 0, iP 10, iP 0]),
    (8, .map [⟨.agg ⟨[iP 0, iP 0]⟩, iP 0, 0⟩, ⟨.agg ⟨[iP 1, iP 0]⟩, iP 0, 1⟩, ⟨.agg ⟨[iP 0, iP 1]⟩, iP 0, 2⟩, ⟨.agg ⟨[iP 1, iP 1]⟩, iP 0, 3⟩] 4)],
   [],
   .bool true⟩
theorem bc153_h : bc153.holds EE := ent0 _ (by kernel_rfl) (by kernel_rfl)
-- (decani/candle.vestry).canBeTrue, 1970 steps
noncomputable def bc157 : Ent :=
  ⟨74, [.agg ⟨[iP 9, iP 10, iP 0, iP 0, iP 2, iP 2, iP 1, iP 1, .slice (some ⟨6, 0, none⟩) 2 18446744073709551616, .slice none 0 0, .slice (some ⟨7, 0, none⟩) 1 1, .map (some 8)]⟩], 9,
   gC ++ [(6, .cells true 6 [iP 2, iP 2, iP 2, iP 0, iP 0, iP 2, iP 2, iP 2, iP 1, iP 0]),
    (7, .cells true 0 [iP 0, iP 0, iP 9, iP 0]),
    (8, .map [⟨.agg ⟨[iP 0, iP 0]⟩, iP 0, 0⟩, ⟨.agg ⟨[iP 1, iP 0]⟩, iP 0, 1⟩, ⟨.agg ⟨[iP 0, iP 1]⟩, iP 0, 2⟩, ⟨.agg ⟨[iP 1, iP 1]⟩, iP 0, 3⟩] 4)],
   [],
   .bool true⟩
theorem bc157_h : bc157.holds EE := ent0 _ (by kernel_rfl) (by kernel_rfl)
-- (decani/candle.vestry).canBeTrue, 1970 steps
noncomputable def bc161 : Ent :=
  ⟨74, [.agg ⟨[iP 8, iP 10, iP 0, iP 0, iP 2, iP 2, iP 1, iP 1, .slice (some ⟨6, 0, none⟩) 2 18446744073709551616, .slice none 0 0, .slice (some ⟨7, 0, none⟩) 1 1, .map (some 8)]⟩], 9,
   gC ++ [(6, .cells true 6 [iP 2, iP 2, iP 2, iP 0, iP 0, iP 2, iP 2, iP 2, iP 1, iP 0]),
    (7, .cells true 0 [iP 0, iP 0, iP 8, iP 0]),
    (8, .map [⟨.agg ⟨[iP 0, iP 0]⟩, iP 0, 0⟩, ⟨.agg ⟨[iP 1, iP 0]⟩, iP 0, 1⟩, ⟨.agg ⟨[iP 0, iP 1]⟩, iP 0, 2⟩, ⟨.agg ⟨[iP 1, iP 1]⟩, iP 0, 3⟩] 4)],
   [],
   .bool true⟩
theorem bc161_h : bc161.holds EE := ent0 _ (by kernel_rfl) (by kernel_rfl)
-- (decani/candle.vestry).canBeTrue, 1847 steps
noncomputable def bc165 : Ent :=
  ⟨74, [.agg ⟨[iP 10, iP 10, iP 0, iP 0, iP 1, iP 1, iP 1, iP 1, .slice (some ⟨6, 0, none⟩) 2 18446744073709551616, .slice none 0 0, .slice none 0 0, .map (some 7)]⟩], 8,
   gC ++ [(6, .cells true 6 [iP 2, iP 2, iP 2, iP 0, iP 0, iP 2, iP 2, iP 2, iP 1, iP 0]),
    (7, .map [⟨.agg ⟨[iP 0, iP 0]⟩, iP 0, 0⟩, ⟨.agg ⟨[iP 1, iP 0]⟩, iP 0, 1⟩, ⟨.agg ⟨[iP 0, iP 1]⟩, iP 0, 2⟩, ⟨.agg ⟨[iP 1, iP 1]⟩, iP 0, 3⟩] 4)],
   [],
   .bool true⟩
theorem bc165_h : bc165.holds EE := ent0 _ (by kernel_rfl) (by kernel_rfl)
-- (decani/candle.vestry).canBeTrue, 1847 steps
noncomputable def bc168 : Ent :=
  ⟨74, [.agg ⟨[iP 9, iP 10, iP 0, iP 0, iP 1, iP 2, iP 1, iP 1, .slice (some ⟨6, 0, none⟩) 2 18446744073709551616, .slice none 0 0, .slice none 0 0, .map (some 7)]⟩], 8,
   gC ++ [(6, .cells true 6 [iP 2, iP 2, iP 2, iP 0, iP 0, iP 2, iP 2, iP 2, iP 1, iP 0]),
    (7, .map [⟨.agg ⟨[iP 0, iP 0]⟩, iP 0, 0⟩, ⟨.agg ⟨[iP 1, iP 0]⟩, iP 0, 1⟩, ⟨.agg ⟨[iP 0, iP 1]⟩, iP 0, 2⟩, ⟨.agg ⟨[iP 1, iP 1]⟩, iP 0, 3⟩] 4)],
   [],
   .bool true⟩
theorem bc168_h : bc168.holds EE := ent0 _ (by kernel_rfl) (by kernel_rfl)
-- (decani/candle.vestry).canBeTrue, 1847 steps
noncomputable def bc172 : Ent :=
  ⟨74, [.agg ⟨[iP 10, iP 10, iP 0, iP 0, iP 2, iP 3, iP 1, iP 1, .slice (some ⟨6, 0, none⟩) 2 18446744073709551616, .slice none 0 0, .slice none 0 0, .map (some 7)]⟩], 8,
   gC ++ [(6, .cells true 6 [iP 2, iP 2, iP 2, iP 0, iP 0, iP 2, iP 2, iP 2, iP 1, iP 0]),
    (7, .map [⟨.agg ⟨[iP 0, iP 0]⟩, iP 0, 0⟩, ⟨.agg ⟨[iP 1, iP 0]⟩, iP 0, 1⟩, ⟨.agg ⟨[iP 0, iP 1]⟩, iP 0, 2⟩, ⟨.agg ⟨[iP 1, iP 1]⟩, iP 0, 3⟩] 4)],
   [],
   .bool true⟩
theorem bc172_h : bc172.holds EE := ent0 _ (by kernel_rfl) (by kernel_rfl)
-- (decani/candle.vestry).canBeTrue, 1847 steps
noncomputable def bc176 : Ent :=
  ⟨74, [.agg ⟨[iP 8, iP 10, iP 0, iP 0, iP 2, iP 3, iP 1, iP 1, .slice (some ⟨6, 0, none⟩) 2 18446744073709551616, .slice none 0 0, .slice none 0 0, .map (some 7)]⟩], 8,
   gC ++ [(6, .cells true 6 [iP 2, iP 2, iP 2, iP 0, iP 0, iP 2, iP 2, iP 2, iP 1, iP 0]),
    (7, .map [⟨.agg ⟨[iP 0, iP 0]⟩, iP 0, 0⟩, ⟨.agg ⟨[iP 1, iP 0]⟩, iP 0, 1⟩, ⟨.agg ⟨[iP 0, iP 1]⟩, iP 0, 2⟩, ⟨.agg ⟨[iP 1, iP 1]⟩, iP 0, 3⟩] 4)],
   [],
   .bool true⟩
theorem bc176_h : bc176.holds EE := ent0 _ (by kernel_rfl) (by kernel_rfl)
-- (decani/cold.dormitory).canBeTrue, 1389 steps
noncomputable def bc183 : Ent :=
  ⟨71, [.agg ⟨[iP 2, iP 6, iP 1, iP 0, iP 1, iP 1, iP 2, iP 2, .slice none 0 0, iP 0, .slice (some ⟨6, 0, none⟩) 2 2, .map (some 7)]⟩], 8,
   gC ++ [(6, .cells true 0 [iP 0, iP 4, .bool true, iP 0, iP 3, .bool false]),
    (7, .map [] 0)],
   [],
   .bool false⟩
theorem bc183_h : bc183.holds EE := ent0 _ (by kernel_rfl) (by kernel_rfl)
-- (decani/cold.dormitory).canBeTrue, 1389 steps
noncomputable def bc187 : Ent :=
  ⟨71, [.agg ⟨[iP 2, iP 6, iP 1, iP 0, iP 1, iP 1, iP 1, iP 1, .slice none 0 0, iP 0, .slice (some ⟨6, 0, none⟩) 2 2, .map (some 7)]⟩], 8,
   gC ++ [(6, .cells true 0 [iP 0, iP 2, .bool true, iP 0, iP 1, .bool false]),
    (7, .map [] 0)],
   [],
   .bool false⟩
theorem bc187_h : bc187.holds EE := ent0 _ (by kernel_rfl) (by kernel_rfl)
-- (decani/cold.dormitory).canBeTrue, 1389 steps
noncomputable def bc191 : Ent :=
  ⟨71, [.agg ⟨[iP 2, iP 6, iP 1, iP 0, iP 1, iP 1, iP 1, iP 1, .slice none 0 0, iP 0, .slice (some ⟨6, 0, none⟩) 2 2, .map (some 7)]⟩], 8,
   gC ++ [(6, .cells true 0 [iP 1, iP 3, .bool true, iP 1, iP 2, .bool false]),
    (7, .map [] 0)],
   [],
   .bool false⟩
theorem bc191_h : bc191.holds EE := ent0 _ (by kernel_rfl) (by kernel_rfl)
-- (decani/cold.dormitory).canBeTrue, 1334 steps
noncomputable def bc195 : Ent :=
  ⟨71, [.agg ⟨[iP 2, iP 6, iP 1, iP 0, iP 1, iP 1, iP 2, iP 2, .slice none 0 0, iP 0, .slice (some ⟨6, 0, none⟩) 2 2, .map (some 7)]⟩], 8,
   gC ++ [(6, .cells true 0 [iP 1, iP 3, .bool true, iP 1, iP 2, .bool false]),
    (7, .map [] 0)],
   [],
   .bool true⟩
theorem bc195_h : bc195.holds EE := ent0 _ (by kernel_rfl) (by kernel_rfl)
-- (decani/cold.dormitory).canBeTrue, 1334 steps
noncomputable def bc199 : Ent :=
  ⟨71, [.agg ⟨[iP 2, iP 6, iP 1, iP 1, iP 1, iP 1, iP 2, iP 2, .slice none 0 0, iP 0, .slice (some ⟨6, 0, none⟩) 2 2, .map (some 7)]⟩], 8,
   gC ++ [(6, .cells true 0 [iP 1, iP 3, .bool true, iP 1, iP 2, .bool false]),
    (7, .map [] 0)],
   [],
   .bool true⟩
theorem bc199_h : bc199.holds EE := ent0 _ (by kernel_rfl) (by kernel_rfl)
-- (decani/cold.dormitory).canBeTrue, 1334 steps
noncomputable def bc203 : Ent :=
  ⟨71, [.agg ⟨[iP 2, iP 6, iP 1, iP 2, iP 1, iP 1, iP 2, iP 2, .slice none 0 0, iP 0, .slice (some ⟨6, 0, none⟩) 2 2, .map (some 7)]⟩], 8,
   gC ++ [(6, .cells true 0 [iP 1, iP 3, .bool true, iP 1, iP 2, .bool false]),
    (7, .map [] 0)],
   [],
   .bool true⟩
theorem bc203_h : bc203.holds EE := ent0 _ (by kernel_rfl) (by kernel_rfl)
-- (decani/cold.dormitory).canBeTrue, 1334 steps
noncomputable def bc207 : Ent :=
  ⟨71, [.agg ⟨[iP 2, iP 6, iP 1, iP 0, iP 1, iP 1, iP 1, iP 1, .slice none 0 0, iP 0, .slice (some ⟨6, 0, none⟩) 2 2, .map (some 7)]⟩], 8,
   gC ++ [(6, .cells true 0 [iP 1, iP 2, .bool true, iP 1, iP 1, .bool false]),
    (7, .map [] 0)],
   [],
   .bool true⟩
theorem bc207_h : bc207.holds EE := ent0 _ (by kernel_rfl) (by kernel_rfl)
-- (decani/cold.dormitory).canBeTrue, 1334 steps
noncomputable def bc211 : Ent :=
  ⟨71, [.agg ⟨[iP 2, iP 6, iP 1, iP 2, iP 1, iP 1, iP 1, iP 1, .slice none 0 0, iP 0, .slice (some ⟨6, 0, none⟩) 2 2, .map (some 7)]⟩], 8,
   gC ++ [(6, .cells true 0 [iP 1, iP 2, .bool true, iP 1, iP 1, .bool false]),
    (7, .map [] 0)],
   [],
   .bool true⟩
theorem bc211_h : bc211.holds EE := ent0 _ (by kernel_rfl) (by kernel_rfl)
-- (decani/candle.vestry).canBeTrue, 1242 steps
noncomputable def bc215 : Ent :=
  ⟨74, [.agg ⟨[iP 10, iP 10, iP 0, iP 0, iP 1, iP 1, iP 1, iP 1, .slice (some ⟨6, 0, none⟩) 2 18446744073709551616, .slice none 0 0, .slice (some ⟨7, 0, none⟩) 1 1, .map (some 8)]⟩], 9,
   gC ++ [(6, .cells true 6 [iP 2, iP 2, iP 2, iP 0, iP 0, iP 2, iP 2, iP 2, iP 1, iP 0]),
    (7, .cells true 0 [iP 0, iP 0, iP 9, iP 0]),
    (8, .map [⟨.agg ⟨[iP 0, iP 0]⟩, iP 0, 0⟩, ⟨.agg ⟨[iP 1, iP 0]⟩, iP 0, 1⟩, ⟨.agg ⟨[iP 0, iP 1]⟩, iP 0, 2⟩, ⟨.agg ⟨[iP 1, iP 1]⟩, iP 0, 3⟩] 4)],
   [],
   .bool false⟩
theorem bc215_h : bc215.holds EE := ent0 _ (by kernel_rfl) (by kernel_rfl)
-- (decani/candle.vestry).canBeTrue, 1242 steps
noncomputable def bc219 : Ent :=
  ⟨74, [.agg ⟨[iP 10, iP 10, iP 0, iP 0, iP 2, iP 2, iP 1, iP 1, .slice (some ⟨6, 0, none⟩) 2 18446744073709551616, .slice none 0 0, .slice (some ⟨7, 0, none⟩) 1 1, .map (some 8)]⟩], 9,
   gC ++ [(6, .cells true 6 [iP 2, iP 2, iP 2, iP 0, iP 0, iP 2, iP 2, iP 2, iP 1, iP 0]),
    (7, .cells true 0 [iP 0, iP 0, iP 9, iP 0]),
    (8, .map [⟨.agg ⟨[iP 0, iP 0]⟩, iP 0, 0⟩, ⟨.agg ⟨[iP 1, iP 0]⟩, iP 0, 1⟩, ⟨.agg ⟨[iP 0, iP 1]⟩, iP 0, 2⟩, ⟨.agg ⟨[iP 1, iP 1]⟩, iP 0, 3⟩] 4)],
   [],
   .bool false⟩
theorem bc219_h : bc219.holds EE := ent0 _ (by kernel_rfl) (by kernel_rfl)
-- (decani/cold.dormitory).canBeTrue, 1070 steps
noncomputable def bc223 : Ent :=
  ⟨71, [.agg ⟨[iP 2, iP 6, iP 1, iP 1, iP 1, iP 1, iP 1, iP 2, .slice none 0 0, iP 0, .slice none 0 0, .map (some 6)]⟩], 7,
   gC ++ [(6, .map [] 0)],
   [],
   .bool true⟩
theorem bc223_h : bc223.holds EE := ent0 _ (by kernel_rfl) (by kernel_rfl)
-- (decani/cold.dormitory).canBeTrue, 1070 steps
noncomputable def bc225 : Ent :=
  ⟨71, [.agg ⟨[iP 2, iP 6, iP 1, iP 0, iP 1, iP 1, iP 1, iP 2, .slice none 0 0, iP 0, .slice none 0 0, .map (some 6)]⟩], 7,
   gC ++ [(6, .map [] 0)],
   [],
   .bool true⟩
theorem bc225_h : bc225.holds EE := ent0 _ (by kernel_rfl) (by kernel_rfl)
-- (decani/cold.dormitory).canBeTrue, 1070 steps
noncomputable def bc229 : Ent :=
  ⟨71, [.agg ⟨[iP 2, iP 6, iP 1, iP 0, iP 1, iP 1, iP 1, iP 1, .slice none 0 0, iP 0, .slice none 0 0, .map (some 6)]⟩], 7,
   gC ++ [(6, .map [] 0)],
   [],
   .bool true⟩
theorem bc229_h : bc229.holds EE := ent0 _ (by kernel_rfl) (by kernel_rfl)
end Go.Proofs.YtmjpnohpmfmdlaaGreatDoor
