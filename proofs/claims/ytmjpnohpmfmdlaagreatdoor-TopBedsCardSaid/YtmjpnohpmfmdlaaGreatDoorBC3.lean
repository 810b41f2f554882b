/- Known calls, part 3: what single calls hand back, at small heaps, by the kernel's own run of the evaluator. No conditions. -/
import Derived.Test.YtmjpnohpmfmdlaaGreatDoorBG
set_option linter.all false
namespace Go.Proofs.YtmjpnohpmfmdlaaGreatDoor
open Go.Ai
set_option maxRecDepth 1000000
-- (decani/candle.vestry).canBeTrue, 10662 steps
noncomputable def bc3 : Ent :=
  ⟨74, [.agg ⟨[iP 8, iP 10, iP 0, iP 0, iP 1, iP 2, iP 1, iP 1, .slice (some ⟨6, 0, none⟩) 2 18446744073709551616, .slice none 0 0, .slice (some ⟨7, 0, none⟩) 1 1, .map (some 8)]⟩], 9,
   gC ++ [(6, .cells true 6 [iP 2, iP 2, iP 2, iP 0, iP 0, iP 2, iP 2, iP 2, iP 1, iP 0]),
    (7, .cells true 0 [iP 1, iP 0, iP 9, iP 0]),
    (8, .map [⟨.agg ⟨[iP 0, iP 0]⟩, iP 0, 0⟩, ⟨.agg ⟨[iP 1, iP 0]⟩, iP 0, 1⟩, ⟨.agg ⟨[iP 0, iP 1]⟩, iP 0, 2⟩, ⟨.agg ⟨[iP 1, iP 1]⟩, iP 0, 3⟩] 4)],
   [],
   .bool true⟩
theorem bc3_h : bc3.holds EE := ent0 _ (by kernel_rfl) (by kernel_rfl)
-- (decani/candle.vestry).canBeTrue, 9002 steps
noncomputable def bc4 : Ent :=
  ⟨74, [.agg ⟨[iP 8, iP 10, iP 0, iP 0, iP 2, iP 3, iP 1, iP 1, .slice (some ⟨6, 0, none⟩) 2 18446744073709551616, .slice none 0 0, .slice (some ⟨7, 0, none⟩) 1 1, .map (some 8)]⟩], 9,
   gC ++ [(6, .cells true 6 [iP 2, iP 2, iP 2, iP 0, iP 0, iP 2, iP 2, iP 2, iP 1, iP 0]),
    (7, .cells true 0 [iP 1, iP 0, iP 9, iP 0]),
    (8, .map [⟨.agg ⟨[iP 0, iP 0]⟩, iP 0, 0⟩, ⟨.agg ⟨[iP 1, iP 0]⟩, iP 0, 1⟩, ⟨.agg ⟨[iP 0, iP 1]⟩, iP 0, 2⟩, ⟨.agg ⟨[iP 1, iP 1]⟩, iP 0, 3⟩] 4)],
   [],
   .bool true⟩
theorem bc4_h : bc4.holds EE := ent0 _ (by kernel_rfl) (by kernel_rfl)
-- (decani/candle.vestry).canBeTrue, 7146 steps
noncomputable def bc11 : Ent :=
  ⟨74, [.agg ⟨[iP 8, iP 10, iP 0, iP 0, iP 1, iP 2, iP 1, iP 1, .slice (some ⟨6, 0, none⟩) 2 18446744073709551616, .slice none 0 0, .slice (some ⟨7, 0, none⟩) 1 1, .map (some 8)]⟩], 9,
   gC ++ [(6, .cells true 6 [iP 2, iP 2, iP 2, iP 0, iP 0, iP 2, iP 2, iP 2, iP 1, iP 0]),
    (7, .cells true 0 [iP 1, iP 0, iP 8, iP 0]),
    (8, .map [⟨.agg ⟨[iP 0, iP 0]⟩, iP 0, 0⟩, ⟨.agg ⟨[iP 1, iP 0]⟩, iP 0, 1⟩, ⟨.agg ⟨[iP 0, iP 1]⟩, iP 0, 2⟩, ⟨.agg ⟨[iP 1, iP 1]⟩, iP 0, 3⟩] 4)],
   [],
   .bool true⟩
theorem bc11_h : bc11.holds EE := ent0 _ (by kernel_rfl) (by kernel_rfl)
-- (decani/candle.vestry).canBeTrue, 6279 steps
noncomputable def bc15 : Ent :=
  ⟨74, [.agg ⟨[iP 8, iP 10, iP 0, iP 0, iP 1, iP 2, iP 1, iP 1, .slice (some ⟨6, 0, none⟩) 2 18446744073709551616, .slice none 0 0, .slice (some ⟨7, 0, none⟩) 1 1, .map (some 8)]⟩], 9,
   gC ++ [(6, .cells true 6 [iP 2, iP 2, iP 2, iP 0, iP 0, iP 2, iP 2, iP 2, iP 1, iP 0]),
    (7, .cells true 0 [iP 0, iP 0, iP 7, iP 0]),
    (8, .map [⟨.agg ⟨[iP 0, iP 0]⟩, iP 0, 0⟩, ⟨.agg ⟨[iP 1, iP 0]⟩, iP 0, 1⟩, ⟨.agg ⟨[iP 0, iP 1]⟩, iP 0, 2⟩, ⟨.agg ⟨[iP 1, iP 1]⟩, iP 0, 3⟩] 4)],
   [],
   .bool false⟩
theorem bc15_h : bc15.holds EE := ent0 _ (by kernel_rfl) (by kernel_rfl)
-- (decani/candle.vestry).canBeTrue, 6078 steps
noncomputable def bc19 : Ent :=
  ⟨74, [.agg ⟨[iP 8, iP 10, iP 0, iP 0, iP 1, iP 2, iP 1, iP 1, .slice (some ⟨6, 0, none⟩) 2 18446744073709551616, .slice none 0 0, .slice (some ⟨7, 0, none⟩) 1 1, .map (some 8)]⟩], 9,
   gC ++ [(6, .cells true 6 [iP 2, iP 2, iP 2, iP 0, iP 0, iP 2, iP 2, iP 2, iP 1, iP 0]),
    (7, .cells true 0 [iP 0, iP 0, iP 10, iP 0]),
    (8, .map [⟨.agg ⟨[iP 0, iP 0]⟩, iP 0, 0⟩, ⟨.agg ⟨[iP 1, iP 0]⟩, iP 0, 1⟩, ⟨.agg ⟨[iP 0, iP 1]⟩, iP 0, 2⟩, ⟨.agg ⟨[iP 1, iP 1]⟩, iP 0, 3⟩] 4)],
   [],
   .bool true⟩
theorem bc19_h : bc19.holds EE := ent0 _ (by kernel_rfl) (by kernel_rfl)
-- (decani/candle.vestry).canBeTrue, 5685 steps
noncomputable def bc23 : Ent :=
  ⟨74, [.agg ⟨[iP 8, iP 10, iP 0, iP 0, iP 2, iP 2, iP 1, iP 1, .slice (some ⟨6, 0, none⟩) 2 18446744073709551616, .slice none 0 0, .slice (some ⟨7, 0, none⟩) 1 1, .map (some 8)]⟩], 9,
   gC ++ [(6, .cells true 6 [iP 2, iP 2, iP 2, iP 0, iP 0, iP 2, iP 2, iP 2, iP 1, iP 0]),
    (7, .cells true 0 [iP 1, iP 0, iP 10, iP 0]),
    (8, .map [⟨.agg ⟨[iP 0, iP 0]⟩, iP 0, 0⟩, ⟨.agg ⟨[iP 1, iP 0]⟩, iP 0, 1⟩, ⟨.agg ⟨[iP 0, iP 1]⟩, iP 0, 2⟩, ⟨.agg ⟨[iP 1, iP 1]⟩, iP 0, 3⟩] 4)],
   [],
   .bool false⟩
theorem bc23_h : bc23.holds EE := ent0 _ (by kernel_rfl) (by kernel_rfl)
-- (decani/cold.dormitory).canBeTrue, 5518 steps
noncomputable def bc27 : Ent :=
  ⟨71, [.agg ⟨[iP 2, iP 6, iP 1, iP 2, iP 1, iP 1, iP 1, iP 2, .slice none 0 0, iP 0, .slice (some ⟨6, 0, none⟩) 2 2, .map (some 7)]⟩], 8,
   gC ++ [(6, .cells true 0 [iP 0, iP 3, .bool true, iP 0, iP 2, .bool false]),
    (7, .map [] 0)],
   [],
   .bool true⟩
theorem bc27_h : bc27.holds EE := ent0 _ (by kernel_rfl) (by kernel_rfl)
-- (decani/cold.dormitory).canBeTrue, 4356 steps
noncomputable def bc31 : Ent :=
  ⟨71, [.agg ⟨[iP 2, iP 6, iP 1, iP 1, iP 1, iP 1, iP 1, iP 2, .slice none 0 0, iP 0, .slice (some ⟨6, 0, none⟩) 2 2, .map (some 7)]⟩], 8,
   gC ++ [(6, .cells true 0 [iP 0, iP 4, .bool true, iP 0, iP 3, .bool false]),
    (7, .map [] 0)],
   [],
   .bool false⟩
theorem bc31_h : bc31.holds EE := ent0 _ (by kernel_rfl) (by kernel_rfl)
-- (decani/cold.dormitory).canBeTrue, 4301 steps
noncomputable def bc35 : Ent :=
  ⟨71, [.agg ⟨[iP 2, iP 6, iP 1, iP 2, iP 1, iP 1, iP 1, iP 2, .slice none 0 0, iP 0, .slice (some ⟨6, 0, none⟩) 2 2, .map (some 7)]⟩], 8,
   gC ++ [(6, .cells true 0 [iP 1, iP 4, .bool true, iP 1, iP 3, .bool false]),
    (7, .map [] 0)],
   [],
   .bool true⟩
theorem bc35_h : bc35.holds EE := ent0 _ (by kernel_rfl) (by kernel_rfl)
-- (decani/candle.vestry).canBeTrue, 4225 steps
noncomputable def bc39 : Ent :=
  ⟨74, [.agg ⟨[iP 9, iP 10, iP 0, iP 0, iP 2, iP 3, iP 1, iP 1, .slice (some ⟨6, 0, none⟩) 2 18446744073709551616, .slice none 0 0, .slice (some ⟨7, 0, none⟩) 1 1, .map (some 8)]⟩], 9,
   gC ++ [(6, .cells true 6 [iP 2, iP 2, iP 2, iP 0, iP 0, iP 2, iP 2, iP 2, iP 1, iP 0]),
    (7, .cells true 0 [iP 0, iP 0, iP 8, iP 0]),
    (8, .map [⟨.agg ⟨[iP 0, iP 0]⟩, iP 0, 0⟩, ⟨.agg ⟨[iP 1, iP 0]⟩, iP 0, 1⟩, ⟨.agg ⟨[iP 0, iP 1]⟩, iP 0, 2⟩, ⟨.agg ⟨[iP 1, iP 1]⟩, iP 0, 3⟩] 4)],
   [],
   .bool false⟩
theorem bc39_h : bc39.holds EE := ent0 _ (by kernel_rfl) (by kernel_rfl)
-- (decani/candle.vestry).canBeTrue, 4220 steps
noncomputable def bc43 : Ent :=
  ⟨74, [.agg ⟨[iP 8, iP 10, iP 0, iP 0, iP 2, iP 2, iP 1, iP 1, .slice (some ⟨6, 0, none⟩) 2 18446744073709551616, .slice none 0 0, .slice (some ⟨7, 0, none⟩) 1 1, .map (some 8)]⟩], 9,
   gC ++ [(6, .cells true 6 [iP 2, iP 2, iP 2, iP 0, iP 0, iP 2, iP 2, iP 2, iP 1, iP 0]),
    (7, .cells true 0 [iP 0, iP 0, iP 10, iP 0]),
    (8, .map [⟨.agg ⟨[iP 0, iP 0]⟩, iP 0, 0⟩, ⟨.agg ⟨[iP 1, iP 0]⟩, iP 0, 1⟩, ⟨.agg ⟨[iP 0, iP 1]⟩, iP 0, 2⟩, ⟨.agg ⟨[iP 1, iP 1]⟩, iP 0, 3⟩] 4)],
   [],
   .bool true⟩
theorem bc43_h : bc43.holds EE := ent0 _ (by kernel_rfl) (by kernel_rfl)
-- (decani/candle.vestry).canBeTrue, 4024 steps
noncomputable def bc47 : Ent :=
  ⟨74, [.agg ⟨[iP 8, iP 10, iP 0, iP 0, iP 2, iP 3, iP 1, iP 1, .slice (some ⟨6, 0, none⟩) 2 18446744073709551616, .slice none 0 0, .slice (some ⟨7, 0, none⟩) 1 1, .map (some 8)]⟩], 9,
   gC ++ [(6, .cells true 6 [iP 2, iP 2, iP 2, iP 0, iP 0, iP 2, iP 2, iP 2, iP 1, iP 0]),
    (7, .cells true 0 [iP 0, iP 0, iP 9, iP 0]),
    (8, .map [⟨.agg ⟨[iP 0, iP 0]⟩, iP 0, 0⟩, ⟨.agg ⟨[iP 1, iP 0]⟩, iP 0, 1⟩, ⟨.agg ⟨[iP 0, iP 1]⟩, iP 0, 2⟩, ⟨.agg ⟨[iP 1, iP 1]⟩, iP 0, 3⟩] 4)],
   [],
   .bool true⟩
theorem bc47_h : bc47.holds EE := ent0 _ (by kernel_rfl) (by kernel_rfl)
-- (decani/candle.vestry).canBeTrue, 3829 steps
noncomputable def bc51 : Ent :=
  ⟨74, [.agg ⟨[iP 9, iP 10, iP 0, iP 0, iP 2, iP 2, iP 1, iP 1, .slice (some ⟨6, 0, none⟩) 2 18446744073709551616, .slice none 0 0, .slice (some ⟨7, 0, none⟩) 1 1, .map (some 8)]⟩], 9,
   gC ++ [(6, .cells true 6 [iP 2, iP 2, iP 2, iP 0, iP 0, iP 2, iP 2, iP 2, iP 1, iP 0]),
    (7, .cells true 0 [iP 1, iP 0, iP 10, iP 0]),
    (8, .map [⟨.agg ⟨[iP 0, iP 0]⟩, iP 0, 0⟩, ⟨.agg ⟨[iP 1, iP 0]⟩, iP 0, 1⟩, ⟨.agg ⟨[iP 0, iP 1]⟩, iP 0, 2⟩, ⟨.agg ⟨[iP 1, iP 1]⟩, iP 0, 3⟩] 4)],
   [],
   .bool false⟩
theorem bc51_h : bc51.holds EE := ent0 _ (by kernel_rfl) (by kernel_rfl)
-- (decani/candle.vestry).canBeTrue, 3826 steps
noncomputable def bc55 : Ent :=
  ⟨74, [.agg ⟨[iP 8, iP 10, iP 0, iP 0, iP 1, iP 1, iP 1, iP 1, .slice (some ⟨6, 0, none⟩) 2 18446744073709551616, .slice none 0 0, .slice (some ⟨7, 0, none⟩) 1 1, .map (some 8)]⟩], 9,
   gC ++ [(6, .cells true 6 [iP 2, iP 2, iP 2, iP 0, iP 0, iP 2, iP 2, iP 2, iP 1, iP 0]),
    (7, .cells true 0 [iP 1, iP 0, iP 7, iP 0]),
    (8, .map [⟨.agg ⟨[iP 0, iP 0]⟩, iP 0, 0⟩, ⟨.agg ⟨[iP 1, iP 0]⟩, iP 0, 1⟩, ⟨.agg ⟨[iP 0, iP 1]⟩, iP 0, 2⟩, ⟨.agg ⟨[iP 1, iP 1]⟩, iP 0, 3⟩] 4)],
   [],
   .bool true⟩
theorem bc55_h : bc55.holds EE := ent0 _ (by kernel_rfl) (by kernel_rfl)
-- (decani/cold.dormitory).canBeTrue, 3823 steps
noncomputable def bc59 : Ent :=
  ⟨71, [.agg ⟨[iP 2, iP 6, iP 1, iP 2, iP 1, iP 1, iP 2, iP 2, .slice none 0 0, iP 0, .slice (some ⟨6, 0, none⟩) 2 2, .map (some 7)]⟩], 8,
   gC ++ [(6, .cells true 0 [iP 0, iP 5, .bool true, iP 0, iP 4, .bool false]),
    (7, .map [] 0)],
   [],
   .bool false⟩
theorem bc59_h : bc59.holds EE := ent0 _ (by kernel_rfl) (by kernel_rfl)
-- (decani/cold.dormitory).canBeTrue, 3768 steps
noncomputable def bc63 : Ent :=
  ⟨71, [.agg ⟨[iP 2, iP 6, iP 1, iP 2, iP 1, iP 1, iP 2, iP 2, .slice none 0 0, iP 0, .slice (some ⟨6, 0, none⟩) 2 2, .map (some 7)]⟩], 8,
   gC ++ [(6, .cells true 0 [iP 0, iP 3, .bool true, iP 0, iP 2, .bool false]),
    (7, .map [] 0)],
   [],
   .bool true⟩
theorem bc63_h : bc63.holds EE := ent0 _ (by kernel_rfl) (by kernel_rfl)
-- (decani/candle.vestry).canBeTrue, 3633 steps
noncomputable def bc67 : Ent :=
  ⟨74, [.agg ⟨[iP 10, iP 10, iP 0, iP 0, iP 1, iP 2, iP 1, iP 1, .slice (some ⟨6, 0, none⟩) 2 18446744073709551616, .slice none 0 0, .slice (some ⟨7, 0, none⟩) 1 1, .map (some 8)]⟩], 9,
   gC ++ [(6, .cells true 6 [iP 2, iP 2, iP 2, iP 0, iP 0, iP 2, iP 2, iP 2, iP 1, iP 0]),
    (7, .cells true 0 [iP 1, iP 0, iP 10, iP 0]),
    (8, .map [⟨.agg ⟨[iP 0, iP 0]⟩, iP 0, 0⟩, ⟨.agg ⟨[iP 1, iP 0]⟩, iP 0, 1⟩, ⟨.agg ⟨[iP 0, iP 1]⟩, iP 0, 2⟩, ⟨.agg ⟨[iP 1, iP 1]⟩, iP 0, 3⟩] 4)],
   [],
   .bool false⟩
theorem bc67_h : bc67.holds EE := ent0 _ (by kernel_rfl) (by kernel_rfl)
-- (decani/candle.vestry).canBeTrue, 3633 steps
noncomputable def bc69 : Ent :=
  ⟨74, [.agg ⟨[iP 10, iP 10, iP 0, iP 0, iP 1, iP 2, iP 1, iP 1, .slice (some ⟨6, 0, none⟩) 2 18446744073709551616, .slice none 0 0, .slice (some ⟨7, 0, none⟩) 1 1, .map (some 8)]⟩], 9,
   gC ++ [(6, .cells true 6 [iP 2, iP 2, iP 2, iP 0, iP 0, iP 2, iP 2, iP 2, iP 1, iP 0]),
    (7, .cells true 0 [iP 1, iP 0, iP 6, iP 0]),
    (8, .map [⟨.agg ⟨[iP 0, iP 0]⟩, iP 0, 0⟩, ⟨.agg ⟨[iP 1, iP 0]⟩, iP 0, 1⟩, ⟨.agg ⟨[iP 0, iP 1]⟩, iP 0, 2⟩, ⟨.agg ⟨[iP 1, iP 1]⟩, iP 0, 3⟩] 4)],
   [],
   .bool false⟩
theorem bc69_h : bc69.holds EE := ent0 _ (by kernel_rfl) (by kernel_rfl)
-- (decani/candle.vestry).canBeTrue, 3633 steps
noncomputable def bc73 : Ent :=
  ⟨74, [.agg ⟨[iP 10, iP 10, iP 0, iP 0, iP 2, iP 3, iP 1, iP 1, .slice (some ⟨6, 0, none⟩) 2 18446744073709551616, .slice none 0 0, .slice (some ⟨7, 0, none⟩) 1 1, .map (some 8)]⟩], 9,
   gC ++ [(6, .cells true 6 [iP 2, iP 2, iP 2, iP 0, iP 0, iP 2, iP 2, iP 2, iP 1, iP 0]),
    (7, .cells true 0 [iP 1, iP 0, iP 6, iP 0]),
    (8, .map [⟨.agg ⟨[iP 0, iP 0]⟩, iP 0, 0⟩, ⟨.agg ⟨[iP 1, iP 0]⟩, iP 0, 1⟩, ⟨.agg ⟨[iP 0, iP 1]⟩, iP 0, 2⟩, ⟨.agg ⟨[iP 1, iP 1]⟩, iP 0, 3⟩] 4)],
   [],
   .bool false⟩
theorem bc73_h : bc73.holds EE := ent0 _ (by kernel_rfl) (by kernel_rfl)
-- (decani/candle.vestry).canBeTrue, 3492 steps
noncomputable def bc77 : Ent :=
  ⟨74, [.agg ⟨[iP 8, iP 10, iP 0, iP 0, iP 1, iP 1, iP 1, iP 1, .slice (some ⟨6, 0, none⟩) 2 18446744073709551616, .slice none 0 0, .slice (some ⟨7, 0, none⟩) 1 1, .map (some 8)]⟩], 9,
   gC ++ [(6, .cells true 6 [iP 2, iP 2, iP 2, iP 0, iP 0, iP 2, iP 2, iP 2, iP 1, iP 0]),
    (7, .cells true 0 [iP 0, iP 0, iP 7, iP 0]),
    (8, .map [⟨.agg ⟨[iP 0, iP 0]⟩, iP 0, 0⟩, ⟨.agg ⟨[iP 1, iP 0]⟩, iP 0, 1⟩, ⟨.agg ⟨[iP 0, iP 1]⟩, iP 0, 2⟩, ⟨.agg ⟨[iP 1, iP 1]⟩, iP 0, 3⟩] 4)],
   [],
   .bool false⟩
theorem bc77_h : bc77.holds EE := ent0 _ (by kernel_rfl) (by kernel_rfl)
-- (decani/cold.dormitory).canBeTrue, 3426 steps
noncomputable def bc81 : Ent :=
  ⟨71, [.agg ⟨[iP 2, iP 6, iP 1, iP 1, iP 1, iP 1, iP 1, iP 2, .slice none 0 0, iP 0, .slice (some ⟨6, 0, none⟩) 2 2, .map (some 7)]⟩], 8,
   gC ++ [(6, .cells true 0 [iP 0, iP 2, .bool true, iP 0, iP 1, .bool false]),
    (7, .map [] 0)],
   [],
   .bool true⟩
theorem bc81_h : bc81.holds EE := ent0 _ (by kernel_rfl) (by kernel_rfl)
-- (decani/candle.vestry).canBeTrue, 3095 steps
noncomputable def bc86 : Ent :=
  ⟨74, [.agg ⟨[iP 8, iP 10, iP 0, iP 0, iP 2, iP 2, iP 1, iP 1, .slice (some ⟨6, 0, none⟩) 2 18446744073709551616, .slice none 0 0, .slice (some ⟨7, 0, none⟩) 1 1, .map (some 8)]⟩], 9,
   gC ++ [(6, .cells true 6 [iP 2, iP 2, iP 2, iP 0, iP 0, iP 2, iP 2, iP 2, iP 1, iP 0]),
    (7, .cells true 0 [iP 0, iP 0, iP 9, iP 0]),
    (8, .map [⟨.agg ⟨[iP 0, iP 0]⟩, iP 0, 0⟩, ⟨.agg ⟨[iP 1, iP 0]⟩, iP 0, 1⟩, ⟨.agg ⟨[iP 0, iP 1]⟩, iP 0, 2⟩, ⟨.agg ⟨[iP 1, iP 1]⟩, iP 0, 3⟩] 4)],
   [],
   .bool true⟩
theorem bc86_h : bc86.holds EE := ent0 _ (by kernel_rfl) (by kernel_rfl)
-- (decani/cold.dormitory).canBeTrue, 2606 steps
noncomputable def bc91 : Ent :=
  ⟨71, [.agg ⟨[iP 2, iP 6, iP 1, iP 1, iP 1, iP 1, iP 2, iP 2, .slice none 0 0, iP 0, .slice (some ⟨6, 0, none⟩) 2 2, .map (some 7)]⟩], 8,
   gC ++ [(6, .cells true 0 [iP 1, iP 5, .bool true, iP 1, iP 4, .bool false]),
    (7, .map [] 0)],
   [],
   .bool false⟩
theorem bc91_h : bc91.holds EE := ent0 _ (by kernel_rfl) (by kernel_rfl)
-- (decani/cold.dormitory).canBeTrue, 2606 steps
noncomputable def bc95 : Ent :=
  ⟨71, [.agg ⟨[iP 2, iP 6, iP 1, iP 1, iP 1, iP 1, iP 1, iP 1, .slice none 0 0, iP 0, .slice (some ⟨6, 0, none⟩) 2 2, .map (some 7)]⟩], 8,
   gC ++ [(6, .cells true 0 [iP 1, iP 4, .bool true, iP 1, iP 3, .bool false]),
    (7, .map [] 0)],
   [],
   .bool false⟩
theorem bc95_h : bc95.holds EE := ent0 _ (by kernel_rfl) (by kernel_rfl)
-- (decani/cold.dormitory).canBeTrue, 2551 steps
noncomputable def bc99 : Ent :=
  ⟨71, [.agg ⟨[iP 2, iP 6, iP 1, iP 2, iP 1, iP 1, iP 2, iP 2, .slice none 0 0, iP 0, .slice (some ⟨6, 0, none⟩) 2 2, .map (some 7)]⟩], 8,
   gC ++ [(6, .cells true 0 [iP 0, iP 2, .bool true, iP 0, iP 1, .bool false]),
    (7, .map [] 0)],
   [],
   .bool true⟩
theorem bc99_h : bc99.holds EE := ent0 _ (by kernel_rfl) (by kernel_rfl)
-- (decani/cold.dormitory).canBeTrue, 2551 steps
noncomputable def bc103 : Ent :=
  ⟨71, [.agg ⟨[iP 2, iP 6, iP 1, iP 2, iP 1, iP 1, iP 1, iP 1, .slice none 0 0, iP 0, .slice (some ⟨6, 0, none⟩) 2 2, .map (some 7)]⟩], 8,
   gC ++ [(6, .cells true 0 [iP 0, iP 2, .bool true, iP 0, iP 1, .bool false]),
    (7, .map [] 0)],
   [],
   .bool true⟩
theorem bc103_h : bc103.holds EE := ent0 _ (by kernel_rfl) (by kernel_rfl)
-- (decani/candle.vestry).canBeTrue, 2367 steps
noncomputable def bc107 : Ent :=
  ⟨74, [.agg ⟨[iP 9, iP 10, iP 0, iP 0, iP 1, iP 1, iP 1, iP 1, .slice (some ⟨6, 0, none⟩) 2 18446744073709551616, .slice none 0 0, .slice (some ⟨7, 0, none⟩) 1 1, .map (some 8)]⟩], 9,
   gC ++ [(6, .cells true 6 [iP 2, iP 2, iP 2, iP 0, iP 0, iP 2, iP 2, iP 2, iP 1, iP 0]),
    (7, .cells true 0 [iP 0, iP 0, iP 8, iP 0]),
    (8, .map [⟨.agg ⟨[iP 0, iP 0]⟩, iP 0, 0⟩, ⟨.agg ⟨[iP 1, iP 0]⟩, iP 0, 1⟩, ⟨.agg ⟨[iP 0, iP 1]⟩, iP 0, 2⟩, ⟨.agg ⟨[iP 1, iP 1]⟩, iP 0, 3⟩] 4)],
   [],
   .bool false⟩
theorem bc107_h : bc107.holds EE := ent0 _ (by kernel_rfl) (by kernel_rfl)
-- (decani/candle.vestry).canBeTrue, 2367 steps
noncomputable def bc111 : Ent :=
  ⟨74, [.agg ⟨[iP 9, iP 10, iP 0, iP 0, iP 2, iP 2, iP 1, iP 1, .slice (some ⟨6, 0, none⟩) 2 18446744073709551616, .slice none 0 0, .slice (some ⟨7, 0, none⟩) 1 1, .map (some 8)]⟩], 9,
   gC ++ [(6, .cells true 6 [iP 2, iP 2, iP 2, iP 0, iP 0, iP 2, iP 2, iP 2, iP 1, iP 0]),
    (7, .cells true 0 [iP 0, iP 0, iP 7, iP 0]),
    (8, .map [⟨.agg ⟨[iP 0, iP 0]⟩, iP 0, 0⟩, ⟨.agg ⟨[iP 1, iP 0]⟩, iP 0, 1⟩, ⟨.agg ⟨[iP 0, iP 1]⟩, iP 0, 2⟩, ⟨.agg ⟨[iP 1, iP 1]⟩, iP 0, 3⟩] 4)],
   [],
   .bool false⟩
theorem bc111_h : bc111.holds EE := ent0 _ (by kernel_rfl) (by kernel_rfl)
-- (decani/cold.dormitory).canBeTrue, 2264 steps
noncomputable def bc115 : Ent :=
  ⟨71, [.agg ⟨[iP 2, iP 6, iP 1, iP 0, iP 1, iP 1, iP 1, iP 2, .slice none 0 0, iP 0, .slice (some ⟨6, 0, none⟩) 2 2, .map (some 7)]⟩], 8,
   gC ++ [(6, .cells true 0 [iP 0, iP 3, .bool true, iP 0, iP 2, .bool false]),
    (7, .map [] 0)],
   [],
   .bool false⟩
theorem bc115_h : bc115.holds EE := ent0 _ (by kernel_rfl) (by kernel_rfl)
-- (decani/cold.dormitory).canBeTrue, 2264 steps
noncomputable def bc119 : Ent :=
  ⟨71, [.agg ⟨[iP 2, iP 6, iP 1, iP 0, iP 1, iP 1, iP 1, iP 2, .slice none 0 0, iP 0, .slice (some ⟨6, 0, none⟩) 2 2, .map (some 7)]⟩], 8,
   gC ++ [(6, .cells true 0 [iP 1, iP 5, .bool true, iP 1, iP 4, .bool false]),
    (7, .map [] 0)],
   [],
   .bool false⟩
theorem bc119_h : bc119.holds EE := ent0 _ (by kernel_rfl) (by kernel_rfl)
-- (decani/cold.dormitory).canBeTrue, 2193 steps
noncomputable def bc123 : Ent :=
  ⟨71, [.agg ⟨[iP 2, iP 6, iP 1, iP 1, iP 1, iP 1, iP 1, iP 2, .slice none 0 0, iP 0, .slice (some ⟨6, 0, none⟩) 2 2, .map (some 7)]⟩], 8,
   gC ++ [(6, .cells true 0 [iP 1, iP 1, .bool true, iP 1, iP 0, .bool false]),
    (7, .map [] 0)],
   [],
   .bool false⟩
theorem bc123_h : bc123.holds EE := ent0 _ (by kernel_rfl) (by kernel_rfl)
-- (decani/candle.vestry).canBeTrue, 2171 steps
noncomputable def bc127 : Ent :=
  ⟨74, [.agg ⟨[iP 10, iP 10, iP 0, iP 0, iP 1, iP 2, iP 1, iP 1, .slice (some ⟨6, 0, none⟩) 2 18446744073709551616, .slice none 0 0, .slice (some ⟨7, 0, none⟩) 1 1, .map (some 8)]⟩], 9,
   gC ++ [(6, .cells true 6 [iP 2, iP 2, iP 2, iP 0, iP 0, iP 2, iP 2, iP 2, iP 1, iP 0]),
    (7, .cells true 0 [iP 0, iP 0, iP 6, iP 0]),
    (8, .map [⟨.agg ⟨[iP 0, iP 0]⟩, iP 0, 0⟩, ⟨.agg ⟨[iP 1, iP 0]⟩, iP 0, 1⟩, ⟨.agg ⟨[iP 0, iP 1]⟩, iP 0, 2⟩, ⟨.agg ⟨[iP 1, iP 1]⟩, iP 0, 3⟩] 4)],
   [],
   .bool false⟩
theorem bc127_h : bc127.holds EE := ent0 _ (by kernel_rfl) (by kernel_rfl)
-- (decani/candle.vestry).canBeTrue, 2171 steps
noncomputable def bc131 : Ent :=
  ⟨74, [.agg ⟨[iP 10, iP 10, iP 0, iP 0, iP 2, iP 3, iP 1, iP 1, .slice (some ⟨6, 0, none⟩) 2 18446744073709551616, .slice none 0 0, .slice (some ⟨7, 0, none⟩) 1 1, .map (some 8)]⟩], 9,
   gC ++ [(6, .cells true 6 [iP 2, iP 2, iP 2, iP 0, iP 0, iP 2, iP 2, iP 2, iP 1, iP 0]),
    (7, .cells true 0 [iP 0, iP 0, iP 6, iP 0]),
    (8, .map [⟨.agg ⟨[iP 0, iP 0]⟩, iP 0, 0⟩, ⟨.agg ⟨[iP 1, iP 0]⟩, iP 0, 1⟩, ⟨.agg ⟨[iP 0, iP 1]⟩, iP 0, 2⟩, ⟨.agg ⟨[iP 1, iP 1]⟩, iP 0, 3⟩] 4)],
   [],
   .bool false⟩
theorem bc131_h : bc131.holds EE := ent0 _ (by kernel_rfl) (by kernel_rfl)
-- (decani/candle.vestry).canBeTrue, 1973 steps
noncomputable def bc135 : Ent :=
  ⟨74, [.agg ⟨[iP 10, iP 10, iP 0, iP 0, iP 1, iP 1, iP 1, iP 1, .slice (some ⟨6, 0, none⟩) 2 18446744073709551616, .slice none 0 0, .slice (some ⟨7, 0, none⟩) 1 1, .map (some 8)]⟩], 9,
   gC ++ [(6, .cells true 6 [iP 2, iP 2, iP 2, iP 0, iP 0, iP 2, iP 2, iP 2, iP 1, iP 0]),
    (7, .cells true 0 [iP 1, iP 0, iP 7, iP 0]),
    (8, .map [⟨.agg ⟨[iP 0, iP 0]⟩, iP 0, 0⟩, ⟨.agg ⟨[iP 1, iP 0]⟩, iP 0, 1⟩, ⟨.agg ⟨[iP 0, iP 1]⟩, iP 0, 2⟩, ⟨.agg ⟨[iP 1, iP 1]⟩, iP 0, 3⟩] 4)],
   [],
   .bool false⟩
theorem bc135_h : bc135.holds EE := ent0 _ (by kernel_rfl) (by kernel_rfl)
-- (decani/candle.vestry).canBeTrue, 1973 steps
noncomputable def bc139 : Ent :=
  ⟨74, [.agg ⟨[iP 10, iP 10, iP 0, iP 0, iP 2, iP 2, iP 1, iP 1, .slice (some ⟨6, 0, none⟩) 2 18446744073709551616, .slice none 0 0, .slice (some ⟨7, 0, none⟩) 1 1, .map (some 8)]⟩], 9,
   gC ++ [(6, .cells true 6 [iP 2, iP 2, iP 2, iP 0, iP 0, iP 2, iP 2, iP 2, iP 1, iP 0]),
    (7, .cells true 0 [iP 1, iP 0, iP 7, iP 0]),
    (8, .map [⟨.agg ⟨[iP 0, iP 0]⟩, iP 0, 0⟩, ⟨.agg ⟨[iP 1, iP 0]⟩, iP 0, 1⟩, ⟨.agg ⟨[iP 0, iP 1]⟩, iP 0, 2⟩, ⟨.agg ⟨[iP 1, iP 1]⟩, iP 0, 3⟩] 4)],
   [],
   .bool false⟩
theorem bc139_h : bc139.holds EE := ent0 _ (by kernel_rfl) (by kernel_rfl)
-- (decani/candle.vestry).canBeTrue, 1970 steps
noncomputable def bc143 : Ent :=
  ⟨74, [.agg ⟨[iP 10, iP 10, iP 0, iP 0, iP 1, iP 2, iP 1, iP 1, .slice (some ⟨6, 0, none⟩) 2 18446744073709551616, .slice none 0 0, .slice (some ⟨7, 0, none⟩) 1 1, .map (some 8)]⟩], 9,
   gC ++ [(6, .cells true 6 [iP 2, iP 2, iP 2, iP 0, iP 0, iP 2, iP 2, iP 2, iP 1, iP 0]),
    (7, .cells true 0 [iP 0, iP 0, iP 10, iP 0]),
    (8, .map [⟨.agg ⟨[iP 0, iP 0]⟩, iP 0, 0⟩, ⟨.agg ⟨[iP 1, iP 0]⟩, iP 0, 1⟩, ⟨.agg ⟨[iP 0, iP 1]⟩, iP 0, 2⟩, ⟨.agg ⟨[iP 1, iP 1]⟩, iP 0, 3⟩] 4)],
   [],
   .bool true⟩
theorem bc143_h : bc143.holds EE := ent0 _ (by kernel_rfl) (by kernel_rfl)
-- (decani/candle.vestry).canBeTrue, 1970 steps
noncomputable def bc147 : Ent :=
  ⟨74, [.agg ⟨[iP 9, iP 10, iP 0, iP 0, iP 1, iP 2, iP 1, iP 1, .slice (some ⟨6, 0, none⟩) 2 18446744073709551616, .slice none 0 0, .slice (some ⟨7, 0, none⟩) 1 1, .map (some 8)]⟩], 9,
   gC ++ [(6, .cells true 6 [iP 2, iP 2, iP 2, iP 0, iP 0, iP 2, iP 2, iP 2, iP 1, iP 0]),
    (7, .cells true 0 [iP 0, iP 0, iP 9, iP 0]),
    (8, .map [⟨.agg ⟨[iP 0, iP 0]⟩, iP 0, 0⟩, ⟨.agg ⟨[iP 1, iP 0]⟩, iP 0, 1⟩, ⟨.agg ⟨[iP 0, iP 1]⟩, iP 0, 2⟩, ⟨.agg ⟨[iP 1, iP 1]⟩, iP 0, 3⟩] 4)],
   [],
   .bool true⟩
theorem bc147_h : bc147.holds EE := ent0 _ (by kernel_rfl) (by kernel_rfl)
-- (decani/candle.vestry).canBeTrue, 1970 steps
noncomputable def bc151 : Ent :=
  ⟨74, [.agg ⟨[iP 8, iP 10, iP 0, iP 0, iP 1, iP 2, iP 1, iP 1, .slice (some ⟨6, 0, none⟩) 2 18446744073709551616, .slice none 0 0, .slice (some ⟨7, 0, none⟩) 1 1, .map (some 8)]⟩], 9,
   gC ++ [(6, .cells true 6 [iP 2, iP 2, iP 2, iP 0, iP 0, iP 2, iP 2, iP 2, iP 1, iP 0]),
    (7, .cells true 0 [iP 0, iP 0, iP 8, iP 0]),
    (8, .map [⟨.agg ⟨[iP 0, iP 0]⟩, iP 0, 0⟩, ⟨.agg ⟨[iP 1, iP 0]⟩, iP 0, 1⟩, ⟨.agg ⟨[iP 0, iP 1]⟩, iP 0, 2⟩, ⟨.agg ⟨[iP 1, iP 1]⟩, iP 0, 3⟩] 4)],
   [],
   .bool true⟩
theorem bc151_h : bc151.holds EE := ent0 _ (by kernel_rfl) (by kernel_rfl)
-- (decani/candle.vestry).canBeTrue, 1970 steps
noncomputable def bc155 : Ent :=
  ⟨74, [.agg ⟨[iP 10, iP 10, iP 0, iP 0, iP 2, iP 3, iP 1, iP 1, .slice (some ⟨6, 0, none⟩) 2 18446744073709551616, .slice none 0 0, .slice (some ⟨7, 0, none⟩) 1 1, .map (some 8)]⟩], 9,
   gC ++ [(6, .cells true 6 [iP 2, iP 2, iP 2, iP 0, iP 0, iP 2, iP 2, iP 2, iP 1, iP 0]),
    (7, .cells true 0 [iP 0, iP 0, iP 10, iP 0]),
    (8, .map [⟨.agg ⟨[iP 0, iP 0]⟩, iP 0, 0⟩, ⟨.agg ⟨[iP 1, iP 0]⟩, iP 0, 1⟩, ⟨.agg ⟨[iP 0, iP 1]⟩, iP 0, 2⟩, ⟨.agg ⟨[iP 1, iP 1]⟩, iP 0, 3⟩] 4)],
   [],
   .bool true⟩
theorem bc155_h : bc155.holds EE := ent0 _ (by kernel_rfl) (by kernel_rfl)
-- (decani/candle.vestry).canBeTrue, 1970 steps
noncomputable def bc159 : Ent :=
  ⟨74, [.agg ⟨[iP 9, iP 10, iP 0, iP 0, iP 2, iP 3, iP 1, iP 1, .slice (some ⟨6, 0, none⟩) 2 18446744073709551616, .slice none 0 0, .slice (some ⟨7, 0, none⟩) 1 1, .map (some 8)]⟩], 9,
   gC ++ [(6, .cells true 6 [iP 2, iP 2, iP 2, iP 0, iP 0, iP 2, iP 2, iP 2, iP 1, iP 0]),
    (7, .cells true 0 [iP 0, iP 0, iP 9, iP 0]),
    (8, .map [⟨.agg ⟨[iP 0, iP 0]⟩, iP 0, 0⟩, ⟨.agg ⟨[iP 1, iP 0]⟩, iP 0, 1⟩, ⟨.agg ⟨[iP 0, iP 1]⟩, iP 0, 2⟩, ⟨.agg ⟨[iP 1, iP 1]⟩, iP 0, 3⟩] 4)],
   [],
   .bool true⟩
theorem bc159_h : bc159.holds EE := ent0 _ (by kernel_rfl) (by kernel_rfl)
-- (decani/candle.vestry).canBeTrue, 1970 steps
noncomputable def bc163 : Ent :=
  ⟨74, [.agg ⟨[iP 8, iP 10, iP 0, iP 0, iP 2, iP 3, iP 1, iP 1, .slice (some ⟨6, 0, none⟩) 2 18446744073709551616, .slice none 0 0, .slice (some ⟨7, 0, none⟩) 1 1, .map (some 8)]⟩], 9,
   gC ++ [(6, .cells true 6 [iP 2, iP 2, iP 2, iP 0, iP 0, iP 2, iP 2, iP 2, iP 1, iP 0]),
    (7, .cells true 0 [iP 0, iP 0, iP 8, iP 0]),
    (8, .map [⟨.agg ⟨[iP 0, iP 0]⟩, iP 0, 0⟩, ⟨.agg ⟨[iP 1, iP 0]⟩, iP 0, 1⟩, ⟨.agg ⟨[iP 0, iP 1]⟩, iP 0, 2⟩, ⟨.agg ⟨[iP 1, iP 1]⟩, iP 0, 3⟩] 4)],
   [],
   .bool true⟩
theorem bc163_h : bc163.holds EE := ent0 _ (by kernel_rfl) (by kernel_rfl)
-- (decani/candle.vestry).canBeTrue, 1847 steps
noncomputable def bc167 : Ent :=
  ⟨74, [.agg ⟨[iP 9, iP 10, iP 0, iP 0, iP 1, iP 1, iP 1, iP 1, .slice (some ⟨6, 0, none⟩) 2 18446744073709551616, .slice none 0 0, .slice none 0 0, .map (some 7)]⟩], 8,
   gC ++ [(6, .cells true 6 [iP 2, iP 2, iP 2, iP 0, iP 0, iP 2, iP 2, iP 2, iP 1, iP 0]),
    (7, .map [⟨.agg ⟨[iP 0, iP 0]⟩, iP 0, 0⟩, ⟨.agg ⟨[iP 1, iP 0]⟩, iP 0, 1⟩, ⟨.agg ⟨[iP 0, iP 1]⟩, iP 0, 2⟩, ⟨.agg ⟨[iP 1, iP 1]⟩, iP 0, 3⟩] 4)],
   [],
   .bool true⟩
theorem bc167_h : bc167.holds EE := ent0 _ (by kernel_rfl) (by kernel_rfl)
-- (decani/candle.vestry).canBeTrue, 1847 steps
noncomputable def bc171 : Ent :=
  ⟨74, [.agg ⟨[iP 10, iP 10, iP 0, iP 0, iP 2, iP 2, iP 1, iP 1, .slice (some ⟨6, 0, none⟩) 2 18446744073709551616, .slice none 0 0, .slice none 0 0, .map (some 7)]⟩], 8,
   gC ++ [(6, .cells true 6 [iP 2, iP 2, iP 2, iP 0, iP 0, iP 2, iP 2, iP 2, iP 1, iP 0]),
    (7, .map [⟨.agg ⟨[iP 0, iP 0]⟩, iP 0, 0⟩, ⟨.agg ⟨[iP 1, iP 0]⟩, iP 0, 1⟩, ⟨.agg ⟨[iP 0, iP 1]⟩, iP 0, 2⟩, ⟨.agg ⟨[iP 1, iP 1]⟩, iP 0, 3⟩] 4)],
   [],
   .bool true⟩
theorem bc171_h : bc171.holds EE := ent0 _ (by kernel_rfl) (by kernel_rfl)
-- (decani/candle.vestry).canBeTrue, 1847 steps
noncomputable def bc175 : Ent :=
  ⟨74, [.agg ⟨[iP 8, iP 10, iP 0, iP 0, iP 2, iP 2, iP 1, iP 1, .slice (some ⟨6, 0, none⟩) 2 18446744073709551616, .slice none 0 0, .slice none 0 0, .map (some 7)]⟩], 8,
   gC ++ [(6, .cells true 6 [iP 2, iP 2, iP 2, iP 0, iP 0, iP 2, iP 2, iP 2, iP 1, iP 0]),
    (7, .map [⟨.agg ⟨[iP 0, iP 0]⟩, iP 0, 0⟩, ⟨.agg ⟨[iP 1, iP 0]⟩, iP 0, 1⟩, ⟨.agg ⟨[iP 0, iP 1]⟩, iP 0, 2⟩, ⟨.agg ⟨[iP 1, iP 1]⟩, iP 0, 3⟩] 4)],
   [],
   .bool true⟩
theorem bc175_h : bc175.holds EE := ent0 _ (by kernel_rfl) (by kernel_rfl)
-- (decani/cold.dormitory).canBeTrue, 1394 steps
noncomputable def bc179 : Ent :=
  ⟨71, [.agg ⟨[iP 2, iP 6, iP 1, iP 1, iP 1, iP 1, iP 2, iP 2, .slice none 0 0, iP 0, .slice (some ⟨6, 0, none⟩) 2 2, .map (some 7)]⟩], 8,
   gC ++ [(6, .cells true 0 [iP 1, iP 1, .bool true, iP 1, iP 0, .bool false]),
    (7, .map [] 0)],
   [],
   .bool false⟩
theorem bc179_h : bc179.holds EE := ent0 _ (by kernel_rfl) (by kernel_rfl)
-- (decani/cold.dormitory).canBeTrue, 1394 steps
noncomputable def bc180 : Ent :=
  ⟨71, [.agg ⟨[iP 2, iP 6, iP 1, iP 1, iP 1, iP 1, iP 1, iP 1, .slice none 0 0, iP 0, .slice (some ⟨6, 0, none⟩) 2 2, .map (some 7)]⟩], 8,
   gC ++ [(6, .cells true 0 [iP 1, iP 1, .bool true, iP 1, iP 0, .bool false]),
    (7, .map [] 0)],
   [],
   .bool false⟩
theorem bc180_h : bc180.holds EE := ent0 _ (by kernel_rfl) (by kernel_rfl)
-- (decani/cold.dormitory).canBeTrue, 1389 steps
noncomputable def bc184 : Ent :=
  ⟨71, [.agg ⟨[iP 2, iP 6, iP 1, iP 0, iP 1, iP 1, iP 2, iP 2, .slice none 0 0, iP 0, .slice (some ⟨6, 0, none⟩) 2 2, .map (some 7)]⟩], 8,
   gC ++ [(6, .cells true 0 [iP 0, iP 5, .bool true, iP 0, iP 4, .bool false]),
    (7, .map [] 0)],
   [],
   .bool false⟩
theorem bc184_h : bc184.holds EE := ent0 _ (by kernel_rfl) (by kernel_rfl)
-- (decani/cold.dormitory).canBeTrue, 1389 steps
noncomputable def bc188 : Ent :=
  ⟨71, [.agg ⟨[iP 2, iP 6, iP 1, iP 0, iP 1, iP 1, iP 1, iP 1, .slice none 0 0, iP 0, .slice (some ⟨6, 0, none⟩) 2 2, .map (some 7)]⟩], 8,
   gC ++ [(6, .cells true 0 [iP 0, iP 3, .bool true, iP 0, iP 2, .bool false]),
    (7, .map [] 0)],
   [],
   .bool false⟩
theorem bc188_h : bc188.holds EE := ent0 _ (by kernel_rfl) (by kernel_rfl)
-- (decani/cold.dormitory).canBeTrue, 1389 steps
noncomputable def bc192 : Ent :=
  ⟨71, [.agg ⟨[iP 2, iP 6, iP 1, iP 0, iP 1, iP 1, iP 1, iP 1, .slice none 0 0, iP 0, .slice (some ⟨6, 0, none⟩) 2 2, .map (some 7)]⟩], 8,
   gC ++ [(6, .cells true 0 [iP 1, iP 4, .bool true, iP 1, iP 3, .bool false]),
    (7, .map [] 0)],
   [],
   .bool false⟩
theorem bc192_h : bc192.holds EE := ent0 _ (by kernel_rfl) (by kernel_rfl)
-- (decani/cold.dormitory).canBeTrue, 1334 steps
noncomputable def bc197 : Ent :=
  ⟨71, [.agg ⟨[iP 2, iP 6, iP 1, iP 0, iP 1, iP 1, iP 1, iP 2, .slice none 0 0, iP 0, .slice (some ⟨6, 0, none⟩) 2 2, .map (some 7)]⟩], 8,
   gC ++ [(6, .cells true 0 [iP 1, iP 2, .bool true, iP 1, iP 1, .bool false]),
    (7, .map [] 0)],
   [],
   .bool true⟩
theorem bc197_h : bc197.holds EE := ent0 _ (by kernel_rfl) (by kernel_rfl)
-- (decani/cold.dormitory).canBeTrue, 1334 steps
noncomputable def bc201 : Ent :=
  ⟨71, [.agg ⟨[iP 2, iP 6, iP 1, iP 1, iP 1, iP 1, iP 1, iP 2, .slice none 0 0, iP 0, .slice (some ⟨6, 0, none⟩) 2 2, .map (some 7)]⟩], 8,
   gC ++ [(6, .cells true 0 [iP 1, iP 2, .bool true, iP 1, iP 1, .bool false]),
    (7, .map [] 0)],
   [],
   .bool true⟩
theorem bc201_h : bc201.holds EE := ent0 _ (by kernel_rfl) (by kernel_rfl)
-- (decani/cold.dormitory).canBeTrue, 1334 steps
noncomputable def bc205 : Ent :=
  ⟨71, [.agg ⟨[iP 2, iP 6, iP 1, iP 2, iP 1, iP 1, iP 1, iP 2, .slice none 0 0, iP 0, .slice (some ⟨6, 0, none⟩) 2 2, .map (some 7)]⟩], 8,
   gC ++ [(6, .cells true 0 [iP 1, iP 2, .bool true, iP 1, iP 1, .bool false]),
    (7, .map [] 0)],
   [],
   .bool true⟩
theorem bc205_h : bc205.holds EE := ent0 _ (by kernel_rfl) (by kernel_rfl)
-- (decani/cold.dormitory).canBeTrue, 1334 steps
noncomputable def bc209 : Ent :=
  ⟨71, [.agg ⟨[iP 2, iP 6, iP 1, iP 1, iP 1, iP 1, iP 1, iP 1, .slice none 0 0, iP 0, .slice (some ⟨6, 0, none⟩) 2 2, .map (some 7)]⟩], 8,
   gC ++ [(6, .cells true 0 [iP 1, iP 2, .bool true, iP 1, iP 1, .bool false]),
    (7, .map [] 0)],
   [],
   .bool true⟩
theorem bc209_h : bc209.holds EE := ent0 _ (by kernel_rfl) (by kernel_rfl)
-- (decani/cold.dormitory).canBeTrue, 1313 steps
noncomputable def bc213 : Ent :=
  ⟨71, [.agg ⟨[iP 2, iP 6, iP 1, iP 0, iP 1, iP 1, iP 2, iP 2, .slice none 0 0, iP 0, .slice (some ⟨6, 0, none⟩) 2 2, .map (some 7)]⟩], 8,
   gC ++ [(6, .cells true 0 [iP 1, iP 2, .bool true, iP 1, iP 1, .bool false]),
    (7, .map [] 0)],
   [],
   .bool false⟩
theorem bc213_h : bc213.holds EE := ent0 _ (by kernel_rfl) (by kernel_rfl)
-- (decani/candle.vestry).canBeTrue, 1242 steps
noncomputable def bc217 : Ent :=
  ⟨74, [.agg ⟨[iP 10, iP 10, iP 0, iP 0, iP 1, iP 1, iP 1, iP 1, .slice (some ⟨6, 0, none⟩) 2 18446744073709551616, .slice none 0 0, .slice (some ⟨7, 0, none⟩) 1 1, .map (some 8)]⟩], 9,
   gC ++ [(6, .cells true 6 [iP 2, iP 2, iP 2, iP 0, iP 0, iP 2, iP 2, iP 2, iP 1, iP 0]),
    (7, .cells true 0 [iP 0, iP 0, iP 7, iP 0]),
    (8, .map [⟨.agg ⟨[iP 0, iP 0]⟩, iP 0, 0⟩, ⟨.agg ⟨[iP 1, iP 0]⟩, iP 0, 1⟩, ⟨.agg ⟨[iP 0, iP 1]⟩, iP 0, 2⟩, ⟨.agg ⟨[iP 1, iP 1]⟩, iP 0, 3⟩] 4)],
   [],
   .bool false⟩
theorem bc217_h : bc217.holds EE := ent0 _ (by kernel_rfl) (by kernel_rfl)
-- (decani/candle.vestry).canBeTrue, 1242 steps
noncomputable def bc221 : Ent :=
  ⟨74, [.agg ⟨[iP 10, iP 10, iP 0, iP 0, iP 2, iP 2, iP 1, iP 1, .slice (some ⟨6, 0, none⟩) 2 18446744073709551616, .slice none 0 0, .slice (some ⟨7, 0, none⟩) 1 1, .map (some 8)]⟩], 9,
   gC ++ [(6, .cells true 6 [iP 2, iP 2, iP 2, iP 0, iP 0, iP 2, iP 2, iP 2, iP 1, iP 0]),
    (7, .cells true 0 [iP 0, iP 0, iP 7, iP 0]),
    (8, .map [⟨.agg ⟨[iP 0, iP 0]⟩, iP 0, 0⟩, ⟨.agg ⟨[iP 1, iP 0]⟩, iP 0, 1⟩, ⟨.agg ⟨[iP 0, iP 1]⟩, iP 0, 2⟩, ⟨.agg ⟨[iP 1, iP 1]⟩, iP 0, 3⟩] 4)],
   [],
   .bool false⟩
theorem bc221_h : bc221.holds EE := ent0 _ (by kernel_rfl) (by kernel_rfl)
-- (decani/cold.dormitory).canBeTrue, 1070 steps
noncomputable def bc226 : Ent :=
  ⟨71, [.agg ⟨[iP 2, iP 6, iP 1, iP 1, iP 1, iP 1, iP 2, iP 2, .slice none 0 0, iP 0, .slice none 0 0, .map (some 6)]⟩], 7,
   gC ++ [(6, .map [] 0)],
   [],
   .bool true⟩
theorem bc226_h : bc226.holds EE := ent0 _ (by kernel_rfl) (by kernel_rfl)
-- (decani/cold.dormitory).canBeTrue, 1070 steps
noncomputable def bc230 : Ent :=
  ⟨71, [.agg ⟨[iP 2, iP 6, iP 1, iP 1, iP 1, iP 1, iP 1, iP 1, .slice none 0 0, iP 0, .slice none 0 0, .map (some 6)]⟩], 7,
   gC ++ [(6, .map [] 0)],
   [],
   .bool true⟩
theorem bc230_h : bc230.holds EE := ent0 _ (by kernel_rfl) (by kernel_rfl)
end Go.Proofs.YtmjpnohpmfmdlaaGreatDoor
