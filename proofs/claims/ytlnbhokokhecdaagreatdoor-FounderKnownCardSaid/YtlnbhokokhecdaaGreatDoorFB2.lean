/- Known calls, part 2: what single calls hand back, at small heaps, by the kernel's own run of the evaluator. No conditions. -/
import Derived.Test.YtlnbhokokhecdaaGreatDoorFZ
set_option linter.all false
namespace Go.Proofs.YtlnbhokokhecdaaGreatDoor
open Go.Ai
set_option maxRecDepth 1000000
-- (decani/founder.chest).isBetter, 2254 steps
noncomputable def fb2 : Ent :=
  ⟨47, [.agg ⟨[iP 4, iP 28, .slice (some ⟨3, 0, none⟩) 3 3, .slice (some ⟨4, 0, none⟩) 2 2, .bool false, .slice (some ⟨5, 0, none⟩) 1 1, .bool true, .slice (some ⟨6, 0, none⟩) 1 1, .slice (some ⟨7, 0, none⟩) 3 3, .map (some 8), iP 1]⟩, .slice (some ⟨9, 0, none⟩) 3 18446744073709551616, .slice (some ⟨10, 0, none⟩) 4 18446744073709551616], 11,
   gC ++ [(3, .cells true 0 [iP 1, iP 2, iP 2, iP 1, iP 1, iP 1, iP 2, iP 2, iP 1]),
    (4, .cells true 0 [iP 1, iP 2, iP 1, iP 1, iP 1, iP 2]),
    (5, .cells true 0 [iP 1, iP 2, iP 2]),
    (6, .cells true 0 [iP 0, iP 3, iP 2]),
    (7, .cells true 0 [iP 0, iN 0, iP 2, iP 10, iP 0, iP 1, iP 2, iP 6, iP 1, iP 1, iP 1, iP 4]),
    (8, .map [⟨.agg ⟨[iP 0, iP 0]⟩, .bool true, 0⟩, ⟨.agg ⟨[iP 1, iP 0]⟩, .bool false, 1⟩, ⟨.agg ⟨[iP 2, iP 0]⟩, .bool false, 2⟩, ⟨.agg ⟨[iP 3, iP 0]⟩, .bool false, 3⟩, ⟨.agg ⟨[iP 0, iP 1]⟩, .bool true, 4⟩, ⟨.agg ⟨[iP 1, iP 1]⟩, .bool true, 5⟩, ⟨.agg ⟨[iP 2, iP 1]⟩, .bool false, 6⟩, ⟨.agg ⟨[iP 3, iP 1]⟩, .bool true, 7⟩, ⟨.agg ⟨[iP 0, iP 2]⟩, .bool true, 8⟩, ⟨.agg ⟨[iP 1, iP 2]⟩, .bool true, 9⟩, ⟨.agg ⟨[iP 2, iP 2]⟩, .bool false, 10⟩, ⟨.agg ⟨[iP 3, iP 2]⟩, .bool true, 11⟩] 12),
    (9, .cells true 3 [iP 0, iP 0, iP 1, iP 1, iP 1, iP 2]),
    (10, .cells true 3 [iP 0, iP 0, iP 1, iP 1, iP 1, iP 2, iP 3, iP 1])],
   [],
   .bool false⟩
theorem fb2_h : fb2.holds EE := ent0 _ (by kernel_rfl) (by kernel_rfl)
-- (decani/founder.chest).isBetter, 2218 steps
noncomputable def fb5 : Ent :=
  ⟨47, [.agg ⟨[iP 4, iP 28, .slice (some ⟨3, 0, none⟩) 3 3, .slice (some ⟨4, 0, none⟩) 2 2, .bool false, .slice (some ⟨5, 0, none⟩) 1 1, .bool true, .slice (some ⟨6, 0, none⟩) 1 1, .slice (some ⟨7, 0, none⟩) 3 3, .map (some 8), iP 3]⟩, .slice (some ⟨9, 0, none⟩) 3 18446744073709551616, .slice (some ⟨10, 0, none⟩) 4 18446744073709551616], 11,
   gC ++ [(3, .cells true 0 [iP 1, iP 2, iP 2, iP 1, iP 1, iP 1, iP 2, iP 2, iP 1]),
    (4, .cells true 0 [iP 1, iP 2, iP 1, iP 1, iP 1, iP 2]),
    (5, .cells true 0 [iP 1, iP 2, iP 2]),
    (6, .cells true 0 [iP 0, iP 3, iP 2]),
    (7, .cells true 0 [iP 0, iN 0, iP 2, iP 10, iP 0, iP 1, iP 2, iP 6, iP 1, iP 1, iP 1, iP 4]),
    (8, .map [⟨.agg ⟨[iP 0, iP 0]⟩, .bool true, 0⟩, ⟨.agg ⟨[iP 1, iP 0]⟩, .bool false, 1⟩, ⟨.agg ⟨[iP 2, iP 0]⟩, .bool false, 2⟩, ⟨.agg ⟨[iP 3, iP 0]⟩, .bool false, 3⟩, ⟨.agg ⟨[iP 0, iP 1]⟩, .bool true, 4⟩, ⟨.agg ⟨[iP 1, iP 1]⟩, .bool true, 5⟩, ⟨.agg ⟨[iP 2, iP 1]⟩, .bool false, 6⟩, ⟨.agg ⟨[iP 3, iP 1]⟩, .bool true, 7⟩, ⟨.agg ⟨[iP 0, iP 2]⟩, .bool true, 8⟩, ⟨.agg ⟨[iP 1, iP 2]⟩, .bool true, 9⟩, ⟨.agg ⟨[iP 2, iP 2]⟩, .bool false, 10⟩, ⟨.agg ⟨[iP 3, iP 2]⟩, .bool true, 11⟩] 12),
    (9, .cells true 3 [iP 0, iP 0, iP 1, iP 1, iP 3, iP 2]),
    (10, .cells true 3 [iP 0, iP 0, iP 1, iP 1, iP 3, iP 1, iP 3, iP 2])],
   [],
   .bool false⟩
theorem fb5_h : fb5.holds EE := ent0 _ (by kernel_rfl) (by kernel_rfl)
-- (decani/founder.chest).isBetter, 2188 steps
noncomputable def fb11 : Ent :=
  ⟨47, [.agg ⟨[iP 4, iP 28, .slice (some ⟨3, 0, none⟩) 3 3, .slice (some ⟨4, 0, none⟩) 2 2, .bool false, .slice (some ⟨5, 0, none⟩) 1 1, .bool true, .slice none 0 0, .slice (some ⟨6, 0, none⟩) 3 3, .map (some 7), iP 0]⟩, .slice (some ⟨8, 0, none⟩) 3 18446744073709551616, .slice (some ⟨9, 0, none⟩) 3 18446744073709551616], 10,
   gC ++ [(3, .cells true 0 [iP 1, iP 2, iP 2, iP 1, iP 1, iP 1, iP 2, iP 2, iP 1]),
    (4, .cells true 0 [iP 1, iP 2, iP 1, iP 1, iP 1, iP 2]),
    (5, .cells true 0 [iP 1, iP 2, iP 2]),
    (6, .cells true 0 [iP 0, iN 0, iP 2, iP 10, iP 0, iP 1, iP 2, iP 6, iP 1, iP 1, iP 1, iP 4]),
    (7, .map [⟨.agg ⟨[iP 0, iP 0]⟩, .bool true, 0⟩, ⟨.agg ⟨[iP 1, iP 0]⟩, .bool false, 1⟩, ⟨.agg ⟨[iP 2, iP 0]⟩, .bool false, 2⟩, ⟨.agg ⟨[iP 3, iP 0]⟩, .bool false, 3⟩, ⟨.agg ⟨[iP 0, iP 1]⟩, .bool true, 4⟩, ⟨.agg ⟨[iP 1, iP 1]⟩, .bool false, 5⟩, ⟨.agg ⟨[iP 2, iP 1]⟩, .bool false, 6⟩, ⟨.agg ⟨[iP 3, iP 1]⟩, .bool true, 7⟩, ⟨.agg ⟨[iP 0, iP 2]⟩, .bool true, 8⟩, ⟨.agg ⟨[iP 1, iP 2]⟩, .bool false, 9⟩, ⟨.agg ⟨[iP 2, iP 2]⟩, .bool false, 10⟩, ⟨.agg ⟨[iP 3, iP 2]⟩, .bool true, 11⟩] 12),
    (8, .cells true 3 [iP 0, iP 0, iP 0, iP 1, iP 3, iP 2]),
    (9, .cells true 3 [iP 0, iP 0, iP 0, iP 1, iP 3, iP 1])],
   [],
   .bool false⟩
theorem fb11_h : fb11.holds EE := ent0 _ (by kernel_rfl) (by kernel_rfl)
-- (decani/founder.chest).isBetter, 1926 steps
noncomputable def fb15 : Ent :=
  ⟨47, [.agg ⟨[iP 4, iP 28, .slice (some ⟨3, 0, none⟩) 3 3, .slice (some ⟨4, 0, none⟩) 2 2, .bool false, .slice (some ⟨5, 0, none⟩) 1 1, .bool true, .slice none 0 0, .slice (some ⟨6, 0, none⟩) 1 1, .map (some 7), iP 0]⟩, .slice (some ⟨8, 0, none⟩) 3 18446744073709551616, .slice (some ⟨9, 0, none⟩) 4 18446744073709551616], 10,
   gC ++ [(3, .cells true 0 [iP 1, iP 2, iP 2, iP 1, iP 1, iP 1, iP 2, iP 2, iP 1]),
    (4, .cells true 0 [iP 1, iP 2, iP 1, iP 1, iP 1, iP 2]),
    (5, .cells true 0 [iP 1, iP 2, iP 2]),
    (6, .cells true 0 [iP 0, iP 3, iP 4, iP 1]),
    (7, .map [⟨.agg ⟨[iP 0, iP 0]⟩, .bool true, 0⟩, ⟨.agg ⟨[iP 1, iP 0]⟩, .bool true, 1⟩, ⟨.agg ⟨[iP 2, iP 0]⟩, .bool true, 2⟩, ⟨.agg ⟨[iP 3, iP 0]⟩, .bool true, 3⟩] 4),
    (8, .cells true 3 [iP 0, iP 0, iP 1, iP 0, iP 2, iP 0]),
    (9, .cells true 3 [iP 0, iP 0, iP 1, iP 0, iP 2, iP 0, iP 3, iP 0])],
   [],
   .bool false⟩
theorem fb15_h : fb15.holds EE := ent0 _ (by kernel_rfl) (by kernel_rfl)
-- (decani/founder.chest).isBetter, 1926 steps
noncomputable def fb17 : Ent :=
  ⟨47, [.agg ⟨[iP 4, iP 28, .slice (some ⟨3, 0, none⟩) 3 3, .slice (some ⟨4, 0, none⟩) 2 2, .bool false, .slice (some ⟨5, 0, none⟩) 1 1, .bool true, .slice none 0 0, .slice (some ⟨6, 0, none⟩) 1 1, .map (some 7), iP 2]⟩, .slice (some ⟨8, 0, none⟩) 3 18446744073709551616, .slice (some ⟨9, 0, none⟩) 4 18446744073709551616], 10,
   gC ++ [(3, .cells true 0 [iP 1, iP 2, iP 2, iP 1, iP 1, iP 1, iP 2, iP 2, iP 1]),
    (4, .cells true 0 [iP 1, iP 2, iP 1, iP 1, iP 1, iP 2]),
    (5, .cells true 0 [iP 1, iP 2, iP 2]),
    (6, .cells true 0 [iP 0, iP 3, iP 4, iP 1]),
    (7, .map [⟨.agg ⟨[iP 0, iP 0]⟩, .bool true, 0⟩, ⟨.agg ⟨[iP 1, iP 0]⟩, .bool true, 1⟩, ⟨.agg ⟨[iP 2, iP 0]⟩, .bool true, 2⟩, ⟨.agg ⟨[iP 3, iP 0]⟩, .bool true, 3⟩] 4),
    (8, .cells true 3 [iP 0, iP 0, iP 1, iP 0, iP 2, iP 0]),
    (9, .cells true 3 [iP 0, iP 0, iP 1, iP 0, iP 2, iP 0, iP 3, iP 0])],
   [],
   .bool false⟩
theorem fb17_h : fb17.holds EE := ent0 _ (by kernel_rfl) (by kernel_rfl)
-- (decani/founder.chest).isBetter, 1896 steps
noncomputable def fb21 : Ent :=
  ⟨47, [.agg ⟨[iP 4, iP 28, .slice (some ⟨3, 0, none⟩) 3 3, .slice (some ⟨4, 0, none⟩) 2 2, .bool false, .slice (some ⟨5, 0, none⟩) 1 1, .bool true, .slice (some ⟨6, 0, none⟩) 1 1, .slice (some ⟨7, 0, none⟩) 3 3, .map (some 8), iP 3]⟩, .slice (some ⟨9, 0, none⟩) 2 18446744073709551616, .slice (some ⟨10, 0, none⟩) 4 18446744073709551616], 11,
   gC ++ [(3, .cells true 0 [iP 1, iP 2, iP 2, iP 1, iP 1, iP 1, iP 2, iP 2, iP 1]),
    (4, .cells true 0 [iP 1, iP 2, iP 1, iP 1, iP 1, iP 2]),
    (5, .cells true 0 [iP 1, iP 2, iP 2]),
    (6, .cells true 0 [iP 0, iP 3, iP 2]),
    (7, .cells true 0 [iP 0, iN 0, iP 2, iP 10, iP 0, iP 1, iP 2, iP 6, iP 1, iP 1, iP 1, iP 4]),
    (8, .map [⟨.agg ⟨[iP 0, iP 0]⟩, .bool true, 0⟩, ⟨.agg ⟨[iP 1, iP 0]⟩, .bool false, 1⟩, ⟨.agg ⟨[iP 2, iP 0]⟩, .bool false, 2⟩, ⟨.agg ⟨[iP 3, iP 0]⟩, .bool false, 3⟩, ⟨.agg ⟨[iP 0, iP 1]⟩, .bool true, 4⟩, ⟨.agg ⟨[iP 1, iP 1]⟩, .bool true, 5⟩, ⟨.agg ⟨[iP 2, iP 1]⟩, .bool false, 6⟩, ⟨.agg ⟨[iP 3, iP 1]⟩, .bool true, 7⟩, ⟨.agg ⟨[iP 0, iP 2]⟩, .bool true, 8⟩, ⟨.agg ⟨[iP 1, iP 2]⟩, .bool true, 9⟩, ⟨.agg ⟨[iP 2, iP 2]⟩, .bool false, 10⟩, ⟨.agg ⟨[iP 3, iP 2]⟩, .bool true, 11⟩] 12),
    (9, .cells true 3 [iP 0, iP 0, iP 1, iP 1]),
    (10, .cells true 3 [iP 0, iP 0, iP 1, iP 1, iP 3, iP 1, iP 3, iP 2])],
   [],
   .bool false⟩
theorem fb21_h : fb21.holds EE := ent0 _ (by kernel_rfl) (by kernel_rfl)
-- (decani/founder.chest).isBetter, 1890 steps
noncomputable def fb25 : Ent :=
  ⟨47, [.agg ⟨[iP 4, iP 28, .slice (some ⟨3, 0, none⟩) 3 3, .slice (some ⟨4, 0, none⟩) 2 2, .bool false, .slice (some ⟨5, 0, none⟩) 1 1, .bool true, .slice (some ⟨6, 0, none⟩) 1 1, .slice (some ⟨7, 0, none⟩) 3 3, .map (some 8), iP 3]⟩, .slice (some ⟨9, 0, none⟩) 3 18446744073709551616, .slice (some ⟨10, 0, none⟩) 4 18446744073709551616], 11,
   gC ++ [(3, .cells true 0 [iP 1, iP 2, iP 2, iP 1, iP 1, iP 1, iP 2, iP 2, iP 1]),
    (4, .cells true 0 [iP 1, iP 2, iP 1, iP 1, iP 1, iP 2]),
    (5, .cells true 0 [iP 1, iP 2, iP 2]),
    (6, .cells true 0 [iP 0, iP 3, iP 2]),
    (7, .cells true 0 [iP 0, iN 0, iP 2, iP 10, iP 0, iP 1, iP 2, iP 6, iP 1, iP 1, iP 1, iP 4]),
    (8, .map [⟨.agg ⟨[iP 0, iP 0]⟩, .bool true, 0⟩, ⟨.agg ⟨[iP 1, iP 0]⟩, .bool false, 1⟩, ⟨.agg ⟨[iP 2, iP 0]⟩, .bool false, 2⟩, ⟨.agg ⟨[iP 3, iP 0]⟩, .bool false, 3⟩, ⟨.agg ⟨[iP 0, iP 1]⟩, .bool true, 4⟩, ⟨.agg ⟨[iP 1, iP 1]⟩, .bool true, 5⟩, ⟨.agg ⟨[iP 2, iP 1]⟩, .bool false, 6⟩, ⟨.agg ⟨[iP 3, iP 1]⟩, .bool true, 7⟩, ⟨.agg ⟨[iP 0, iP 2]⟩, .bool true, 8⟩, ⟨.agg ⟨[iP 1, iP 2]⟩, .bool true, 9⟩, ⟨.agg ⟨[iP 2, iP 2]⟩, .bool false, 10⟩, ⟨.agg ⟨[iP 3, iP 2]⟩, .bool true, 11⟩] 12),
    (9, .cells true 3 [iP 0, iP 0, iP 1, iP 2, iP 3, iP 1]),
    (10, .cells true 3 [iP 0, iP 0, iP 1, iP 1, iP 3, iP 1, iP 3, iP 2])],
   [],
   .bool false⟩
theorem fb25_h : fb25.holds EE := ent0 _ (by kernel_rfl) (by kernel_rfl)
-- (decani/founder.chest).isBetter, 1862 steps
noncomputable def fb30 : Ent :=
  ⟨47, [.agg ⟨[iP 4, iP 28, .slice (some ⟨3, 0, none⟩) 3 3, .slice (some ⟨4, 0, none⟩) 2 2, .bool false, .slice (some ⟨5, 0, none⟩) 1 1, .bool true, .slice none 0 0, .slice (some ⟨6, 0, none⟩) 1 1, .map (some 7), iN 0]⟩, .slice (some ⟨8, 0, none⟩) 3 18446744073709551616, .slice (some ⟨9, 0, none⟩) 4 18446744073709551616], 10,
   gC ++ [(3, .cells true 0 [iP 1, iP 2, iP 2, iP 1, iP 1, iP 1, iP 2, iP 2, iP 1]),
    (4, .cells true 0 [iP 1, iP 2, iP 1, iP 1, iP 1, iP 2]),
    (5, .cells true 0 [iP 1, iP 2, iP 2]),
    (6, .cells true 0 [iP 0, iP 3, iP 4, iP 1]),
    (7, .map [⟨.agg ⟨[iP 0, iP 0]⟩, .bool true, 0⟩, ⟨.agg ⟨[iP 1, iP 0]⟩, .bool true, 1⟩, ⟨.agg ⟨[iP 2, iP 0]⟩, .bool true, 2⟩, ⟨.agg ⟨[iP 3, iP 0]⟩, .bool true, 3⟩] 4),
    (8, .cells true 3 [iP 0, iP 0, iP 1, iP 0, iP 3, iP 0]),
    (9, .cells true 3 [iP 0, iP 0, iP 1, iP 0, iP 2, iP 0, iP 3, iP 0])],
   [],
   .bool false⟩
theorem fb30_h : fb30.holds EE := ent0 _ (by kernel_rfl) (by kernel_rfl)
-- (decani/founder.chest).isBetter, 1862 steps
noncomputable def fb33 : Ent :=
  ⟨47, [.agg ⟨[iP 4, iP 28, .slice (some ⟨3, 0, none⟩) 3 3, .slice (some ⟨4, 0, none⟩) 2 2, .bool false, .slice (some ⟨5, 0, none⟩) 1 1, .bool true, .slice none 0 0, .slice (some ⟨6, 0, none⟩) 1 1, .map (some 7), iP 2]⟩, .slice (some ⟨8, 0, none⟩) 3 18446744073709551616, .slice (some ⟨9, 0, none⟩) 4 18446744073709551616], 10,
   gC ++ [(3, .cells true 0 [iP 1, iP 2, iP 2, iP 1, iP 1, iP 1, iP 2, iP 2, iP 1]),
    (4, .cells true 0 [iP 1, iP 2, iP 1, iP 1, iP 1, iP 2]),
    (5, .cells true 0 [iP 1, iP 2, iP 2]),
    (6, .cells true 0 [iP 0, iP 3, iP 4, iP 1]),
    (7, .map [⟨.agg ⟨[iP 0, iP 0]⟩, .bool true, 0⟩, ⟨.agg ⟨[iP 1, iP 0]⟩, .bool true, 1⟩, ⟨.agg ⟨[iP 2, iP 0]⟩, .bool true, 2⟩, ⟨.agg ⟨[iP 3, iP 0]⟩, .bool true, 3⟩] 4),
    (8, .cells true 3 [iP 0, iP 0, iP 1, iP 0, iP 3, iP 0]),
    (9, .cells true 3 [iP 0, iP 0, iP 1, iP 0, iP 2, iP 0, iP 3, iP 0])],
   [],
   .bool false⟩
theorem fb33_h : fb33.holds EE := ent0 _ (by kernel_rfl) (by kernel_rfl)
-- (decani/founder.chest).isBetter, 1862 steps
noncomputable def fb37 : Ent :=
  ⟨47, [.agg ⟨[iP 4, iP 28, .slice (some ⟨3, 0, none⟩) 3 3, .slice (some ⟨4, 0, none⟩) 2 2, .bool false, .slice (some ⟨5, 0, none⟩) 1 1, .bool true, .slice (some ⟨6, 0, none⟩) 1 1, .slice (some ⟨7, 0, none⟩) 3 3, .map (some 8), iP 3]⟩, .slice (some ⟨9, 0, none⟩) 3 18446744073709551616, .slice (some ⟨10, 0, none⟩) 4 18446744073709551616], 11,
   gC ++ [(3, .cells true 0 [iP 1, iP 2, iP 2, iP 1, iP 1, iP 1, iP 2, iP 2, iP 1]),
    (4, .cells true 0 [iP 1, iP 2, iP 1, iP 1, iP 1, iP 2]),
    (5, .cells true 0 [iP 1, iP 2, iP 2]),
    (6, .cells true 0 [iP 0, iP 3, iP 2]),
    (7, .cells true 0 [iP 0, iN 0, iP 2, iP 10, iP 0, iP 1, iP 2, iP 6, iP 1, iP 1, iP 1, iP 4]),
    (8, .map [⟨.agg ⟨[iP 0, iP 0]⟩, .bool true, 0⟩, ⟨.agg ⟨[iP 1, iP 0]⟩, .bool false, 1⟩, ⟨.agg ⟨[iP 2, iP 0]⟩, .bool false, 2⟩, ⟨.agg ⟨[iP 3, iP 0]⟩, .bool false, 3⟩, ⟨.agg ⟨[iP 0, iP 1]⟩, .bool true, 4⟩, ⟨.agg ⟨[iP 1, iP 1]⟩, .bool true, 5⟩, ⟨.agg ⟨[iP 2, iP 1]⟩, .bool false, 6⟩, ⟨.agg ⟨[iP 3, iP 1]⟩, .bool true, 7⟩, ⟨.agg ⟨[iP 0, iP 2]⟩, .bool true, 8⟩, ⟨.agg ⟨[iP 1, iP 2]⟩, .bool true, 9⟩, ⟨.agg ⟨[iP 2, iP 2]⟩, .bool false, 10⟩, ⟨.agg ⟨[iP 3, iP 2]⟩, .bool true, 11⟩] 12),
    (9, .cells true 3 [iP 0, iP 0, iP 3, iP 1, iP 3, iP 2]),
    (10, .cells true 3 [iP 0, iP 0, iP 1, iP 1, iP 3, iP 1, iP 3, iP 2])],
   [],
   .bool false⟩
theorem fb37_h : fb37.holds EE := ent0 _ (by kernel_rfl) (by kernel_rfl)
-- (decani/founder.chest).isBetter, 1860 steps
noncomputable def fb41 : Ent :=
  ⟨47, [.agg ⟨[iP 4, iP 28, .slice (some ⟨3, 0, none⟩) 3 3, .slice (some ⟨4, 0, none⟩) 2 2, .bool false, .slice (some ⟨5, 0, none⟩) 1 1, .bool true, .slice (some ⟨6, 0, none⟩) 1 1, .slice (some ⟨7, 0, none⟩) 3 3, .map (some 8), iP 1]⟩, .slice (some ⟨9, 0, none⟩) 2 18446744073709551616, .slice (some ⟨10, 0, none⟩) 4 18446744073709551616], 11,
   gC ++ [(3, .cells true 0 [iP 1, iP 2, iP 2, iP 1, iP 1, iP 1, iP 2, iP 2, iP 1]),
    (4, .cells true 0 [iP 1, iP 2, iP 1, iP 1, iP 1, iP 2]),
    (5, .cells true 0 [iP 1, iP 2, iP 2]),
    (6, .cells true 0 [iP 0, iP 3, iP 2]),
    (7, .cells true 0 [iP 0, iN 0, iP 2, iP 10, iP 0, iP 1, iP 2, iP 6, iP 1, iP 1, iP 1, iP 4]),
    (8, .map [⟨.agg ⟨[iP 0, iP 0]⟩, .bool true, 0⟩, ⟨.agg ⟨[iP 1, iP 0]⟩, .bool false, 1⟩, ⟨.agg ⟨[iP 2, iP 0]⟩, .bool false, 2⟩, ⟨.agg ⟨[iP 3, iP 0]⟩, .bool false, 3⟩, ⟨.agg ⟨[iP 0, iP 1]⟩, .bool true, 4⟩, ⟨.agg ⟨[iP 1, iP 1]⟩, .bool true, 5⟩, ⟨.agg ⟨[iP 2, iP 1]⟩, .bool false, 6⟩, ⟨.agg ⟨[iP 3, iP 1]⟩, .bool true, 7⟩, ⟨.agg ⟨[iP 0, iP 2]⟩, .bool true, 8⟩, ⟨.agg ⟨[iP 1, iP 2]⟩, .bool true, 9⟩, ⟨.agg ⟨[iP 2, iP 2]⟩, .bool false, 10⟩, ⟨.agg ⟨[iP 3, iP 2]⟩, .bool true, 11⟩] 12),
    (9, .cells true 3 [iP 0, iP 0, iP 1, iP 2]),
    (10, .cells true 3 [iP 0, iP 0, iP 1, iP 1, iP 1, iP 2, iP 3, iP 1])],
   [],
   .bool false⟩
theorem fb41_h : fb41.holds EE := ent0 _ (by kernel_rfl) (by kernel_rfl)
-- (decani/founder.chest).isBetter, 1832 steps
noncomputable def fb45 : Ent :=
  ⟨47, [.agg ⟨[iP 4, iP 28, .slice (some ⟨3, 0, none⟩) 3 3, .slice (some ⟨4, 0, none⟩) 2 2, .bool false, .slice (some ⟨5, 0, none⟩) 1 1, .bool true, .slice (some ⟨6, 0, none⟩) 1 1, .slice (some ⟨7, 0, none⟩) 3 3, .map (some 8), iP 0]⟩, .slice (some ⟨9, 0, none⟩) 2 18446744073709551616, .slice (some ⟨10, 0, none⟩) 4 18446744073709551616], 11,
   gC ++ [(3, .cells true 0 [iP 1, iP 2, iP 2, iP 1, iP 1, iP 1, iP 2, iP 2, iP 1]),
    (4, .cells true 0 [iP 1, iP 2, iP 1, iP 1, iP 1, iP 2]),
    (5, .cells true 0 [iP 1, iP 2, iP 2]),
    (6, .cells true 0 [iP 0, iP 3, iP 2]),
    (7, .cells true 0 [iP 0, iN 0, iP 2, iP 10, iP 0, iP 1, iP 2, iP 6, iP 1, iP 1, iP 1, iP 4]),
    (8, .map [⟨.agg ⟨[iP 0, iP 0]⟩, .bool true, 0⟩, ⟨.agg ⟨[iP 1, iP 0]⟩, .bool false, 1⟩, ⟨.agg ⟨[iP 2, iP 0]⟩, .bool false, 2⟩, ⟨.agg ⟨[iP 3, iP 0]⟩, .bool false, 3⟩, ⟨.agg ⟨[iP 0, iP 1]⟩, .bool true, 4⟩, ⟨.agg ⟨[iP 1, iP 1]⟩, .bool true, 5⟩, ⟨.agg ⟨[iP 2, iP 1]⟩, .bool false, 6⟩, ⟨.agg ⟨[iP 3, iP 1]⟩, .bool true, 7⟩, ⟨.agg ⟨[iP 0, iP 2]⟩, .bool true, 8⟩, ⟨.agg ⟨[iP 1, iP 2]⟩, .bool true, 9⟩, ⟨.agg ⟨[iP 2, iP 2]⟩, .bool false, 10⟩, ⟨.agg ⟨[iP 3, iP 2]⟩, .bool true, 11⟩] 12),
    (9, .cells true 3 [iP 0, iP 0, iP 1, iP 1]),
    (10, .cells true 3 [iP 0, iP 0, iP 0, iP 1, iP 1, iP 1, iP 3, iP 2])],
   [],
   .bool false⟩
theorem fb45_h : fb45.holds EE := ent0 _ (by kernel_rfl) (by kernel_rfl)
-- (decani/founder.chest).isBetter, 1832 steps
noncomputable def fb48 : Ent :=
  ⟨47, [.agg ⟨[iP 4, iP 28, .slice (some ⟨3, 0, none⟩) 3 3, .slice (some ⟨4, 0, none⟩) 2 2, .bool false, .slice (some ⟨5, 0, none⟩) 1 1, .bool true, .slice (some ⟨6, 0, none⟩) 1 1, .slice (some ⟨7, 0, none⟩) 3 3, .map (some 8), iP 3]⟩, .slice (some ⟨9, 0, none⟩) 2 18446744073709551616, .slice (some ⟨10, 0, none⟩) 4 18446744073709551616], 11,
   gC ++ [(3, .cells true 0 [iP 1, iP 2, iP 2, iP 1, iP 1, iP 1, iP 2, iP 2, iP 1]),
    (4, .cells true 0 [iP 1, iP 2, iP 1, iP 1, iP 1, iP 2]),
    (5, .cells true 0 [iP 1, iP 2, iP 2]),
    (6, .cells true 0 [iP 0, iP 3, iP 2]),
    (7, .cells true 0 [iP 0, iN 0, iP 2, iP 10, iP 0, iP 1, iP 2, iP 6, iP 1, iP 1, iP 1, iP 4]),
    (8, .map [⟨.agg ⟨[iP 0, iP 0]⟩, .bool true, 0⟩, ⟨.agg ⟨[iP 1, iP 0]⟩, .bool false, 1⟩, ⟨.agg ⟨[iP 2, iP 0]⟩, .bool false, 2⟩, ⟨.agg ⟨[iP 3, iP 0]⟩, .bool false, 3⟩, ⟨.agg ⟨[iP 0, iP 1]⟩, .bool true, 4⟩, ⟨.agg ⟨[iP 1, iP 1]⟩, .bool true, 5⟩, ⟨.agg ⟨[iP 2, iP 1]⟩, .bool false, 6⟩, ⟨.agg ⟨[iP 3, iP 1]⟩, .bool true, 7⟩, ⟨.agg ⟨[iP 0, iP 2]⟩, .bool true, 8⟩, ⟨.agg ⟨[iP 1, iP 2]⟩, .bool true, 9⟩, ⟨.agg ⟨[iP 2, iP 2]⟩, .bool false, 10⟩, ⟨.agg ⟨[iP 3, iP 2]⟩, .bool true, 11⟩] 12),
    (9, .cells true 3 [iP 0, iP 0, iP 3, iP 1]),
    (10, .cells true 3 [iP 0, iP 0, iP 1, iP 1, iP 3, iP 1, iP 3, iP 2])],
   [],
   .bool false⟩
theorem fb48_h : fb48.holds EE := ent0 _ (by kernel_rfl) (by kernel_rfl)
-- (decani/founder.chest).isBetter, 1831 steps
noncomputable def fb52 : Ent :=
  ⟨47, [.agg ⟨[iP 4, iP 28, .slice (some ⟨3, 0, none⟩) 3 3, .slice (some ⟨4, 0, none⟩) 2 2, .bool false, .slice (some ⟨5, 0, none⟩) 1 1, .bool true, .slice (some ⟨6, 0, none⟩) 1 1, .slice (some ⟨7, 0, none⟩) 3 3, .map (some 8), iP 3]⟩, .slice (some ⟨9, 0, none⟩) 2 18446744073709551616, .slice (some ⟨10, 0, none⟩) 4 18446744073709551616], 11,
   gC ++ [(3, .cells true 0 [iP 1, iP 2, iP 2, iP 1, iP 1, iP 1, iP 2, iP 2, iP 1]),
    (4, .cells true 0 [iP 1, iP 2, iP 1, iP 1, iP 1, iP 2]),
    (5, .cells true 0 [iP 1, iP 2, iP 2]),
    (6, .cells true 0 [iP 0, iP 3, iP 2]),
    (7, .cells true 0 [iP 0, iN 0, iP 2, iP 10, iP 0, iP 1, iP 2, iP 6, iP 1, iP 1, iP 1, iP 4]),
    (8, .map [⟨.agg ⟨[iP 0, iP 0]⟩, .bool true, 0⟩, ⟨.agg ⟨[iP 1, iP 0]⟩, .bool false, 1⟩, ⟨.agg ⟨[iP 2, iP 0]⟩, .bool false, 2⟩, ⟨.agg ⟨[iP 3, iP 0]⟩, .bool false, 3⟩, ⟨.agg ⟨[iP 0, iP 1]⟩, .bool true, 4⟩, ⟨.agg ⟨[iP 1, iP 1]⟩, .bool true, 5⟩, ⟨.agg ⟨[iP 2, iP 1]⟩, .bool false, 6⟩, ⟨.agg ⟨[iP 3, iP 1]⟩, .bool true, 7⟩, ⟨.agg ⟨[iP 0, iP 2]⟩, .bool true, 8⟩, ⟨.agg ⟨[iP 1, iP 2]⟩, .bool true, 9⟩, ⟨.agg ⟨[iP 2, iP 2]⟩, .bool false, 10⟩, ⟨.agg ⟨[iP 3, iP 2]⟩, .bool true, 11⟩] 12),
    (9, .cells true 3 [iP 0, iP 0, iP 3, iP 2]),
    (10, .cells true 3 [iP 0, iP 0, iP 1, iP 1, iP 3, iP 1, iP 3, iP 2])],
   [],
   .bool false⟩
theorem fb52_h : fb52.holds EE := ent0 _ (by kernel_rfl) (by kernel_rfl)
-- (decani/founder.chest).isBetter, 1830 steps
noncomputable def fb56 : Ent :=
  ⟨47, [.agg ⟨[iP 4, iP 28, .slice (some ⟨3, 0, none⟩) 3 3, .slice (some ⟨4, 0, none⟩) 2 2, .bool false, .slice (some ⟨5, 0, none⟩) 1 1, .bool true, .slice none 0 0, .slice (some ⟨6, 0, none⟩) 3 3, .map (some 7), iP 3]⟩, .slice (some ⟨8, 0, none⟩) 2 18446744073709551616, .slice (some ⟨9, 0, none⟩) 3 18446744073709551616], 10,
   gC ++ [(3, .cells true 0 [iP 1, iP 2, iP 2, iP 1, iP 1, iP 1, iP 2, iP 2, iP 1]),
    (4, .cells true 0 [iP 1, iP 2, iP 1, iP 1, iP 1, iP 2]),
    (5, .cells true 0 [iP 1, iP 2, iP 2]),
    (6, .cells true 0 [iP 0, iN 0, iP 2, iP 10, iP 0, iP 1, iP 2, iP 6, iP 1, iP 1, iP 1, iP 4]),
    (7, .map [⟨.agg ⟨[iP 0, iP 0]⟩, .bool true, 0⟩, ⟨.agg ⟨[iP 1, iP 0]⟩, .bool false, 1⟩, ⟨.agg ⟨[iP 2, iP 0]⟩, .bool false, 2⟩, ⟨.agg ⟨[iP 3, iP 0]⟩, .bool false, 3⟩, ⟨.agg ⟨[iP 0, iP 1]⟩, .bool true, 4⟩, ⟨.agg ⟨[iP 1, iP 1]⟩, .bool false, 5⟩, ⟨.agg ⟨[iP 2, iP 1]⟩, .bool false, 6⟩, ⟨.agg ⟨[iP 3, iP 1]⟩, .bool true, 7⟩, ⟨.agg ⟨[iP 0, iP 2]⟩, .bool true, 8⟩, ⟨.agg ⟨[iP 1, iP 2]⟩, .bool false, 9⟩, ⟨.agg ⟨[iP 2, iP 2]⟩, .bool false, 10⟩, ⟨.agg ⟨[iP 3, iP 2]⟩, .bool true, 11⟩] 12),
    (8, .cells true 3 [iP 0, iP 0, iP 3, iP 2]),
    (9, .cells true 3 [iP 0, iP 0, iP 3, iP 1, iP 3, iP 2])],
   [],
   .bool false⟩
theorem fb56_h : fb56.holds EE := ent0 _ (by kernel_rfl) (by kernel_rfl)
-- (decani/founder.chest).isBetter, 1801 steps
noncomputable def fb62 : Ent :=
  ⟨47, [.agg ⟨[iP 4, iP 28, .slice (some ⟨3, 0, none⟩) 3 3, .slice (some ⟨4, 0, none⟩) 2 2, .bool false, .slice (some ⟨5, 0, none⟩) 1 1, .bool true, .slice none 0 0, .slice (some ⟨6, 0, none⟩) 3 3, .map (some 7), iP 0]⟩, .slice (some ⟨8, 0, none⟩) 2 18446744073709551616, .slice (some ⟨9, 0, none⟩) 3 18446744073709551616], 10,
   gC ++ [(3, .cells true 0 [iP 1, iP 2, iP 2, iP 1, iP 1, iP 1, iP 2, iP 2, iP 1]),
    (4, .cells true 0 [iP 1, iP 2, iP 1, iP 1, iP 1, iP 2]),
    (5, .cells true 0 [iP 1, iP 2, iP 2]),
    (6, .cells true 0 [iP 0, iN 0, iP 2, iP 10, iP 0, iP 1, iP 2, iP 6, iP 1, iP 1, iP 1, iP 4]),
    (7, .map [⟨.agg ⟨[iP 0, iP 0]⟩, .bool true, 0⟩, ⟨.agg ⟨[iP 1, iP 0]⟩, .bool false, 1⟩, ⟨.agg ⟨[iP 2, iP 0]⟩, .bool false, 2⟩, ⟨.agg ⟨[iP 3, iP 0]⟩, .bool false, 3⟩, ⟨.agg ⟨[iP 0, iP 1]⟩, .bool true, 4⟩, ⟨.agg ⟨[iP 1, iP 1]⟩, .bool false, 5⟩, ⟨.agg ⟨[iP 2, iP 1]⟩, .bool false, 6⟩, ⟨.agg ⟨[iP 3, iP 1]⟩, .bool true, 7⟩, ⟨.agg ⟨[iP 0, iP 2]⟩, .bool true, 8⟩, ⟨.agg ⟨[iP 1, iP 2]⟩, .bool false, 9⟩, ⟨.agg ⟨[iP 2, iP 2]⟩, .bool false, 10⟩, ⟨.agg ⟨[iP 3, iP 2]⟩, .bool true, 11⟩] 12),
    (8, .cells true 3 [iP 0, iP 0, iP 3, iP 2]),
    (9, .cells true 3 [iP 0, iP 0, iP 0, iP 1, iP 3, iP 1])],
   [],
   .bool false⟩
theorem fb62_h : fb62.holds EE := ent0 _ (by kernel_rfl) (by kernel_rfl)
-- (decani/founder.chest).isBetter, 1568 steps
noncomputable def fb66 : Ent :=
  ⟨47, [.agg ⟨[iP 4, iP 28, .slice (some ⟨3, 0, none⟩) 3 3, .slice (some ⟨4, 0, none⟩) 2 2, .bool false, .slice (some ⟨5, 0, none⟩) 1 1, .bool true, .slice none 0 0, .slice (some ⟨6, 0, none⟩) 1 1, .map (some 7), iN 0]⟩, .slice (some ⟨8, 0, none⟩) 2 18446744073709551616, .slice (some ⟨9, 0, none⟩) 4 18446744073709551616], 10,
   gC ++ [(3, .cells true 0 [iP 1, iP 2, iP 2, iP 1, iP 1, iP 1, iP 2, iP 2, iP 1]),
    (4, .cells true 0 [iP 1, iP 2, iP 1, iP 1, iP 1, iP 2]),
    (5, .cells true 0 [iP 1, iP 2, iP 2]),
    (6, .cells true 0 [iP 0, iP 3, iP 4, iP 1]),
    (7, .map [⟨.agg ⟨[iP 0, iP 0]⟩, .bool true, 0⟩, ⟨.agg ⟨[iP 1, iP 0]⟩, .bool true, 1⟩, ⟨.agg ⟨[iP 2, iP 0]⟩, .bool true, 2⟩, ⟨.agg ⟨[iP 3, iP 0]⟩, .bool true, 3⟩] 4),
    (8, .cells true 3 [iP 0, iP 0, iP 1, iP 0]),
    (9, .cells true 3 [iP 0, iP 0, iP 1, iP 0, iP 2, iP 0, iP 3, iP 0])],
   [],
   .bool false⟩
theorem fb66_h : fb66.holds EE := ent0 _ (by kernel_rfl) (by kernel_rfl)
-- (decani/founder.chest).isBetter, 1568 steps
noncomputable def fb68 : Ent :=
  ⟨47, [.agg ⟨[iP 4, iP 28, .slice (some ⟨3, 0, none⟩) 3 3, .slice (some ⟨4, 0, none⟩) 2 2, .bool false, .slice (some ⟨5, 0, none⟩) 1 1, .bool true, .slice none 0 0, .slice (some ⟨6, 0, none⟩) 1 1, .map (some 7), iP 1]⟩, .slice (some ⟨8, 0, none⟩) 2 18446744073709551616, .slice (some ⟨9, 0, none⟩) 4 18446744073709551616], 10,
   gC ++ [(3, .cells true 0 [iP 1, iP 2, iP 2, iP 1, iP 1, iP 1, iP 2, iP 2, iP 1]),
    (4, .cells true 0 [iP 1, iP 2, iP 1, iP 1, iP 1, iP 2]),
    (5, .cells true 0 [iP 1, iP 2, iP 2]),
    (6, .cells true 0 [iP 0, iP 3, iP 4, iP 1]),
    (7, .map [⟨.agg ⟨[iP 0, iP 0]⟩, .bool true, 0⟩, ⟨.agg ⟨[iP 1, iP 0]⟩, .bool true, 1⟩, ⟨.agg ⟨[iP 2, iP 0]⟩, .bool true, 2⟩, ⟨.agg ⟨[iP 3, iP 0]⟩, .bool true, 3⟩] 4),
    (8, .cells true 3 [iP 0, iP 0, iP 1, iP 0]),
    (9, .cells true 3 [iP 0, iP 0, iP 1, iP 0, iP 2, iP 0, iP 3, iP 0])],
   [],
   .bool false⟩
theorem fb68_h : fb68.holds EE := ent0 _ (by kernel_rfl) (by kernel_rfl)
-- (decani/founder.chest).isBetter, 1562 steps
noncomputable def fb72 : Ent :=
  ⟨47, [.agg ⟨[iP 4, iP 28, .slice (some ⟨3, 0, none⟩) 3 3, .slice (some ⟨4, 0, none⟩) 2 2, .bool false, .slice (some ⟨5, 0, none⟩) 1 1, .bool true, .slice (some ⟨6, 0, none⟩) 1 1, .slice (some ⟨7, 0, none⟩) 3 3, .map (some 8), iP 0]⟩, .slice (some ⟨9, 0, none⟩) 3 18446744073709551616, .slice (some ⟨10, 0, none⟩) 4 18446744073709551616], 11,
   gC ++ [(3, .cells true 0 [iP 1, iP 2, iP 2, iP 1, iP 1, iP 1, iP 2, iP 2, iP 1]),
    (4, .cells true 0 [iP 1, iP 2, iP 1, iP 1, iP 1, iP 2]),
    (5, .cells true 0 [iP 1, iP 2, iP 2]),
    (6, .cells true 0 [iP 0, iP 3, iP 2]),
    (7, .cells true 0 [iP 0, iN 0, iP 2, iP 10, iP 0, iP 1, iP 2, iP 6, iP 1, iP 1, iP 1, iP 4]),
    (8, .map [⟨.agg ⟨[iP 0, iP 0]⟩, .bool true, 0⟩, ⟨.agg ⟨[iP 1, iP 0]⟩, .bool false, 1⟩, ⟨.agg ⟨[iP 2, iP 0]⟩, .bool false, 2⟩, ⟨.agg ⟨[iP 3, iP 0]⟩, .bool false, 3⟩, ⟨.agg ⟨[iP 0, iP 1]⟩, .bool true, 4⟩, ⟨.agg ⟨[iP 1, iP 1]⟩, .bool true, 5⟩, ⟨.agg ⟨[iP 2, iP 1]⟩, .bool false, 6⟩, ⟨.agg ⟨[iP 3, iP 1]⟩, .bool true, 7⟩, ⟨.agg ⟨[iP 0, iP 2]⟩, .bool true, 8⟩, ⟨.agg ⟨[iP 1, iP 2]⟩, .bool true, 9⟩, ⟨.agg ⟨[iP 2, iP 2]⟩, .bool false, 10⟩, ⟨.agg ⟨[iP 3, iP 2]⟩, .bool true, 11⟩] 12),
    (9, .cells true 3 [iP 0, iP 1, iP 0, iP 2, iP 3, iP 1]),
    (10, .cells true 3 [iP 0, iP 0, iP 0, iP 1, iP 1, iP 1, iP 3, iP 2])],
   [],
   .bool false⟩
theorem fb72_h : fb72.holds EE := ent0 _ (by kernel_rfl) (by kernel_rfl)
-- (decani/founder.chest).isBetter, 1562 steps
noncomputable def fb76 : Ent :=
  ⟨47, [.agg ⟨[iP 4, iP 28, .slice (some ⟨3, 0, none⟩) 3 3, .slice (some ⟨4, 0, none⟩) 2 2, .bool false, .slice (some ⟨5, 0, none⟩) 1 1, .bool true, .slice (some ⟨6, 0, none⟩) 1 1, .slice (some ⟨7, 0, none⟩) 3 3, .map (some 8), iP 1]⟩, .slice (some ⟨9, 0, none⟩) 3 18446744073709551616, .slice (some ⟨10, 0, none⟩) 4 18446744073709551616], 11,
   gC ++ [(3, .cells true 0 [iP 1, iP 2, iP 2, iP 1, iP 1, iP 1, iP 2, iP 2, iP 1]),
    (4, .cells true 0 [iP 1, iP 2, iP 1, iP 1, iP 1, iP 2]),
    (5, .cells true 0 [iP 1, iP 2, iP 2]),
    (6, .cells true 0 [iP 0, iP 3, iP 2]),
    (7, .cells true 0 [iP 0, iN 0, iP 2, iP 10, iP 0, iP 1, iP 2, iP 6, iP 1, iP 1, iP 1, iP 4]),
    (8, .map [⟨.agg ⟨[iP 0, iP 0]⟩, .bool true, 0⟩, ⟨.agg ⟨[iP 1, iP 0]⟩, .bool false, 1⟩, ⟨.agg ⟨[iP 2, iP 0]⟩, .bool false, 2⟩, ⟨.agg ⟨[iP 3, iP 0]⟩, .bool false, 3⟩, ⟨.agg ⟨[iP 0, iP 1]⟩, .bool true, 4⟩, ⟨.agg ⟨[iP 1, iP 1]⟩, .bool true, 5⟩, ⟨.agg ⟨[iP 2, iP 1]⟩, .bool false, 6⟩, ⟨.agg ⟨[iP 3, iP 1]⟩, .bool true, 7⟩, ⟨.agg ⟨[iP 0, iP 2]⟩, .bool true, 8⟩, ⟨.agg ⟨[iP 1, iP 2]⟩, .bool true, 9⟩, ⟨.agg ⟨[iP 2, iP 2]⟩, .bool false, 10⟩, ⟨.agg ⟨[iP 3, iP 2]⟩, .bool true, 11⟩] 12),
    (9, .cells true 3 [iP 0, iP 1, iP 1, iP 1, iP 1, iP 2]),
    (10, .cells true 3 [iP 0, iP 0, iP 1, iP 1, iP 1, iP 2, iP 3, iP 1])],
   [],
   .bool false⟩
theorem fb76_h : fb76.holds EE := ent0 _ (by kernel_rfl) (by kernel_rfl)
-- (decani/founder.chest).isBetter, 1562 steps
noncomputable def fb80 : Ent :=
  ⟨47, [.agg ⟨[iP 4, iP 28, .slice (some ⟨3, 0, none⟩) 3 3, .slice (some ⟨4, 0, none⟩) 2 2, .bool false, .slice (some ⟨5, 0, none⟩) 1 1, .bool true, .slice (some ⟨6, 0, none⟩) 1 1, .slice (some ⟨7, 0, none⟩) 3 3, .map (some 8), iP 3]⟩, .slice (some ⟨9, 0, none⟩) 3 18446744073709551616, .slice (some ⟨10, 0, none⟩) 4 18446744073709551616], 11,
   gC ++ [(3, .cells true 0 [iP 1, iP 2, iP 2, iP 1, iP 1, iP 1, iP 2, iP 2, iP 1]),
    (4, .cells true 0 [iP 1, iP 2, iP 1, iP 1, iP 1, iP 2]),
    (5, .cells true 0 [iP 1, iP 2, iP 2]),
    (6, .cells true 0 [iP 0, iP 3, iP 2]),
    (7, .cells true 0 [iP 0, iN 0, iP 2, iP 10, iP 0, iP 1, iP 2, iP 6, iP 1, iP 1, iP 1, iP 4]),
    (8, .map [⟨.agg ⟨[iP 0, iP 0]⟩, .bool true, 0⟩, ⟨.agg ⟨[iP 1, iP 0]⟩, .bool false, 1⟩, ⟨.agg ⟨[iP 2, iP 0]⟩, .bool false, 2⟩, ⟨.agg ⟨[iP 3, iP 0]⟩, .bool false, 3⟩, ⟨.agg ⟨[iP 0, iP 1]⟩, .bool true, 4⟩, ⟨.agg ⟨[iP 1, iP 1]⟩, .bool true, 5⟩, ⟨.agg ⟨[iP 2, iP 1]⟩, .bool false, 6⟩, ⟨.agg ⟨[iP 3, iP 1]⟩, .bool true, 7⟩, ⟨.agg ⟨[iP 0, iP 2]⟩, .bool true, 8⟩, ⟨.agg ⟨[iP 1, iP 2]⟩, .bool true, 9⟩, ⟨.agg ⟨[iP 2, iP 2]⟩, .bool false, 10⟩, ⟨.agg ⟨[iP 3, iP 2]⟩, .bool true, 11⟩] 12),
    (9, .cells true 3 [iP 0, iP 1, iP 1, iP 1, iP 3, iP 2]),
    (10, .cells true 3 [iP 0, iP 0, iP 1, iP 1, iP 3, iP 1, iP 3, iP 2])],
   [],
   .bool false⟩
theorem fb80_h : fb80.holds EE := ent0 _ (by kernel_rfl) (by kernel_rfl)
-- (decani/founder.chest).isBetter, 1538 steps
noncomputable def fb84 : Ent :=
  ⟨47, [.agg ⟨[iP 4, iP 28, .slice (some ⟨3, 0, none⟩) 3 3, .slice (some ⟨4, 0, none⟩) 2 2, .bool false, .slice (some ⟨5, 0, none⟩) 1 1, .bool true, .slice (some ⟨6, 0, none⟩) 1 1, .slice (some ⟨7, 0, none⟩) 3 3, .map (some 8), iP 0]⟩, .slice (some ⟨9, 0, none⟩) 1 18446744073709551616, .slice (some ⟨10, 0, none⟩) 4 18446744073709551616], 11,
   gC ++ [(3, .cells true 0 [iP 1, iP 2, iP 2, iP 1, iP 1, iP 1, iP 2, iP 2, iP 1]),
    (4, .cells true 0 [iP 1, iP 2, iP 1, iP 1, iP 1, iP 2]),
    (5, .cells true 0 [iP 1, iP 2, iP 2]),
    (6, .cells true 0 [iP 0, iP 3, iP 2]),
    (7, .cells true 0 [iP 0, iN 0, iP 2, iP 10, iP 0, iP 1, iP 2, iP 6, iP 1, iP 1, iP 1, iP 4]),
    (8, .map [⟨.agg ⟨[iP 0, iP 0]⟩, .bool true, 0⟩, ⟨.agg ⟨[iP 1, iP 0]⟩, .bool false, 1⟩, ⟨.agg ⟨[iP 2, iP 0]⟩, .bool false, 2⟩, ⟨.agg ⟨[iP 3, iP 0]⟩, .bool false, 3⟩, ⟨.agg ⟨[iP 0, iP 1]⟩, .bool true, 4⟩, ⟨.agg ⟨[iP 1, iP 1]⟩, .bool true, 5⟩, ⟨.agg ⟨[iP 2, iP 1]⟩, .bool false, 6⟩, ⟨.agg ⟨[iP 3, iP 1]⟩, .bool true, 7⟩, ⟨.agg ⟨[iP 0, iP 2]⟩, .bool true, 8⟩, ⟨.agg ⟨[iP 1, iP 2]⟩, .bool true, 9⟩, ⟨.agg ⟨[iP 2, iP 2]⟩, .bool false, 10⟩, ⟨.agg ⟨[iP 3, iP 2]⟩, .bool true, 11⟩] 12),
    (9, .cells true 3 [iP 0, iP 0]),
    (10, .cells true 3 [iP 0, iP 0, iP 0, iP 1, iP 1, iP 1, iP 3, iP 2])],
   [],
   .bool false⟩
theorem fb84_h : fb84.holds EE := ent0 _ (by kernel_rfl) (by kernel_rfl)
-- (decani/founder.chest).isBetter, 1534 steps
noncomputable def fb88 : Ent :=
  ⟨47, [.agg ⟨[iP 4, iP 28, .slice (some ⟨3, 0, none⟩) 3 3, .slice (some ⟨4, 0, none⟩) 2 2, .bool false, .slice (some ⟨5, 0, none⟩) 1 1, .bool true, .slice none 0 0, .slice (some ⟨6, 0, none⟩) 1 1, .map (some 7), iP 0]⟩, .slice (some ⟨8, 0, none⟩) 3 18446744073709551616, .slice (some ⟨9, 0, none⟩) 4 18446744073709551616], 10,
   gC ++ [(3, .cells true 0 [iP 1, iP 2, iP 2, iP 1, iP 1, iP 1, iP 2, iP 2, iP 1]),
    (4, .cells true 0 [iP 1, iP 2, iP 1, iP 1, iP 1, iP 2]),
    (5, .cells true 0 [iP 1, iP 2, iP 2]),
    (6, .cells true 0 [iP 0, iP 3, iP 4, iP 1]),
    (7, .map [⟨.agg ⟨[iP 0, iP 0]⟩, .bool true, 0⟩, ⟨.agg ⟨[iP 1, iP 0]⟩, .bool true, 1⟩, ⟨.agg ⟨[iP 2, iP 0]⟩, .bool true, 2⟩, ⟨.agg ⟨[iP 3, iP 0]⟩, .bool true, 3⟩] 4),
    (8, .cells true 3 [iP 0, iP 0, iP 2, iP 0, iP 3, iP 0]),
    (9, .cells true 3 [iP 0, iP 0, iP 1, iP 0, iP 2, iP 0, iP 3, iP 0])],
   [],
   .bool false⟩
theorem fb88_h : fb88.holds EE := ent0 _ (by kernel_rfl) (by kernel_rfl)
-- (decani/founder.chest).isBetter, 1533 steps
noncomputable def fb92 : Ent :=
  ⟨47, [.agg ⟨[iP 4, iP 28, .slice (some ⟨3, 0, none⟩) 3 3, .slice (some ⟨4, 0, none⟩) 2 2, .bool false, .slice (some ⟨5, 0, none⟩) 1 1, .bool true, .slice (some ⟨6, 0, none⟩) 1 1, .slice (some ⟨7, 0, none⟩) 3 3, .map (some 8), iP 1]⟩, .slice (some ⟨9, 0, none⟩) 3 18446744073709551616, .slice (some ⟨10, 0, none⟩) 4 18446744073709551616], 11,
   gC ++ [(3, .cells true 0 [iP 1, iP 2, iP 2, iP 1, iP 1, iP 1, iP 2, iP 2, iP 1]),
    (4, .cells true 0 [iP 1, iP 2, iP 1, iP 1, iP 1, iP 2]),
    (5, .cells true 0 [iP 1, iP 2, iP 2]),
    (6, .cells true 0 [iP 0, iP 3, iP 2]),
    (7, .cells true 0 [iP 0, iN 0, iP 2, iP 10, iP 0, iP 1, iP 2, iP 6, iP 1, iP 1, iP 1, iP 4]),
    (8, .map [⟨.agg ⟨[iP 0, iP 0]⟩, .bool true, 0⟩, ⟨.agg ⟨[iP 1, iP 0]⟩, .bool false, 1⟩, ⟨.agg ⟨[iP 2, iP 0]⟩, .bool false, 2⟩, ⟨.agg ⟨[iP 3, iP 0]⟩, .bool false, 3⟩, ⟨.agg ⟨[iP 0, iP 1]⟩, .bool true, 4⟩, ⟨.agg ⟨[iP 1, iP 1]⟩, .bool true, 5⟩, ⟨.agg ⟨[iP 2, iP 1]⟩, .bool false, 6⟩, ⟨.agg ⟨[iP 3, iP 1]⟩, .bool true, 7⟩, ⟨.agg ⟨[iP 0, iP 2]⟩, .bool true, 8⟩, ⟨.agg ⟨[iP 1, iP 2]⟩, .bool true, 9⟩, ⟨.agg ⟨[iP 2, iP 2]⟩, .bool false, 10⟩, ⟨.agg ⟨[iP 3, iP 2]⟩, .bool true, 11⟩] 12),
    (9, .cells true 3 [iP 1, iP 1, iP 1, iP 2, iP 3, iP 1]),
    (10, .cells true 3 [iP 0, iP 0, iP 1, iP 1, iP 1, iP 2, iP 3, iP 1])],
   [],
   .bool false⟩
theorem fb92_h : fb92.holds EE := ent0 _ (by kernel_rfl) (by kernel_rfl)
-- (decani/founder.chest).isBetter, 1532 steps
noncomputable def fb96 : Ent :=
  ⟨47, [.agg ⟨[iP 4, iP 28, .slice (some ⟨3, 0, none⟩) 3 3, .slice (some ⟨4, 0, none⟩) 2 2, .bool false, .slice (some ⟨5, 0, none⟩) 1 1, .bool true, .slice (some ⟨6, 0, none⟩) 1 1, .slice (some ⟨7, 0, none⟩) 3 3, .map (some 8), iN 0]⟩, .slice (some ⟨9, 0, none⟩) 3 18446744073709551616, .slice (some ⟨10, 0, none⟩) 3 18446744073709551616], 11,
   gC ++ [(3, .cells true 0 [iP 1, iP 2, iP 2, iP 1, iP 1, iP 1, iP 2, iP 2, iP 1]),
    (4, .cells true 0 [iP 1, iP 2, iP 1, iP 1, iP 1, iP 2]),
    (5, .cells true 0 [iP 1, iP 2, iP 2]),
    (6, .cells true 0 [iP 0, iP 3, iP 2]),
    (7, .cells true 0 [iP 0, iN 0, iP 2, iP 10, iP 0, iP 1, iP 2, iP 6, iP 1, iP 1, iP 1, iP 4]),
    (8, .map [⟨.agg ⟨[iP 0, iP 0]⟩, .bool true, 0⟩, ⟨.agg ⟨[iP 1, iP 0]⟩, .bool false, 1⟩, ⟨.agg ⟨[iP 2, iP 0]⟩, .bool false, 2⟩, ⟨.agg ⟨[iP 3, iP 0]⟩, .bool false, 3⟩, ⟨.agg ⟨[iP 0, iP 1]⟩, .bool true, 4⟩, ⟨.agg ⟨[iP 1, iP 1]⟩, .bool true, 5⟩, ⟨.agg ⟨[iP 2, iP 1]⟩, .bool false, 6⟩, ⟨.agg ⟨[iP 3, iP 1]⟩, .bool true, 7⟩, ⟨.agg ⟨[iP 0, iP 2]⟩, .bool true, 8⟩, ⟨.agg ⟨[iP 1, iP 2]⟩, .bool true, 9⟩, ⟨.agg ⟨[iP 2, iP 2]⟩, .bool false, 10⟩, ⟨.agg ⟨[iP 3, iP 2]⟩, .bool true, 11⟩] 12),
    (9, .cells true 3 [iP 0, iP 2, iP 1, iP 1, iP 3, iP 1]),
    (10, .cells true 3 [iP 0, iP 0, iP 1, iP 1, iP 3, iP 1])],
   [],
   .bool false⟩
theorem fb96_h : fb96.holds EE := ent0 _ (by kernel_rfl) (by kernel_rfl)
-- (decani/founder.chest).isBetter, 1532 steps
noncomputable def fb100 : Ent :=
  ⟨47, [.agg ⟨[iP 4, iP 28, .slice (some ⟨3, 0, none⟩) 3 3, .slice (some ⟨4, 0, none⟩) 2 2, .bool false, .slice (some ⟨5, 0, none⟩) 1 1, .bool true, .slice (some ⟨6, 0, none⟩) 1 1, .slice (some ⟨7, 0, none⟩) 3 3, .map (some 8), iP 0]⟩, .slice (some ⟨9, 0, none⟩) 2 18446744073709551616, .slice (some ⟨10, 0, none⟩) 4 18446744073709551616], 11,
   gC ++ [(3, .cells true 0 [iP 1, iP 2, iP 2, iP 1, iP 1, iP 1, iP 2, iP 2, iP 1]),
    (4, .cells true 0 [iP 1, iP 2, iP 1, iP 1, iP 1, iP 2]),
    (5, .cells true 0 [iP 1, iP 2, iP 2]),
    (6, .cells true 0 [iP 0, iP 3, iP 2]),
    (7, .cells true 0 [iP 0, iN 0, iP 2, iP 10, iP 0, iP 1, iP 2, iP 6, iP 1, iP 1, iP 1, iP 4]),
    (8, .map [⟨.agg ⟨[iP 0, iP 0]⟩, .bool true, 0⟩, ⟨.agg ⟨[iP 1, iP 0]⟩, .bool false, 1⟩, ⟨.agg ⟨[iP 2, iP 0]⟩, .bool false, 2⟩, ⟨.agg ⟨[iP 3, iP 0]⟩, .bool false, 3⟩, ⟨.agg ⟨[iP 0, iP 1]⟩, .bool true, 4⟩, ⟨.agg ⟨[iP 1, iP 1]⟩, .bool true, 5⟩, ⟨.agg ⟨[iP 2, iP 1]⟩, .bool false, 6⟩, ⟨.agg ⟨[iP 3, iP 1]⟩, .bool true, 7⟩, ⟨.agg ⟨[iP 0, iP 2]⟩, .bool true, 8⟩, ⟨.agg ⟨[iP 1, iP 2]⟩, .bool true, 9⟩, ⟨.agg ⟨[iP 2, iP 2]⟩, .bool false, 10⟩, ⟨.agg ⟨[iP 3, iP 2]⟩, .bool true, 11⟩] 12),
    (9, .cells true 3 [iP 0, iP 1, iP 3, iP 1]),
    (10, .cells true 3 [iP 0, iP 0, iP 0, iP 1, iP 1, iP 1, iP 3, iP 2])],
   [],
   .bool false⟩
theorem fb100_h : fb100.holds EE := ent0 _ (by kernel_rfl) (by kernel_rfl)
-- (decani/founder.chest).isBetter, 1532 steps
noncomputable def fb104 : Ent :=
  ⟨47, [.agg ⟨[iP 4, iP 28, .slice (some ⟨3, 0, none⟩) 3 3, .slice (some ⟨4, 0, none⟩) 2 2, .bool false, .slice (some ⟨5, 0, none⟩) 1 1, .bool true, .slice (some ⟨6, 0, none⟩) 1 1, .slice (some ⟨7, 0, none⟩) 3 3, .map (some 8), iP 1]⟩, .slice (some ⟨9, 0, none⟩) 2 18446744073709551616, .slice (some ⟨10, 0, none⟩) 4 18446744073709551616], 11,
   gC ++ [(3, .cells true 0 [iP 1, iP 2, iP 2, iP 1, iP 1, iP 1, iP 2, iP 2, iP 1]),
    (4, .cells true 0 [iP 1, iP 2, iP 1, iP 1, iP 1, iP 2]),
    (5, .cells true 0 [iP 1, iP 2, iP 2]),
    (6, .cells true 0 [iP 0, iP 3, iP 2]),
    (7, .cells true 0 [iP 0, iN 0, iP 2, iP 10, iP 0, iP 1, iP 2, iP 6, iP 1, iP 1, iP 1, iP 4]),
    (8, .map [⟨.agg ⟨[iP 0, iP 0]⟩, .bool true, 0⟩, ⟨.agg ⟨[iP 1, iP 0]⟩, .bool false, 1⟩, ⟨.agg ⟨[iP 2, iP 0]⟩, .bool false, 2⟩, ⟨.agg ⟨[iP 3, iP 0]⟩, .bool false, 3⟩, ⟨.agg ⟨[iP 0, iP 1]⟩, .bool true, 4⟩, ⟨.agg ⟨[iP 1, iP 1]⟩, .bool true, 5⟩, ⟨.agg ⟨[iP 2, iP 1]⟩, .bool false, 6⟩, ⟨.agg ⟨[iP 3, iP 1]⟩, .bool true, 7⟩, ⟨.agg ⟨[iP 0, iP 2]⟩, .bool true, 8⟩, ⟨.agg ⟨[iP 1, iP 2]⟩, .bool true, 9⟩, ⟨.agg ⟨[iP 2, iP 2]⟩, .bool false, 10⟩, ⟨.agg ⟨[iP 3, iP 2]⟩, .bool true, 11⟩] 12),
    (9, .cells true 3 [iP 0, iP 1, iP 1, iP 1]),
    (10, .cells true 3 [iP 0, iP 0, iP 1, iP 1, iP 1, iP 2, iP 3, iP 1])],
   [],
   .bool false⟩
theorem fb104_h : fb104.holds EE := ent0 _ (by kernel_rfl) (by kernel_rfl)
-- (decani/founder.chest).isBetter, 1532 steps
noncomputable def fb108 : Ent :=
  ⟨47, [.agg ⟨[iP 4, iP 28, .slice (some ⟨3, 0, none⟩) 3 3, .slice (some ⟨4, 0, none⟩) 2 2, .bool false, .slice (some ⟨5, 0, none⟩) 1 1, .bool true, .slice (some ⟨6, 0, none⟩) 1 1, .slice (some ⟨7, 0, none⟩) 3 3, .map (some 8), iP 1]⟩, .slice (some ⟨9, 0, none⟩) 2 18446744073709551616, .slice (some ⟨10, 0, none⟩) 4 18446744073709551616], 11,
   gC ++ [(3, .cells true 0 [iP 1, iP 2, iP 2, iP 1, iP 1, iP 1, iP 2, iP 2, iP 1]),
    (4, .cells true 0 [iP 1, iP 2, iP 1, iP 1, iP 1, iP 2]),
    (5, .cells true 0 [iP 1, iP 2, iP 2]),
    (6, .cells true 0 [iP 0, iP 3, iP 2]),
    (7, .cells true 0 [iP 0, iN 0, iP 2, iP 10, iP 0, iP 1, iP 2, iP 6, iP 1, iP 1, iP 1, iP 4]),
    (8, .map [⟨.agg ⟨[iP 0, iP 0]⟩, .bool true, 0⟩, ⟨.agg ⟨[iP 1, iP 0]⟩, .bool false, 1⟩, ⟨.agg ⟨[iP 2, iP 0]⟩, .bool false, 2⟩, ⟨.agg ⟨[iP 3, iP 0]⟩, .bool false, 3⟩, ⟨.agg ⟨[iP 0, iP 1]⟩, .bool true, 4⟩, ⟨.agg ⟨[iP 1, iP 1]⟩, .bool true, 5⟩, ⟨.agg ⟨[iP 2, iP 1]⟩, .bool false, 6⟩, ⟨.agg ⟨[iP 3, iP 1]⟩, .bool true, 7⟩, ⟨.agg ⟨[iP 0, iP 2]⟩, .bool true, 8⟩, ⟨.agg ⟨[iP 1, iP 2]⟩, .bool true, 9⟩, ⟨.agg ⟨[iP 2, iP 2]⟩, .bool false, 10⟩, ⟨.agg ⟨[iP 3, iP 2]⟩, .bool true, 11⟩] 12),
    (9, .cells true 3 [iP 0, iP 2, iP 1, iP 1]),
    (10, .cells true 3 [iP 0, iP 0, iP 1, iP 1, iP 1, iP 2, iP 3, iP 1])],
   [],
   .bool false⟩
theorem fb108_h : fb108.holds EE := ent0 _ (by kernel_rfl) (by kernel_rfl)
-- (decani/founder.chest).isBetter, 1532 steps
noncomputable def fb112 : Ent :=
  ⟨47, [.agg ⟨[iP 4, iP 28, .slice (some ⟨3, 0, none⟩) 3 3, .slice (some ⟨4, 0, none⟩) 2 2, .bool false, .slice (some ⟨5, 0, none⟩) 1 1, .bool true, .slice (some ⟨6, 0, none⟩) 1 1, .slice (some ⟨7, 0, none⟩) 3 3, .map (some 8), iP 2]⟩, .slice (some ⟨9, 0, none⟩) 3 18446744073709551616, .slice (some ⟨10, 0, none⟩) 3 18446744073709551616], 11,
   gC ++ [(3, .cells true 0 [iP 1, iP 2, iP 2, iP 1, iP 1, iP 1, iP 2, iP 2, iP 1]),
    (4, .cells true 0 [iP 1, iP 2, iP 1, iP 1, iP 1, iP 2]),
    (5, .cells true 0 [iP 1, iP 2, iP 2]),
    (6, .cells true 0 [iP 0, iP 3, iP 2]),
    (7, .cells true 0 [iP 0, iN 0, iP 2, iP 10, iP 0, iP 1, iP 2, iP 6, iP 1, iP 1, iP 1, iP 4]),
    (8, .map [⟨.agg ⟨[iP 0, iP 0]⟩, .bool true, 0⟩, ⟨.agg ⟨[iP 1, iP 0]⟩, .bool false, 1⟩, ⟨.agg ⟨[iP 2, iP 0]⟩, .bool false, 2⟩, ⟨.agg ⟨[iP 3, iP 0]⟩, .bool false, 3⟩, ⟨.agg ⟨[iP 0, iP 1]⟩, .bool true, 4⟩, ⟨.agg ⟨[iP 1, iP 1]⟩, .bool true, 5⟩, ⟨.agg ⟨[iP 2, iP 1]⟩, .bool false, 6⟩, ⟨.agg ⟨[iP 3, iP 1]⟩, .bool true, 7⟩, ⟨.agg ⟨[iP 0, iP 2]⟩, .bool true, 8⟩, ⟨.agg ⟨[iP 1, iP 2]⟩, .bool true, 9⟩, ⟨.agg ⟨[iP 2, iP 2]⟩, .bool false, 10⟩, ⟨.agg ⟨[iP 3, iP 2]⟩, .bool true, 11⟩] 12),
    (9, .cells true 3 [iP 0, iP 2, iP 1, iP 1, iP 3, iP 1]),
    (10, .cells true 3 [iP 0, iP 0, iP 1, iP 1, iP 3, iP 1])],
   [],
   .bool false⟩
theorem fb112_h : fb112.holds EE := ent0 _ (by kernel_rfl) (by kernel_rfl)
-- (decani/founder.chest).isBetter, 1532 steps
noncomputable def fb116 : Ent :=
  ⟨47, [.agg ⟨[iP 4, iP 28, .slice (some ⟨3, 0, none⟩) 3 3, .slice (some ⟨4, 0, none⟩) 2 2, .bool false, .slice (some ⟨5, 0, none⟩) 1 1, .bool true, .slice (some ⟨6, 0, none⟩) 1 1, .slice (some ⟨7, 0, none⟩) 3 3, .map (some 8), iP 3]⟩, .slice (some ⟨9, 0, none⟩) 2 18446744073709551616, .slice (some ⟨10, 0, none⟩) 4 18446744073709551616], 11,
   gC ++ [(3, .cells true 0 [iP 1, iP 2, iP 2, iP 1, iP 1, iP 1, iP 2, iP 2, iP 1]),
    (4, .cells true 0 [iP 1, iP 2, iP 1, iP 1, iP 1, iP 2]),
    (5, .cells true 0 [iP 1, iP 2, iP 2]),
    (6, .cells true 0 [iP 0, iP 3, iP 2]),
    (7, .cells true 0 [iP 0, iN 0, iP 2, iP 10, iP 0, iP 1, iP 2, iP 6, iP 1, iP 1, iP 1, iP 4]),
    (8, .map [⟨.agg ⟨[iP 0, iP 0]⟩, .bool true, 0⟩, ⟨.agg ⟨[iP 1, iP 0]⟩, .bool false, 1⟩, ⟨.agg ⟨[iP 2, iP 0]⟩, .bool false, 2⟩, ⟨.agg ⟨[iP 3, iP 0]⟩, .bool false, 3⟩, ⟨.agg ⟨[iP 0, iP 1]⟩, .bool true, 4⟩, ⟨.agg ⟨[iP 1, iP 1]⟩, .bool true, 5⟩, ⟨.agg ⟨[iP 2, iP 1]⟩, .bool false, 6⟩, ⟨.agg ⟨[iP 3, iP 1]⟩, .bool true, 7⟩, ⟨.agg ⟨[iP 0, iP 2]⟩, .bool true, 8⟩, ⟨.agg ⟨[iP 1, iP 2]⟩, .bool true, 9⟩, ⟨.agg ⟨[iP 2, iP 2]⟩, .bool false, 10⟩, ⟨.agg ⟨[iP 3, iP 2]⟩, .bool true, 11⟩] 12),
    (9, .cells true 3 [iP 0, iP 1, iP 3, iP 2]),
    (10, .cells true 3 [iP 0, iP 0, iP 1, iP 1, iP 3, iP 1, iP 3, iP 2])],
   [],
   .bool false⟩
theorem fb116_h : fb116.holds EE := ent0 _ (by kernel_rfl) (by kernel_rfl)
-- (decani/founder.chest).isBetter, 1532 steps
noncomputable def fb120 : Ent :=
  ⟨47, [.agg ⟨[iP 4, iP 28, .slice (some ⟨3, 0, none⟩) 3 3, .slice (some ⟨4, 0, none⟩) 2 2, .bool false, .slice (some ⟨5, 0, none⟩) 1 1, .bool true, .slice none 0 0, .slice (some ⟨6, 0, none⟩) 3 3, .map (some 7), iP 3]⟩, .slice (some ⟨8, 0, none⟩) 3 18446744073709551616, .slice (some ⟨9, 0, none⟩) 3 18446744073709551616], 10,
   gC ++ [(3, .cells true 0 [iP 1, iP 2, iP 2, iP 1, iP 1, iP 1, iP 2, iP 2, iP 1]),
    (4, .cells true 0 [iP 1, iP 2, iP 1, iP 1, iP 1, iP 2]),
    (5, .cells true 0 [iP 1, iP 2, iP 2]),
    (6, .cells true 0 [iP 0, iN 0, iP 2, iP 10, iP 0, iP 1, iP 2, iP 6, iP 1, iP 1, iP 1, iP 4]),
    (7, .map [⟨.agg ⟨[iP 0, iP 0]⟩, .bool true, 0⟩, ⟨.agg ⟨[iP 1, iP 0]⟩, .bool false, 1⟩, ⟨.agg ⟨[iP 2, iP 0]⟩, .bool false, 2⟩, ⟨.agg ⟨[iP 3, iP 0]⟩, .bool false, 3⟩, ⟨.agg ⟨[iP 0, iP 1]⟩, .bool true, 4⟩, ⟨.agg ⟨[iP 1, iP 1]⟩, .bool false, 5⟩, ⟨.agg ⟨[iP 2, iP 1]⟩, .bool false, 6⟩, ⟨.agg ⟨[iP 3, iP 1]⟩, .bool true, 7⟩, ⟨.agg ⟨[iP 0, iP 2]⟩, .bool true, 8⟩, ⟨.agg ⟨[iP 1, iP 2]⟩, .bool false, 9⟩, ⟨.agg ⟨[iP 2, iP 2]⟩, .bool false, 10⟩, ⟨.agg ⟨[iP 3, iP 2]⟩, .bool true, 11⟩] 12),
    (8, .cells true 3 [iP 0, iP 1, iP 3, iP 1, iP 3, iP 2]),
    (9, .cells true 3 [iP 0, iP 0, iP 3, iP 1, iP 3, iP 2])],
   [],
   .bool false⟩
theorem fb120_h : fb120.holds EE := ent0 _ (by kernel_rfl) (by kernel_rfl)
-- (decani/founder.chest).isBetter, 1508 steps
noncomputable def fb124 : Ent :=
  ⟨47, [.agg ⟨[iP 4, iP 28, .slice (some ⟨3, 0, none⟩) 3 3, .slice (some ⟨4, 0, none⟩) 2 2, .bool false, .slice (some ⟨5, 0, none⟩) 1 1, .bool true, .slice none 0 0, .slice (some ⟨6, 0, none⟩) 3 3, .map (some 7), iP 3]⟩, .slice (some ⟨8, 0, none⟩) 1 18446744073709551616, .slice (some ⟨9, 0, none⟩) 3 18446744073709551616], 10,
   gC ++ [(3, .cells true 0 [iP 1, iP 2, iP 2, iP 1, iP 1, iP 1, iP 2, iP 2, iP 1]),
    (4, .cells true 0 [iP 1, iP 2, iP 1, iP 1, iP 1, iP 2]),
    (5, .cells true 0 [iP 1, iP 2, iP 2]),
    (6, .cells true 0 [iP 0, iN 0, iP 2, iP 10, iP 0, iP 1, iP 2, iP 6, iP 1, iP 1, iP 1, iP 4]),
    (7, .map [⟨.agg ⟨[iP 0, iP 0]⟩, .bool true, 0⟩, ⟨.agg ⟨[iP 1, iP 0]⟩, .bool false, 1⟩, ⟨.agg ⟨[iP 2, iP 0]⟩, .bool false, 2⟩, ⟨.agg ⟨[iP 3, iP 0]⟩, .bool false, 3⟩, ⟨.agg ⟨[iP 0, iP 1]⟩, .bool true, 4⟩, ⟨.agg ⟨[iP 1, iP 1]⟩, .bool false, 5⟩, ⟨.agg ⟨[iP 2, iP 1]⟩, .bool false, 6⟩, ⟨.agg ⟨[iP 3, iP 1]⟩, .bool true, 7⟩, ⟨.agg ⟨[iP 0, iP 2]⟩, .bool true, 8⟩, ⟨.agg ⟨[iP 1, iP 2]⟩, .bool false, 9⟩, ⟨.agg ⟨[iP 2, iP 2]⟩, .bool false, 10⟩, ⟨.agg ⟨[iP 3, iP 2]⟩, .bool true, 11⟩] 12),
    (8, .cells true 3 [iP 0, iP 0]),
    (9, .cells true 3 [iP 0, iP 0, iP 3, iP 1, iP 3, iP 2])],
   [],
   .bool false⟩
theorem fb124_h : fb124.holds EE := ent0 _ (by kernel_rfl) (by kernel_rfl)
-- (decani/founder.chest).isBetter, 1504 steps
noncomputable def fb128 : Ent :=
  ⟨47, [.agg ⟨[iP 4, iP 28, .slice (some ⟨3, 0, none⟩) 3 3, .slice (some ⟨4, 0, none⟩) 2 2, .bool false, .slice (some ⟨5, 0, none⟩) 1 1, .bool true, .slice none 0 0, .slice (some ⟨6, 0, none⟩) 1 1, .map (some 7), iP 0]⟩, .slice (some ⟨8, 0, none⟩) 2 18446744073709551616, .slice (some ⟨9, 0, none⟩) 4 18446744073709551616], 10,
   gC ++ [(3, .cells true 0 [iP 1, iP 2, iP 2, iP 1, iP 1, iP 1, iP 2, iP 2, iP 1]),
    (4, .cells true 0 [iP 1, iP 2, iP 1, iP 1, iP 1, iP 2]),
    (5, .cells true 0 [iP 1, iP 2, iP 2]),
    (6, .cells true 0 [iP 0, iP 3, iP 4, iP 1]),
    (7, .map [⟨.agg ⟨[iP 0, iP 0]⟩, .bool true, 0⟩, ⟨.agg ⟨[iP 1, iP 0]⟩, .bool true, 1⟩, ⟨.agg ⟨[iP 2, iP 0]⟩, .bool true, 2⟩, ⟨.agg ⟨[iP 3, iP 0]⟩, .bool true, 3⟩] 4),
    (8, .cells true 3 [iP 0, iP 0, iP 3, iP 0]),
    (9, .cells true 3 [iP 0, iP 0, iP 1, iP 0, iP 2, iP 0, iP 3, iP 0])],
   [],
   .bool false⟩
theorem fb128_h : fb128.holds EE := ent0 _ (by kernel_rfl) (by kernel_rfl)
-- (decani/founder.chest).isBetter, 1504 steps
noncomputable def fb132 : Ent :=
  ⟨47, [.agg ⟨[iP 4, iP 28, .slice (some ⟨3, 0, none⟩) 3 3, .slice (some ⟨4, 0, none⟩) 2 2, .bool false, .slice (some ⟨5, 0, none⟩) 1 1, .bool true, .slice none 0 0, .slice (some ⟨6, 0, none⟩) 1 1, .map (some 7), iP 2]⟩, .slice (some ⟨8, 0, none⟩) 2 18446744073709551616, .slice (some ⟨9, 0, none⟩) 4 18446744073709551616], 10,
   gC ++ [(3, .cells true 0 [iP 1, iP 2, iP 2, iP 1, iP 1, iP 1, iP 2, iP 2, iP 1]),
    (4, .cells true 0 [iP 1, iP 2, iP 1, iP 1, iP 1, iP 2]),
    (5, .cells true 0 [iP 1, iP 2, iP 2]),
    (6, .cells true 0 [iP 0, iP 3, iP 4, iP 1]),
    (7, .map [⟨.agg ⟨[iP 0, iP 0]⟩, .bool true, 0⟩, ⟨.agg ⟨[iP 1, iP 0]⟩, .bool true, 1⟩, ⟨.agg ⟨[iP 2, iP 0]⟩, .bool true, 2⟩, ⟨.agg ⟨[iP 3, iP 0]⟩, .bool true, 3⟩] 4),
    (8, .cells true 3 [iP 0, iP 0, iP 3, iP 0]),
    (9, .cells true 3 [iP 0, iP 0, iP 1, iP 0, iP 2, iP 0, iP 3, iP 0])],
   [],
   .bool false⟩
theorem fb132_h : fb132.holds EE := ent0 _ (by kernel_rfl) (by kernel_rfl)
-- (decani/founder.chest).isBetter, 1503 steps
noncomputable def fb136 : Ent :=
  ⟨47, [.agg ⟨[iP 4, iP 28, .slice (some ⟨3, 0, none⟩) 3 3, .slice (some ⟨4, 0, none⟩) 2 2, .bool false, .slice (some ⟨5, 0, none⟩) 1 1, .bool true, .slice (some ⟨6, 0, none⟩) 1 1, .slice (some ⟨7, 0, none⟩) 3 3, .map (some 8), iP 0]⟩, .slice (some ⟨9, 0, none⟩) 2 18446744073709551616, .slice (some ⟨10, 0, none⟩) 4 18446744073709551616], 11,
   gC ++ [(3, .cells true 0 [iP 1, iP 2, iP 2, iP 1, iP 1, iP 1, iP 2, iP 2, iP 1]),
    (4, .cells true 0 [iP 1, iP 2, iP 1, iP 1, iP 1, iP 2]),
    (5, .cells true 0 [iP 1, iP 2, iP 2]),
    (6, .cells true 0 [iP 0, iP 3, iP 2]),
    (7, .cells true 0 [iP 0, iN 0, iP 2, iP 10, iP 0, iP 1, iP 2, iP 6, iP 1, iP 1, iP 1, iP 4]),
    (8, .map [⟨.agg ⟨[iP 0, iP 0]⟩, .bool true, 0⟩, ⟨.agg ⟨[iP 1, iP 0]⟩, .bool false, 1⟩, ⟨.agg ⟨[iP 2, iP 0]⟩, .bool false, 2⟩, ⟨.agg ⟨[iP 3, iP 0]⟩, .bool false, 3⟩, ⟨.agg ⟨[iP 0, iP 1]⟩, .bool true, 4⟩, ⟨.agg ⟨[iP 1, iP 1]⟩, .bool true, 5⟩, ⟨.agg ⟨[iP 2, iP 1]⟩, .bool false, 6⟩, ⟨.agg ⟨[iP 3, iP 1]⟩, .bool true, 7⟩, ⟨.agg ⟨[iP 0, iP 2]⟩, .bool true, 8⟩, ⟨.agg ⟨[iP 1, iP 2]⟩, .bool true, 9⟩, ⟨.agg ⟨[iP 2, iP 2]⟩, .bool false, 10⟩, ⟨.agg ⟨[iP 3, iP 2]⟩, .bool true, 11⟩] 12),
    (9, .cells true 3 [iP 1, iP 1, iP 3, iP 2]),
    (10, .cells true 3 [iP 0, iP 0, iP 0, iP 1, iP 1, iP 1, iP 3, iP 2])],
   [],
   .bool false⟩
theorem fb136_h : fb136.holds EE := ent0 _ (by kernel_rfl) (by kernel_rfl)
-- (decani/founder.chest).isBetter, 1503 steps
noncomputable def fb140 : Ent :=
  ⟨47, [.agg ⟨[iP 4, iP 28, .slice (some ⟨3, 0, none⟩) 3 3, .slice (some ⟨4, 0, none⟩) 2 2, .bool false, .slice (some ⟨5, 0, none⟩) 1 1, .bool true, .slice (some ⟨6, 0, none⟩) 1 1, .slice (some ⟨7, 0, none⟩) 3 3, .map (some 8), iP 1]⟩, .slice (some ⟨9, 0, none⟩) 2 18446744073709551616, .slice (some ⟨10, 0, none⟩) 4 18446744073709551616], 11,
   gC ++ [(3, .cells true 0 [iP 1, iP 2, iP 2, iP 1, iP 1, iP 1, iP 2, iP 2, iP 1]),
    (4, .cells true 0 [iP 1, iP 2, iP 1, iP 1, iP 1, iP 2]),
    (5, .cells true 0 [iP 1, iP 2, iP 2]),
    (6, .cells true 0 [iP 0, iP 3, iP 2]),
    (7, .cells true 0 [iP 0, iN 0, iP 2, iP 10, iP 0, iP 1, iP 2, iP 6, iP 1, iP 1, iP 1, iP 4]),
    (8, .map [⟨.agg ⟨[iP 0, iP 0]⟩, .bool true, 0⟩, ⟨.agg ⟨[iP 1, iP 0]⟩, .bool false, 1⟩, ⟨.agg ⟨[iP 2, iP 0]⟩, .bool false, 2⟩, ⟨.agg ⟨[iP 3, iP 0]⟩, .bool false, 3⟩, ⟨.agg ⟨[iP 0, iP 1]⟩, .bool true, 4⟩, ⟨.agg ⟨[iP 1, iP 1]⟩, .bool true, 5⟩, ⟨.agg ⟨[iP 2, iP 1]⟩, .bool false, 6⟩, ⟨.agg ⟨[iP 3, iP 1]⟩, .bool true, 7⟩, ⟨.agg ⟨[iP 0, iP 2]⟩, .bool true, 8⟩, ⟨.agg ⟨[iP 1, iP 2]⟩, .bool true, 9⟩, ⟨.agg ⟨[iP 2, iP 2]⟩, .bool false, 10⟩, ⟨.agg ⟨[iP 3, iP 2]⟩, .bool true, 11⟩] 12),
    (9, .cells true 3 [iP 1, iP 1, iP 3, iP 2]),
    (10, .cells true 3 [iP 0, iP 0, iP 1, iP 1, iP 1, iP 2, iP 3, iP 1])],
   [],
   .bool false⟩
theorem fb140_h : fb140.holds EE := ent0 _ (by kernel_rfl) (by kernel_rfl)
-- (decani/founder.chest).isBetter, 1503 steps
noncomputable def fb144 : Ent :=
  ⟨47, [.agg ⟨[iP 4, iP 28, .slice (some ⟨3, 0, none⟩) 3 3, .slice (some ⟨4, 0, none⟩) 2 2, .bool false, .slice (some ⟨5, 0, none⟩) 1 1, .bool true, .slice (some ⟨6, 0, none⟩) 1 1, .slice (some ⟨7, 0, none⟩) 3 3, .map (some 8), iP 3]⟩, .slice (some ⟨9, 0, none⟩) 2 18446744073709551616, .slice (some ⟨10, 0, none⟩) 4 18446744073709551616], 11,
   gC ++ [(3, .cells true 0 [iP 1, iP 2, iP 2, iP 1, iP 1, iP 1, iP 2, iP 2, iP 1]),
    (4, .cells true 0 [iP 1, iP 2, iP 1, iP 1, iP 1, iP 2]),
    (5, .cells true 0 [iP 1, iP 2, iP 2]),
    (6, .cells true 0 [iP 0, iP 3, iP 2]),
    (7, .cells true 0 [iP 0, iN 0, iP 2, iP 10, iP 0, iP 1, iP 2, iP 6, iP 1, iP 1, iP 1, iP 4]),
    (8, .map [⟨.agg ⟨[iP 0, iP 0]⟩, .bool true, 0⟩, ⟨.agg ⟨[iP 1, iP 0]⟩, .bool false, 1⟩, ⟨.agg ⟨[iP 2, iP 0]⟩, .bool false, 2⟩, ⟨.agg ⟨[iP 3, iP 0]⟩, .bool false, 3⟩, ⟨.agg ⟨[iP 0, iP 1]⟩, .bool true, 4⟩, ⟨.agg ⟨[iP 1, iP 1]⟩, .bool true, 5⟩, ⟨.agg ⟨[iP 2, iP 1]⟩, .bool false, 6⟩, ⟨.agg ⟨[iP 3, iP 1]⟩, .bool true, 7⟩, ⟨.agg ⟨[iP 0, iP 2]⟩, .bool true, 8⟩, ⟨.agg ⟨[iP 1, iP 2]⟩, .bool true, 9⟩, ⟨.agg ⟨[iP 2, iP 2]⟩, .bool false, 10⟩, ⟨.agg ⟨[iP 3, iP 2]⟩, .bool true, 11⟩] 12),
    (9, .cells true 3 [iP 1, iP 2, iP 3, iP 1]),
    (10, .cells true 3 [iP 0, iP 0, iP 1, iP 1, iP 3, iP 1, iP 3, iP 2])],
   [],
   .bool false⟩
theorem fb144_h : fb144.holds EE := ent0 _ (by kernel_rfl) (by kernel_rfl)
-- (decani/founder.chest).isBetter, 1502 steps
noncomputable def fb148 : Ent :=
  ⟨47, [.agg ⟨[iP 4, iP 28, .slice (some ⟨3, 0, none⟩) 3 3, .slice (some ⟨4, 0, none⟩) 2 2, .bool false, .slice (some ⟨5, 0, none⟩) 1 1, .bool true, .slice (some ⟨6, 0, none⟩) 1 1, .slice (some ⟨7, 0, none⟩) 3 3, .map (some 8), iN 0]⟩, .slice (some ⟨9, 0, none⟩) 2 18446744073709551616, .slice (some ⟨10, 0, none⟩) 3 18446744073709551616], 11,
   gC ++ [(3, .cells true 0 [iP 1, iP 2, iP 2, iP 1, iP 1, iP 1, iP 2, iP 2, iP 1]),
    (4, .cells true 0 [iP 1, iP 2, iP 1, iP 1, iP 1, iP 2]),
    (5, .cells true 0 [iP 1, iP 2, iP 2]),
    (6, .cells true 0 [iP 0, iP 3, iP 2]),
    (7, .cells true 0 [iP 0, iN 0, iP 2, iP 10, iP 0, iP 1, iP 2, iP 6, iP 1, iP 1, iP 1, iP 4]),
    (8, .map [⟨.agg ⟨[iP 0, iP 0]⟩, .bool true, 0⟩, ⟨.agg ⟨[iP 1, iP 0]⟩, .bool false, 1⟩, ⟨.agg ⟨[iP 2, iP 0]⟩, .bool false, 2⟩, ⟨.agg ⟨[iP 3, iP 0]⟩, .bool false, 3⟩, ⟨.agg ⟨[iP 0, iP 1]⟩, .bool true, 4⟩, ⟨.agg ⟨[iP 1, iP 1]⟩, .bool true, 5⟩, ⟨.agg ⟨[iP 2, iP 1]⟩, .bool false, 6⟩, ⟨.agg ⟨[iP 3, iP 1]⟩, .bool true, 7⟩, ⟨.agg ⟨[iP 0, iP 2]⟩, .bool true, 8⟩, ⟨.agg ⟨[iP 1, iP 2]⟩, .bool true, 9⟩, ⟨.agg ⟨[iP 2, iP 2]⟩, .bool false, 10⟩, ⟨.agg ⟨[iP 3, iP 2]⟩, .bool true, 11⟩] 12),
    (9, .cells true 3 [iP 0, iP 1, iP 3, iP 1]),
    (10, .cells true 3 [iP 0, iP 0, iP 1, iP 1, iP 3, iP 1])],
   [],
   .bool false⟩
theorem fb148_h : fb148.holds EE := ent0 _ (by kernel_rfl) (by kernel_rfl)
-- (decani/founder.chest).isBetter, 1502 steps
noncomputable def fb152 : Ent :=
  ⟨47, [.agg ⟨[iP 4, iP 28, .slice (some ⟨3, 0, none⟩) 3 3, .slice (some ⟨4, 0, none⟩) 2 2, .bool false, .slice (some ⟨5, 0, none⟩) 1 1, .bool true, .slice (some ⟨6, 0, none⟩) 1 1, .slice (some ⟨7, 0, none⟩) 3 3, .map (some 8), iP 0]⟩, .slice (some ⟨9, 0, none⟩) 1 18446744073709551616, .slice (some ⟨10, 0, none⟩) 4 18446744073709551616], 11,
   gC ++ [(3, .cells true 0 [iP 1, iP 2, iP 2, iP 1, iP 1, iP 1, iP 2, iP 2, iP 1]),
    (4, .cells true 0 [iP 1, iP 2, iP 1, iP 1, iP 1, iP 2]),
    (5, .cells true 0 [iP 1, iP 2, iP 2]),
    (6, .cells true 0 [iP 0, iP 3, iP 2]),
    (7, .cells true 0 [iP 0, iN 0, iP 2, iP 10, iP 0, iP 1, iP 2, iP 6, iP 1, iP 1, iP 1, iP 4]),
    (8, .map [⟨.agg ⟨[iP 0, iP 0]⟩, .bool true, 0⟩, ⟨.agg ⟨[iP 1, iP 0]⟩, .bool false, 1⟩, ⟨.agg ⟨[iP 2, iP 0]⟩, .bool false, 2⟩, ⟨.agg ⟨[iP 3, iP 0]⟩, .bool false, 3⟩, ⟨.agg ⟨[iP 0, iP 1]⟩, .bool true, 4⟩, ⟨.agg ⟨[iP 1, iP 1]⟩, .bool true, 5⟩, ⟨.agg ⟨[iP 2, iP 1]⟩, .bool false, 6⟩, ⟨.agg ⟨[iP 3, iP 1]⟩, .bool true, 7⟩, ⟨.agg ⟨[iP 0, iP 2]⟩, .bool true, 8⟩, ⟨.agg ⟨[iP 1, iP 2]⟩, .bool true, 9⟩, ⟨.agg ⟨[iP 2, iP 2]⟩, .bool false, 10⟩, ⟨.agg ⟨[iP 3, iP 2]⟩, .bool true, 11⟩] 12),
    (9, .cells true 3 [iP 0, iP 1]),
    (10, .cells true 3 [iP 0, iP 0, iP 0, iP 1, iP 1, iP 1, iP 3, iP 2])],
   [],
   .bool false⟩
theorem fb152_h : fb152.holds EE := ent0 _ (by kernel_rfl) (by kernel_rfl)
-- (decani/founder.chest).isBetter, 1502 steps
noncomputable def fb156 : Ent :=
  ⟨47, [.agg ⟨[iP 4, iP 28, .slice (some ⟨3, 0, none⟩) 3 3, .slice (some ⟨4, 0, none⟩) 2 2, .bool false, .slice (some ⟨5, 0, none⟩) 1 1, .bool true, .slice (some ⟨6, 0, none⟩) 1 1, .slice (some ⟨7, 0, none⟩) 3 3, .map (some 8), iP 2]⟩, .slice (some ⟨9, 0, none⟩) 2 18446744073709551616, .slice (some ⟨10, 0, none⟩) 3 18446744073709551616], 11,
   gC ++ [(3, .cells true 0 [iP 1, iP 2, iP 2, iP 1, iP 1, iP 1, iP 2, iP 2, iP 1]),
    (4, .cells true 0 [iP 1, iP 2, iP 1, iP 1, iP 1, iP 2]),
    (5, .cells true 0 [iP 1, iP 2, iP 2]),
    (6, .cells true 0 [iP 0, iP 3, iP 2]),
    (7, .cells true 0 [iP 0, iN 0, iP 2, iP 10, iP 0, iP 1, iP 2, iP 6, iP 1, iP 1, iP 1, iP 4]),
    (8, .map [⟨.agg ⟨[iP 0, iP 0]⟩, .bool true, 0⟩, ⟨.agg ⟨[iP 1, iP 0]⟩, .bool false, 1⟩, ⟨.agg ⟨[iP 2, iP 0]⟩, .bool false, 2⟩, ⟨.agg ⟨[iP 3, iP 0]⟩, .bool false, 3⟩, ⟨.agg ⟨[iP 0, iP 1]⟩, .bool true, 4⟩, ⟨.agg ⟨[iP 1, iP 1]⟩, .bool true, 5⟩, ⟨.agg ⟨[iP 2, iP 1]⟩, .bool false, 6⟩, ⟨.agg ⟨[iP 3, iP 1]⟩, .bool true, 7⟩, ⟨.agg ⟨[iP 0, iP 2]⟩, .bool true, 8⟩, ⟨.agg ⟨[iP 1, iP 2]⟩, .bool true, 9⟩, ⟨.agg ⟨[iP 2, iP 2]⟩, .bool false, 10⟩, ⟨.agg ⟨[iP 3, iP 2]⟩, .bool true, 11⟩] 12),
    (9, .cells true 3 [iP 0, iP 1, iP 1, iP 1]),
    (10, .cells true 3 [iP 0, iP 0, iP 1, iP 1, iP 3, iP 1])],
   [],
   .bool false⟩
theorem fb156_h : fb156.holds EE := ent0 _ (by kernel_rfl) (by kernel_rfl)
-- (decani/founder.chest).isBetter, 1502 steps
noncomputable def fb160 : Ent :=
  ⟨47, [.agg ⟨[iP 4, iP 28, .slice (some ⟨3, 0, none⟩) 3 3, .slice (some ⟨4, 0, none⟩) 2 2, .bool false, .slice (some ⟨5, 0, none⟩) 1 1, .bool true, .slice (some ⟨6, 0, none⟩) 1 1, .slice (some ⟨7, 0, none⟩) 3 3, .map (some 8), iP 2]⟩, .slice (some ⟨9, 0, none⟩) 2 18446744073709551616, .slice (some ⟨10, 0, none⟩) 3 18446744073709551616], 11,
   gC ++ [(3, .cells true 0 [iP 1, iP 2, iP 2, iP 1, iP 1, iP 1, iP 2, iP 2, iP 1]),
    (4, .cells true 0 [iP 1, iP 2, iP 1, iP 1, iP 1, iP 2]),
    (5, .cells true 0 [iP 1, iP 2, iP 2]),
    (6, .cells true 0 [iP 0, iP 3, iP 2]),
    (7, .cells true 0 [iP 0, iN 0, iP 2, iP 10, iP 0, iP 1, iP 2, iP 6, iP 1, iP 1, iP 1, iP 4]),
    (8, .map [⟨.agg ⟨[iP 0, iP 0]⟩, .bool true, 0⟩, ⟨.agg ⟨[iP 1, iP 0]⟩, .bool false, 1⟩, ⟨.agg ⟨[iP 2, iP 0]⟩, .bool false, 2⟩, ⟨.agg ⟨[iP 3, iP 0]⟩, .bool false, 3⟩, ⟨.agg ⟨[iP 0, iP 1]⟩, .bool true, 4⟩, ⟨.agg ⟨[iP 1, iP 1]⟩, .bool true, 5⟩, ⟨.agg ⟨[iP 2, iP 1]⟩, .bool false, 6⟩, ⟨.agg ⟨[iP 3, iP 1]⟩, .bool true, 7⟩, ⟨.agg ⟨[iP 0, iP 2]⟩, .bool true, 8⟩, ⟨.agg ⟨[iP 1, iP 2]⟩, .bool true, 9⟩, ⟨.agg ⟨[iP 2, iP 2]⟩, .bool false, 10⟩, ⟨.agg ⟨[iP 3, iP 2]⟩, .bool true, 11⟩] 12),
    (9, .cells true 3 [iP 0, iP 2, iP 1, iP 1]),
    (10, .cells true 3 [iP 0, iP 0, iP 1, iP 1, iP 3, iP 1])],
   [],
   .bool false⟩
theorem fb160_h : fb160.holds EE := ent0 _ (by kernel_rfl) (by kernel_rfl)
-- (decani/founder.chest).isBetter, 1502 steps
noncomputable def fb164 : Ent :=
  ⟨47, [.agg ⟨[iP 4, iP 28, .slice (some ⟨3, 0, none⟩) 3 3, .slice (some ⟨4, 0, none⟩) 2 2, .bool false, .slice (some ⟨5, 0, none⟩) 1 1, .bool true, .slice none 0 0, .slice (some ⟨6, 0, none⟩) 3 3, .map (some 7), iP 0]⟩, .slice (some ⟨8, 0, none⟩) 2 18446744073709551616, .slice (some ⟨9, 0, none⟩) 3 18446744073709551616], 10,
   gC ++ [(3, .cells true 0 [iP 1, iP 2, iP 2, iP 1, iP 1, iP 1, iP 2, iP 2, iP 1]),
    (4, .cells true 0 [iP 1, iP 2, iP 1, iP 1, iP 1, iP 2]),
    (5, .cells true 0 [iP 1, iP 2, iP 2]),
    (6, .cells true 0 [iP 0, iN 0, iP 2, iP 10, iP 0, iP 1, iP 2, iP 6, iP 1, iP 1, iP 1, iP 4]),
    (7, .map [⟨.agg ⟨[iP 0, iP 0]⟩, .bool true, 0⟩, ⟨.agg ⟨[iP 1, iP 0]⟩, .bool false, 1⟩, ⟨.agg ⟨[iP 2, iP 0]⟩, .bool false, 2⟩, ⟨.agg ⟨[iP 3, iP 0]⟩, .bool false, 3⟩, ⟨.agg ⟨[iP 0, iP 1]⟩, .bool true, 4⟩, ⟨.agg ⟨[iP 1, iP 1]⟩, .bool false, 5⟩, ⟨.agg ⟨[iP 2, iP 1]⟩, .bool false, 6⟩, ⟨.agg ⟨[iP 3, iP 1]⟩, .bool true, 7⟩, ⟨.agg ⟨[iP 0, iP 2]⟩, .bool true, 8⟩, ⟨.agg ⟨[iP 1, iP 2]⟩, .bool false, 9⟩, ⟨.agg ⟨[iP 2, iP 2]⟩, .bool false, 10⟩, ⟨.agg ⟨[iP 3, iP 2]⟩, .bool true, 11⟩] 12),
    (8, .cells true 3 [iP 0, iP 1, iP 0, iP 2]),
    (9, .cells true 3 [iP 0, iP 0, iP 0, iP 1, iP 3, iP 1])],
   [],
   .bool false⟩
theorem fb164_h : fb164.holds EE := ent0 _ (by kernel_rfl) (by kernel_rfl)
-- (decani/founder.chest).isBetter, 1502 steps
noncomputable def fb168 : Ent :=
  ⟨47, [.agg ⟨[iP 4, iP 28, .slice (some ⟨3, 0, none⟩) 3 3, .slice (some ⟨4, 0, none⟩) 2 2, .bool false, .slice (some ⟨5, 0, none⟩) 1 1, .bool true, .slice none 0 0, .slice (some ⟨6, 0, none⟩) 3 3, .map (some 7), iP 3]⟩, .slice (some ⟨8, 0, none⟩) 2 18446744073709551616, .slice (some ⟨9, 0, none⟩) 3 18446744073709551616], 10,
   gC ++ [(3, .cells true 0 [iP 1, iP 2, iP 2, iP 1, iP 1, iP 1, iP 2, iP 2, iP 1]),
    (4, .cells true 0 [iP 1, iP 2, iP 1, iP 1, iP 1, iP 2]),
    (5, .cells true 0 [iP 1, iP 2, iP 2]),
    (6, .cells true 0 [iP 0, iN 0, iP 2, iP 10, iP 0, iP 1, iP 2, iP 6, iP 1, iP 1, iP 1, iP 4]),
    (7, .map [⟨.agg ⟨[iP 0, iP 0]⟩, .bool true, 0⟩, ⟨.agg ⟨[iP 1, iP 0]⟩, .bool false, 1⟩, ⟨.agg ⟨[iP 2, iP 0]⟩, .bool false, 2⟩, ⟨.agg ⟨[iP 3, iP 0]⟩, .bool false, 3⟩, ⟨.agg ⟨[iP 0, iP 1]⟩, .bool true, 4⟩, ⟨.agg ⟨[iP 1, iP 1]⟩, .bool false, 5⟩, ⟨.agg ⟨[iP 2, iP 1]⟩, .bool false, 6⟩, ⟨.agg ⟨[iP 3, iP 1]⟩, .bool true, 7⟩, ⟨.agg ⟨[iP 0, iP 2]⟩, .bool true, 8⟩, ⟨.agg ⟨[iP 1, iP 2]⟩, .bool false, 9⟩, ⟨.agg ⟨[iP 2, iP 2]⟩, .bool false, 10⟩, ⟨.agg ⟨[iP 3, iP 2]⟩, .bool true, 11⟩] 12),
    (8, .cells true 3 [iP 0, iP 1, iP 3, iP 1]),
    (9, .cells true 3 [iP 0, iP 0, iP 3, iP 1, iP 3, iP 2])],
   [],
   .bool false⟩
theorem fb168_h : fb168.holds EE := ent0 _ (by kernel_rfl) (by kernel_rfl)
-- (decani/founder.chest).isBetter, 1478 steps
noncomputable def fb172 : Ent :=
  ⟨47, [.agg ⟨[iP 4, iP 28, .slice (some ⟨3, 0, none⟩) 3 3, .slice (some ⟨4, 0, none⟩) 2 2, .bool false, .slice (some ⟨5, 0, none⟩) 1 1, .bool true, .slice none 0 0, .slice (some ⟨6, 0, none⟩) 3 3, .map (some 7), iP 1]⟩, .slice (some ⟨8, 0, none⟩) 1 18446744073709551616, .slice (some ⟨9, 0, none⟩) 2 18446744073709551616], 10,
   gC ++ [(3, .cells true 0 [iP 1, iP 2, iP 2, iP 1, iP 1, iP 1, iP 2, iP 2, iP 1]),
    (4, .cells true 0 [iP 1, iP 2, iP 1, iP 1, iP 1, iP 2]),
    (5, .cells true 0 [iP 1, iP 2, iP 2]),
    (6, .cells true 0 [iP 0, iN 0, iP 2, iP 10, iP 0, iP 1, iP 2, iP 6, iP 1, iP 1, iP 1, iP 4]),
    (7, .map [⟨.agg ⟨[iP 0, iP 0]⟩, .bool true, 0⟩, ⟨.agg ⟨[iP 1, iP 0]⟩, .bool false, 1⟩, ⟨.agg ⟨[iP 2, iP 0]⟩, .bool false, 2⟩, ⟨.agg ⟨[iP 3, iP 0]⟩, .bool false, 3⟩, ⟨.agg ⟨[iP 0, iP 1]⟩, .bool true, 4⟩, ⟨.agg ⟨[iP 1, iP 1]⟩, .bool false, 5⟩, ⟨.agg ⟨[iP 2, iP 1]⟩, .bool false, 6⟩, ⟨.agg ⟨[iP 3, iP 1]⟩, .bool true, 7⟩, ⟨.agg ⟨[iP 0, iP 2]⟩, .bool true, 8⟩, ⟨.agg ⟨[iP 1, iP 2]⟩, .bool false, 9⟩, ⟨.agg ⟨[iP 2, iP 2]⟩, .bool false, 10⟩, ⟨.agg ⟨[iP 3, iP 2]⟩, .bool true, 11⟩] 12),
    (8, .cells true 3 [iP 0, iP 0]),
    (9, .cells true 3 [iP 0, iP 0, iP 3, iP 1])],
   [],
   .bool false⟩
theorem fb172_h : fb172.holds EE := ent0 _ (by kernel_rfl) (by kernel_rfl)
-- (decani/founder.chest).isBetter, 1473 steps
noncomputable def fb176 : Ent :=
  ⟨47, [.agg ⟨[iP 4, iP 28, .slice (some ⟨3, 0, none⟩) 3 3, .slice (some ⟨4, 0, none⟩) 2 2, .bool false, .slice (some ⟨5, 0, none⟩) 1 1, .bool true, .slice (some ⟨6, 0, none⟩) 1 1, .slice (some ⟨7, 0, none⟩) 3 3, .map (some 8), iN 0]⟩, .slice (some ⟨9, 0, none⟩) 2 18446744073709551616, .slice (some ⟨10, 0, none⟩) 3 18446744073709551616], 11,
   gC ++ [(3, .cells true 0 [iP 1, iP 2, iP 2, iP 1, iP 1, iP 1, iP 2, iP 2, iP 1]),
    (4, .cells true 0 [iP 1, iP 2, iP 1, iP 1, iP 1, iP 2]),
    (5, .cells true 0 [iP 1, iP 2, iP 2]),
    (6, .cells true 0 [iP 0, iP 3, iP 2]),
    (7, .cells true 0 [iP 0, iN 0, iP 2, iP 10, iP 0, iP 1, iP 2, iP 6, iP 1, iP 1, iP 1, iP 4]),
    (8, .map [⟨.agg ⟨[iP 0, iP 0]⟩, .bool true, 0⟩, ⟨.agg ⟨[iP 1, iP 0]⟩, .bool false, 1⟩, ⟨.agg ⟨[iP 2, iP 0]⟩, .bool false, 2⟩, ⟨.agg ⟨[iP 3, iP 0]⟩, .bool false, 3⟩, ⟨.agg ⟨[iP 0, iP 1]⟩, .bool true, 4⟩, ⟨.agg ⟨[iP 1, iP 1]⟩, .bool true, 5⟩, ⟨.agg ⟨[iP 2, iP 1]⟩, .bool false, 6⟩, ⟨.agg ⟨[iP 3, iP 1]⟩, .bool true, 7⟩, ⟨.agg ⟨[iP 0, iP 2]⟩, .bool true, 8⟩, ⟨.agg ⟨[iP 1, iP 2]⟩, .bool true, 9⟩, ⟨.agg ⟨[iP 2, iP 2]⟩, .bool false, 10⟩, ⟨.agg ⟨[iP 3, iP 2]⟩, .bool true, 11⟩] 12),
    (9, .cells true 3 [iP 1, iP 2, iP 3, iP 1]),
    (10, .cells true 3 [iP 0, iP 0, iP 1, iP 1, iP 3, iP 1])],
   [],
   .bool false⟩
theorem fb176_h : fb176.holds EE := ent0 _ (by kernel_rfl) (by kernel_rfl)
-- (decani/founder.chest).isBetter, 1473 steps
noncomputable def fb180 : Ent :=
  ⟨47, [.agg ⟨[iP 4, iP 28, .slice (some ⟨3, 0, none⟩) 3 3, .slice (some ⟨4, 0, none⟩) 2 2, .bool false, .slice (some ⟨5, 0, none⟩) 1 1, .bool true, .slice (some ⟨6, 0, none⟩) 1 1, .slice (some ⟨7, 0, none⟩) 3 3, .map (some 8), iP 0]⟩, .slice (some ⟨9, 0, none⟩) 1 18446744073709551616, .slice (some ⟨10, 0, none⟩) 4 18446744073709551616], 11,
   gC ++ [(3, .cells true 0 [iP 1, iP 2, iP 2, iP 1, iP 1, iP 1, iP 2, iP 2, iP 1]),
    (4, .cells true 0 [iP 1, iP 2, iP 1, iP 1, iP 1, iP 2]),
    (5, .cells true 0 [iP 1, iP 2, iP 2]),
    (6, .cells true 0 [iP 0, iP 3, iP 2]),
    (7, .cells true 0 [iP 0, iN 0, iP 2, iP 10, iP 0, iP 1, iP 2, iP 6, iP 1, iP 1, iP 1, iP 4]),
    (8, .map [⟨.agg ⟨[iP 0, iP 0]⟩, .bool true, 0⟩, ⟨.agg ⟨[iP 1, iP 0]⟩, .bool false, 1⟩, ⟨.agg ⟨[iP 2, iP 0]⟩, .bool false, 2⟩, ⟨.agg ⟨[iP 3, iP 0]⟩, .bool false, 3⟩, ⟨.agg ⟨[iP 0, iP 1]⟩, .bool true, 4⟩, ⟨.agg ⟨[iP 1, iP 1]⟩, .bool true, 5⟩, ⟨.agg ⟨[iP 2, iP 1]⟩, .bool false, 6⟩, ⟨.agg ⟨[iP 3, iP 1]⟩, .bool true, 7⟩, ⟨.agg ⟨[iP 0, iP 2]⟩, .bool true, 8⟩, ⟨.agg ⟨[iP 1, iP 2]⟩, .bool true, 9⟩, ⟨.agg ⟨[iP 2, iP 2]⟩, .bool false, 10⟩, ⟨.agg ⟨[iP 3, iP 2]⟩, .bool true, 11⟩] 12),
    (9, .cells true 3 [iP 3, iP 2]),
    (10, .cells true 3 [iP 0, iP 0, iP 0, iP 1, iP 1, iP 1, iP 3, iP 2])],
   [],
   .bool false⟩
theorem fb180_h : fb180.holds EE := ent0 _ (by kernel_rfl) (by kernel_rfl)
-- (decani/founder.chest).isBetter, 1473 steps
noncomputable def fb184 : Ent :=
  ⟨47, [.agg ⟨[iP 4, iP 28, .slice (some ⟨3, 0, none⟩) 3 3, .slice (some ⟨4, 0, none⟩) 2 2, .bool false, .slice (some ⟨5, 0, none⟩) 1 1, .bool true, .slice (some ⟨6, 0, none⟩) 1 1, .slice (some ⟨7, 0, none⟩) 3 3, .map (some 8), iP 1]⟩, .slice (some ⟨9, 0, none⟩) 1 18446744073709551616, .slice (some ⟨10, 0, none⟩) 4 18446744073709551616], 11,
   gC ++ [(3, .cells true 0 [iP 1, iP 2, iP 2, iP 1, iP 1, iP 1, iP 2, iP 2, iP 1]),
    (4, .cells true 0 [iP 1, iP 2, iP 1, iP 1, iP 1, iP 2]),
    (5, .cells true 0 [iP 1, iP 2, iP 2]),
    (6, .cells true 0 [iP 0, iP 3, iP 2]),
    (7, .cells true 0 [iP 0, iN 0, iP 2, iP 10, iP 0, iP 1, iP 2, iP 6, iP 1, iP 1, iP 1, iP 4]),
    (8, .map [⟨.agg ⟨[iP 0, iP 0]⟩, .bool true, 0⟩, ⟨.agg ⟨[iP 1, iP 0]⟩, .bool false, 1⟩, ⟨.agg ⟨[iP 2, iP 0]⟩, .bool false, 2⟩, ⟨.agg ⟨[iP 3, iP 0]⟩, .bool false, 3⟩, ⟨.agg ⟨[iP 0, iP 1]⟩, .bool true, 4⟩, ⟨.agg ⟨[iP 1, iP 1]⟩, .bool true, 5⟩, ⟨.agg ⟨[iP 2, iP 1]⟩, .bool false, 6⟩, ⟨.agg ⟨[iP 3, iP 1]⟩, .bool true, 7⟩, ⟨.agg ⟨[iP 0, iP 2]⟩, .bool true, 8⟩, ⟨.agg ⟨[iP 1, iP 2]⟩, .bool true, 9⟩, ⟨.agg ⟨[iP 2, iP 2]⟩, .bool false, 10⟩, ⟨.agg ⟨[iP 3, iP 2]⟩, .bool true, 11⟩] 12),
    (9, .cells true 3 [iP 3, iP 2]),
    (10, .cells true 3 [iP 0, iP 0, iP 1, iP 1, iP 1, iP 2, iP 3, iP 1])],
   [],
   .bool false⟩
theorem fb184_h : fb184.holds EE := ent0 _ (by kernel_rfl) (by kernel_rfl)
-- (decani/founder.chest).isBetter, 1473 steps
noncomputable def fb188 : Ent :=
  ⟨47, [.agg ⟨[iP 4, iP 28, .slice (some ⟨3, 0, none⟩) 3 3, .slice (some ⟨4, 0, none⟩) 2 2, .bool false, .slice (some ⟨5, 0, none⟩) 1 1, .bool true, .slice (some ⟨6, 0, none⟩) 1 1, .slice (some ⟨7, 0, none⟩) 3 3, .map (some 8), iP 3]⟩, .slice (some ⟨9, 0, none⟩) 1 18446744073709551616, .slice (some ⟨10, 0, none⟩) 4 18446744073709551616], 11,
   gC ++ [(3, .cells true 0 [iP 1, iP 2, iP 2, iP 1, iP 1, iP 1, iP 2, iP 2, iP 1]),
    (4, .cells true 0 [iP 1, iP 2, iP 1, iP 1, iP 1, iP 2]),
    (5, .cells true 0 [iP 1, iP 2, iP 2]),
    (6, .cells true 0 [iP 0, iP 3, iP 2]),
    (7, .cells true 0 [iP 0, iN 0, iP 2, iP 10, iP 0, iP 1, iP 2, iP 6, iP 1, iP 1, iP 1, iP 4]),
    (8, .map [⟨.agg ⟨[iP 0, iP 0]⟩, .bool true, 0⟩, ⟨.agg ⟨[iP 1, iP 0]⟩, .bool false, 1⟩, ⟨.agg ⟨[iP 2, iP 0]⟩, .bool false, 2⟩, ⟨.agg ⟨[iP 3, iP 0]⟩, .bool false, 3⟩, ⟨.agg ⟨[iP 0, iP 1]⟩, .bool true, 4⟩, ⟨.agg ⟨[iP 1, iP 1]⟩, .bool true, 5⟩, ⟨.agg ⟨[iP 2, iP 1]⟩, .bool false, 6⟩, ⟨.agg ⟨[iP 3, iP 1]⟩, .bool true, 7⟩, ⟨.agg ⟨[iP 0, iP 2]⟩, .bool true, 8⟩, ⟨.agg ⟨[iP 1, iP 2]⟩, .bool true, 9⟩, ⟨.agg ⟨[iP 2, iP 2]⟩, .bool false, 10⟩, ⟨.agg ⟨[iP 3, iP 2]⟩, .bool true, 11⟩] 12),
    (9, .cells true 3 [iP 1, iP 1]),
    (10, .cells true 3 [iP 0, iP 0, iP 1, iP 1, iP 3, iP 1, iP 3, iP 2])],
   [],
   .bool false⟩
theorem fb188_h : fb188.holds EE := ent0 _ (by kernel_rfl) (by kernel_rfl)
-- (decani/founder.chest).isBetter, 1473 steps
noncomputable def fb192 : Ent :=
  ⟨47, [.agg ⟨[iP 4, iP 28, .slice (some ⟨3, 0, none⟩) 3 3, .slice (some ⟨4, 0, none⟩) 2 2, .bool false, .slice (some ⟨5, 0, none⟩) 1 1, .bool true, .slice none 0 0, .slice (some ⟨6, 0, none⟩) 3 3, .map (some 7), iP 3]⟩, .slice (some ⟨8, 0, none⟩) 2 18446744073709551616, .slice (some ⟨9, 0, none⟩) 3 18446744073709551616], 10,
   gC ++ [(3, .cells true 0 [iP 1, iP 2, iP 2, iP 1, iP 1, iP 1, iP 2, iP 2, iP 1]),
    (4, .cells true 0 [iP 1, iP 2, iP 1, iP 1, iP 1, iP 2]),
    (5, .cells true 0 [iP 1, iP 2, iP 2]),
    (6, .cells true 0 [iP 0, iN 0, iP 2, iP 10, iP 0, iP 1, iP 2, iP 6, iP 1, iP 1, iP 1, iP 4]),
    (7, .map [⟨.agg ⟨[iP 0, iP 0]⟩, .bool true, 0⟩, ⟨.agg ⟨[iP 1, iP 0]⟩, .bool false, 1⟩, ⟨.agg ⟨[iP 2, iP 0]⟩, .bool false, 2⟩, ⟨.agg ⟨[iP 3, iP 0]⟩, .bool false, 3⟩, ⟨.agg ⟨[iP 0, iP 1]⟩, .bool true, 4⟩, ⟨.agg ⟨[iP 1, iP 1]⟩, .bool false, 5⟩, ⟨.agg ⟨[iP 2, iP 1]⟩, .bool false, 6⟩, ⟨.agg ⟨[iP 3, iP 1]⟩, .bool true, 7⟩, ⟨.agg ⟨[iP 0, iP 2]⟩, .bool true, 8⟩, ⟨.agg ⟨[iP 1, iP 2]⟩, .bool false, 9⟩, ⟨.agg ⟨[iP 2, iP 2]⟩, .bool false, 10⟩, ⟨.agg ⟨[iP 3, iP 2]⟩, .bool true, 11⟩] 12),
    (8, .cells true 3 [iP 3, iP 1, iP 3, iP 2]),
    (9, .cells true 3 [iP 0, iP 0, iP 3, iP 1, iP 3, iP 2])],
   [],
   .bool false⟩
theorem fb192_h : fb192.holds EE := ent0 _ (by kernel_rfl) (by kernel_rfl)
-- (decani/founder.chest).isBetter, 1472 steps
noncomputable def fb196 : Ent :=
  ⟨47, [.agg ⟨[iP 4, iP 28, .slice (some ⟨3, 0, none⟩) 3 3, .slice (some ⟨4, 0, none⟩) 2 2, .bool false, .slice (some ⟨5, 0, none⟩) 1 1, .bool true, .slice (some ⟨6, 0, none⟩) 1 1, .slice (some ⟨7, 0, none⟩) 3 3, .map (some 8), iN 0]⟩, .slice (some ⟨9, 0, none⟩) 1 18446744073709551616, .slice (some ⟨10, 0, none⟩) 3 18446744073709551616], 11,
   gC ++ [(3, .cells true 0 [iP 1, iP 2, iP 2, iP 1, iP 1, iP 1, iP 2, iP 2, iP 1]),
    (4, .cells true 0 [iP 1, iP 2, iP 1, iP 1, iP 1, iP 2]),
    (5, .cells true 0 [iP 1, iP 2, iP 2]),
    (6, .cells true 0 [iP 0, iP 3, iP 2]),
    (7, .cells true 0 [iP 0, iN 0, iP 2, iP 10, iP 0, iP 1, iP 2, iP 6, iP 1, iP 1, iP 1, iP 4]),
    (8, .map [⟨.agg ⟨[iP 0, iP 0]⟩, .bool true, 0⟩, ⟨.agg ⟨[iP 1, iP 0]⟩, .bool false, 1⟩, ⟨.agg ⟨[iP 2, iP 0]⟩, .bool false, 2⟩, ⟨.agg ⟨[iP 3, iP 0]⟩, .bool false, 3⟩, ⟨.agg ⟨[iP 0, iP 1]⟩, .bool true, 4⟩, ⟨.agg ⟨[iP 1, iP 1]⟩, .bool true, 5⟩, ⟨.agg ⟨[iP 2, iP 1]⟩, .bool false, 6⟩, ⟨.agg ⟨[iP 3, iP 1]⟩, .bool true, 7⟩, ⟨.agg ⟨[iP 0, iP 2]⟩, .bool true, 8⟩, ⟨.agg ⟨[iP 1, iP 2]⟩, .bool true, 9⟩, ⟨.agg ⟨[iP 2, iP 2]⟩, .bool false, 10⟩, ⟨.agg ⟨[iP 3, iP 2]⟩, .bool true, 11⟩] 12),
    (9, .cells true 3 [iP 0, iP 1]),
    (10, .cells true 3 [iP 0, iP 0, iP 1, iP 1, iP 3, iP 1])],
   [],
   .bool false⟩
theorem fb196_h : fb196.holds EE := ent0 _ (by kernel_rfl) (by kernel_rfl)
-- (decani/founder.chest).isBetter, 1472 steps
noncomputable def fb200 : Ent :=
  ⟨47, [.agg ⟨[iP 4, iP 28, .slice (some ⟨3, 0, none⟩) 3 3, .slice (some ⟨4, 0, none⟩) 2 2, .bool false, .slice (some ⟨5, 0, none⟩) 1 1, .bool true, .slice none 0 0, .slice (some ⟨6, 0, none⟩) 3 3, .map (some 7), iP 0]⟩, .slice (some ⟨8, 0, none⟩) 1 18446744073709551616, .slice (some ⟨9, 0, none⟩) 3 18446744073709551616], 10,
   gC ++ [(3, .cells true 0 [iP 1, iP 2, iP 2, iP 1, iP 1, iP 1, iP 2, iP 2, iP 1]),
    (4, .cells true 0 [iP 1, iP 2, iP 1, iP 1, iP 1, iP 2]),
    (5, .cells true 0 [iP 1, iP 2, iP 2]),
    (6, .cells true 0 [iP 0, iN 0, iP 2, iP 10, iP 0, iP 1, iP 2, iP 6, iP 1, iP 1, iP 1, iP 4]),
    (7, .map [⟨.agg ⟨[iP 0, iP 0]⟩, .bool true, 0⟩, ⟨.agg ⟨[iP 1, iP 0]⟩, .bool false, 1⟩, ⟨.agg ⟨[iP 2, iP 0]⟩, .bool false, 2⟩, ⟨.agg ⟨[iP 3, iP 0]⟩, .bool false, 3⟩, ⟨.agg ⟨[iP 0, iP 1]⟩, .bool true, 4⟩, ⟨.agg ⟨[iP 1, iP 1]⟩, .bool false, 5⟩, ⟨.agg ⟨[iP 2, iP 1]⟩, .bool false, 6⟩, ⟨.agg ⟨[iP 3, iP 1]⟩, .bool true, 7⟩, ⟨.agg ⟨[iP 0, iP 2]⟩, .bool true, 8⟩, ⟨.agg ⟨[iP 1, iP 2]⟩, .bool false, 9⟩, ⟨.agg ⟨[iP 2, iP 2]⟩, .bool false, 10⟩, ⟨.agg ⟨[iP 3, iP 2]⟩, .bool true, 11⟩] 12),
    (8, .cells true 3 [iP 0, iP 1]),
    (9, .cells true 3 [iP 0, iP 0, iP 0, iP 1, iP 3, iP 1])],
   [],
   .bool false⟩
theorem fb200_h : fb200.holds EE := ent0 _ (by kernel_rfl) (by kernel_rfl)
-- (decani/founder.chest).isBetter, 1472 steps
noncomputable def fb204 : Ent :=
  ⟨47, [.agg ⟨[iP 4, iP 28, .slice (some ⟨3, 0, none⟩) 3 3, .slice (some ⟨4, 0, none⟩) 2 2, .bool false, .slice (some ⟨5, 0, none⟩) 1 1, .bool true, .slice none 0 0, .slice (some ⟨6, 0, none⟩) 3 3, .map (some 7), iP 1]⟩, .slice (some ⟨8, 0, none⟩) 2 18446744073709551616, .slice (some ⟨9, 0, none⟩) 2 18446744073709551616], 10,
   gC ++ [(3, .cells true 0 [iP 1, iP 2, iP 2, iP 1, iP 1, iP 1, iP 2, iP 2, iP 1]),
    (4, .cells true 0 [iP 1, iP 2, iP 1, iP 1, iP 1, iP 2]),
    (5, .cells true 0 [iP 1, iP 2, iP 2]),
    (6, .cells true 0 [iP 0, iN 0, iP 2, iP 10, iP 0, iP 1, iP 2, iP 6, iP 1, iP 1, iP 1, iP 4]),
    (7, .map [⟨.agg ⟨[iP 0, iP 0]⟩, .bool true, 0⟩, ⟨.agg ⟨[iP 1, iP 0]⟩, .bool false, 1⟩, ⟨.agg ⟨[iP 2, iP 0]⟩, .bool false, 2⟩, ⟨.agg ⟨[iP 3, iP 0]⟩, .bool false, 3⟩, ⟨.agg ⟨[iP 0, iP 1]⟩, .bool true, 4⟩, ⟨.agg ⟨[iP 1, iP 1]⟩, .bool false, 5⟩, ⟨.agg ⟨[iP 2, iP 1]⟩, .bool false, 6⟩, ⟨.agg ⟨[iP 3, iP 1]⟩, .bool true, 7⟩, ⟨.agg ⟨[iP 0, iP 2]⟩, .bool true, 8⟩, ⟨.agg ⟨[iP 1, iP 2]⟩, .bool false, 9⟩, ⟨.agg ⟨[iP 2, iP 2]⟩, .bool false, 10⟩, ⟨.agg ⟨[iP 3, iP 2]⟩, .bool true, 11⟩] 12),
    (8, .cells true 3 [iP 0, iP 2, iP 3, iP 1]),
    (9, .cells true 3 [iP 0, iP 0, iP 3, iP 1])],
   [],
   .bool false⟩
theorem fb204_h : fb204.holds EE := ent0 _ (by kernel_rfl) (by kernel_rfl)
-- (decani/founder.chest).isBetter, 1472 steps
noncomputable def fb208 : Ent :=
  ⟨47, [.agg ⟨[iP 4, iP 28, .slice (some ⟨3, 0, none⟩) 3 3, .slice (some ⟨4, 0, none⟩) 2 2, .bool false, .slice (some ⟨5, 0, none⟩) 1 1, .bool true, .slice none 0 0, .slice (some ⟨6, 0, none⟩) 3 3, .map (some 7), iP 3]⟩, .slice (some ⟨8, 0, none⟩) 1 18446744073709551616, .slice (some ⟨9, 0, none⟩) 3 18446744073709551616], 10,
   gC ++ [(3, .cells true 0 [iP 1, iP 2, iP 2, iP 1, iP 1, iP 1, iP 2, iP 2, iP 1]),
    (4, .cells true 0 [iP 1, iP 2, iP 1, iP 1, iP 1, iP 2]),
    (5, .cells true 0 [iP 1, iP 2, iP 2]),
    (6, .cells true 0 [iP 0, iN 0, iP 2, iP 10, iP 0, iP 1, iP 2, iP 6, iP 1, iP 1, iP 1, iP 4]),
    (7, .map [⟨.agg ⟨[iP 0, iP 0]⟩, .bool true, 0⟩, ⟨.agg ⟨[iP 1, iP 0]⟩, .bool false, 1⟩, ⟨.agg ⟨[iP 2, iP 0]⟩, .bool false, 2⟩, ⟨.agg ⟨[iP 3, iP 0]⟩, .bool false, 3⟩, ⟨.agg ⟨[iP 0, iP 1]⟩, .bool true, 4⟩, ⟨.agg ⟨[iP 1, iP 1]⟩, .bool false, 5⟩, ⟨.agg ⟨[iP 2, iP 1]⟩, .bool false, 6⟩, ⟨.agg ⟨[iP 3, iP 1]⟩, .bool true, 7⟩, ⟨.agg ⟨[iP 0, iP 2]⟩, .bool true, 8⟩, ⟨.agg ⟨[iP 1, iP 2]⟩, .bool false, 9⟩, ⟨.agg ⟨[iP 2, iP 2]⟩, .bool false, 10⟩, ⟨.agg ⟨[iP 3, iP 2]⟩, .bool true, 11⟩] 12),
    (8, .cells true 3 [iP 0, iP 1]),
    (9, .cells true 3 [iP 0, iP 0, iP 3, iP 1, iP 3, iP 2])],
   [],
   .bool false⟩
theorem fb208_h : fb208.holds EE := ent0 _ (by kernel_rfl) (by kernel_rfl)
-- (decani/founder.chest).isBetter, 1443 steps
noncomputable def fb212 : Ent :=
  ⟨47, [.agg ⟨[iP 4, iP 28, .slice (some ⟨3, 0, none⟩) 3 3, .slice (some ⟨4, 0, none⟩) 2 2, .bool false, .slice (some ⟨5, 0, none⟩) 1 1, .bool true, .slice (some ⟨6, 0, none⟩) 1 1, .slice (some ⟨7, 0, none⟩) 3 3, .map (some 8), iN 0]⟩, .slice (some ⟨9, 0, none⟩) 1 18446744073709551616, .slice (some ⟨10, 0, none⟩) 3 18446744073709551616], 11,
   gC ++ [(3, .cells true 0 [iP 1, iP 2, iP 2, iP 1, iP 1, iP 1, iP 2, iP 2, iP 1]),
    (4, .cells true 0 [iP 1, iP 2, iP 1, iP 1, iP 1, iP 2]),
    (5, .cells true 0 [iP 1, iP 2, iP 2]),
    (6, .cells true 0 [iP 0, iP 3, iP 2]),
    (7, .cells true 0 [iP 0, iN 0, iP 2, iP 10, iP 0, iP 1, iP 2, iP 6, iP 1, iP 1, iP 1, iP 4]),
    (8, .map [⟨.agg ⟨[iP 0, iP 0]⟩, .bool true, 0⟩, ⟨.agg ⟨[iP 1, iP 0]⟩, .bool false, 1⟩, ⟨.agg ⟨[iP 2, iP 0]⟩, .bool false, 2⟩, ⟨.agg ⟨[iP 3, iP 0]⟩, .bool false, 3⟩, ⟨.agg ⟨[iP 0, iP 1]⟩, .bool true, 4⟩, ⟨.agg ⟨[iP 1, iP 1]⟩, .bool true, 5⟩, ⟨.agg ⟨[iP 2, iP 1]⟩, .bool false, 6⟩, ⟨.agg ⟨[iP 3, iP 1]⟩, .bool true, 7⟩, ⟨.agg ⟨[iP 0, iP 2]⟩, .bool true, 8⟩, ⟨.agg ⟨[iP 1, iP 2]⟩, .bool true, 9⟩, ⟨.agg ⟨[iP 2, iP 2]⟩, .bool false, 10⟩, ⟨.agg ⟨[iP 3, iP 2]⟩, .bool true, 11⟩] 12),
    (9, .cells true 3 [iP 3, iP 1]),
    (10, .cells true 3 [iP 0, iP 0, iP 1, iP 1, iP 3, iP 1])],
   [],
   .bool false⟩
theorem fb212_h : fb212.holds EE := ent0 _ (by kernel_rfl) (by kernel_rfl)
-- (decani/founder.chest).isBetter, 1443 steps
noncomputable def fb216 : Ent :=
  ⟨47, [.agg ⟨[iP 4, iP 28, .slice (some ⟨3, 0, none⟩) 3 3, .slice (some ⟨4, 0, none⟩) 2 2, .bool false, .slice (some ⟨5, 0, none⟩) 1 1, .bool true, .slice (some ⟨6, 0, none⟩) 1 1, .slice (some ⟨7, 0, none⟩) 3 3, .map (some 8), iP 2]⟩, .slice (some ⟨9, 0, none⟩) 1 18446744073709551616, .slice (some ⟨10, 0, none⟩) 3 18446744073709551616], 11,
   gC ++ [(3, .cells true 0 [iP 1, iP 2, iP 2, iP 1, iP 1, iP 1, iP 2, iP 2, iP 1]),
    (4, .cells true 0 [iP 1, iP 2, iP 1, iP 1, iP 1, iP 2]),
    (5, .cells true 0 [iP 1, iP 2, iP 2]),
    (6, .cells true 0 [iP 0, iP 3, iP 2]),
    (7, .cells true 0 [iP 0, iN 0, iP 2, iP 10, iP 0, iP 1, iP 2, iP 6, iP 1, iP 1, iP 1, iP 4]),
    (8, .map [⟨.agg ⟨[iP 0, iP 0]⟩, .bool true, 0⟩, ⟨.agg ⟨[iP 1, iP 0]⟩, .bool false, 1⟩, ⟨.agg ⟨[iP 2, iP 0]⟩, .bool false, 2⟩, ⟨.agg ⟨[iP 3, iP 0]⟩, .bool false, 3⟩, ⟨.agg ⟨[iP 0, iP 1]⟩, .bool true, 4⟩, ⟨.agg ⟨[iP 1, iP 1]⟩, .bool true, 5⟩, ⟨.agg ⟨[iP 2, iP 1]⟩, .bool false, 6⟩, ⟨.agg ⟨[iP 3, iP 1]⟩, .bool true, 7⟩, ⟨.agg ⟨[iP 0, iP 2]⟩, .bool true, 8⟩, ⟨.agg ⟨[iP 1, iP 2]⟩, .bool true, 9⟩, ⟨.agg ⟨[iP 2, iP 2]⟩, .bool false, 10⟩, ⟨.agg ⟨[iP 3, iP 2]⟩, .bool true, 11⟩] 12),
    (9, .cells true 3 [iP 3, iP 1]),
    (10, .cells true 3 [iP 0, iP 0, iP 1, iP 1, iP 3, iP 1])],
   [],
   .bool false⟩
theorem fb216_h : fb216.holds EE := ent0 _ (by kernel_rfl) (by kernel_rfl)
-- (decani/founder.chest).isBetter, 1443 steps
noncomputable def fb220 : Ent :=
  ⟨47, [.agg ⟨[iP 4, iP 28, .slice (some ⟨3, 0, none⟩) 3 3, .slice (some ⟨4, 0, none⟩) 2 2, .bool false, .slice (some ⟨5, 0, none⟩) 1 1, .bool true, .slice none 0 0, .slice (some ⟨6, 0, none⟩) 3 3, .map (some 7), iP 3]⟩, .slice (some ⟨8, 0, none⟩) 1 18446744073709551616, .slice (some ⟨9, 0, none⟩) 3 18446744073709551616], 10,
   gC ++ [(3, .cells true 0 [iP 1, iP 2, iP 2, iP 1, iP 1, iP 1, iP 2, iP 2, iP 1]),
    (4, .cells true 0 [iP 1, iP 2, iP 1, iP 1, iP 1, iP 2]),
    (5, .cells true 0 [iP 1, iP 2, iP 2]),
    (6, .cells true 0 [iP 0, iN 0, iP 2, iP 10, iP 0, iP 1, iP 2, iP 6, iP 1, iP 1, iP 1, iP 4]),
    (7, .map [⟨.agg ⟨[iP 0, iP 0]⟩, .bool true, 0⟩, ⟨.agg ⟨[iP 1, iP 0]⟩, .bool false, 1⟩, ⟨.agg ⟨[iP 2, iP 0]⟩, .bool false, 2⟩, ⟨.agg ⟨[iP 3, iP 0]⟩, .bool false, 3⟩, ⟨.agg ⟨[iP 0, iP 1]⟩, .bool true, 4⟩, ⟨.agg ⟨[iP 1, iP 1]⟩, .bool false, 5⟩, ⟨.agg ⟨[iP 2, iP 1]⟩, .bool false, 6⟩, ⟨.agg ⟨[iP 3, iP 1]⟩, .bool true, 7⟩, ⟨.agg ⟨[iP 0, iP 2]⟩, .bool true, 8⟩, ⟨.agg ⟨[iP 1, iP 2]⟩, .bool false, 9⟩, ⟨.agg ⟨[iP 2, iP 2]⟩, .bool false, 10⟩, ⟨.agg ⟨[iP 3, iP 2]⟩, .bool true, 11⟩] 12),
    (8, .cells true 3 [iP 3, iP 1]),
    (9, .cells true 3 [iP 0, iP 0, iP 3, iP 1, iP 3, iP 2])],
   [],
   .bool false⟩
theorem fb220_h : fb220.holds EE := ent0 _ (by kernel_rfl) (by kernel_rfl)
-- (decani/founder.chest).isBetter, 1442 steps
noncomputable def fb224 : Ent :=
  ⟨47, [.agg ⟨[iP 4, iP 28, .slice (some ⟨3, 0, none⟩) 3 3, .slice (some ⟨4, 0, none⟩) 2 2, .bool false, .slice (some ⟨5, 0, none⟩) 1 1, .bool true, .slice none 0 0, .slice (some ⟨6, 0, none⟩) 3 3, .map (some 7), iP 1]⟩, .slice (some ⟨8, 0, none⟩) 1 18446744073709551616, .slice (some ⟨9, 0, none⟩) 2 18446744073709551616], 10,
   gC ++ [(3, .cells true 0 [iP 1, iP 2, iP 2, iP 1, iP 1, iP 1, iP 2, iP 2, iP 1]),
    (4, .cells true 0 [iP 1, iP 2, iP 1, iP 1, iP 1, iP 2]),
    (5, .cells true 0 [iP 1, iP 2, iP 2]),
    (6, .cells true 0 [iP 0, iN 0, iP 2, iP 10, iP 0, iP 1, iP 2, iP 6, iP 1, iP 1, iP 1, iP 4]),
    (7, .map [⟨.agg ⟨[iP 0, iP 0]⟩, .bool true, 0⟩, ⟨.agg ⟨[iP 1, iP 0]⟩, .bool false, 1⟩, ⟨.agg ⟨[iP 2, iP 0]⟩, .bool false, 2⟩, ⟨.agg ⟨[iP 3, iP 0]⟩, .bool false, 3⟩, ⟨.agg ⟨[iP 0, iP 1]⟩, .bool true, 4⟩, ⟨.agg ⟨[iP 1, iP 1]⟩, .bool false, 5⟩, ⟨.agg ⟨[iP 2, iP 1]⟩, .bool false, 6⟩, ⟨.agg ⟨[iP 3, iP 1]⟩, .bool true, 7⟩, ⟨.agg ⟨[iP 0, iP 2]⟩, .bool true, 8⟩, ⟨.agg ⟨[iP 1, iP 2]⟩, .bool false, 9⟩, ⟨.agg ⟨[iP 2, iP 2]⟩, .bool false, 10⟩, ⟨.agg ⟨[iP 3, iP 2]⟩, .bool true, 11⟩] 12),
    (8, .cells true 3 [iP 0, iP 1]),
    (9, .cells true 3 [iP 0, iP 0, iP 3, iP 1])],
   [],
   .bool false⟩
theorem fb224_h : fb224.holds EE := ent0 _ (by kernel_rfl) (by kernel_rfl)
-- (decani/founder.chest).isBetter, 1413 steps
noncomputable def fb228 : Ent :=
  ⟨47, [.agg ⟨[iP 4, iP 28, .slice (some ⟨3, 0, none⟩) 3 3, .slice (some ⟨4, 0, none⟩) 2 2, .bool false, .slice (some ⟨5, 0, none⟩) 1 1, .bool true, .slice none 0 0, .slice (some ⟨6, 0, none⟩) 3 3, .map (some 7), iN 0]⟩, .slice (some ⟨8, 0, none⟩) 1 18446744073709551616, .slice (some ⟨9, 0, none⟩) 2 18446744073709551616], 10,
   gC ++ [(3, .cells true 0 [iP 1, iP 2, iP 2, iP 1, iP 1, iP 1, iP 2, iP 2, iP 1]),
    (4, .cells true 0 [iP 1, iP 2, iP 1, iP 1, iP 1, iP 2]),
    (5, .cells true 0 [iP 1, iP 2, iP 2]),
    (6, .cells true 0 [iP 0, iN 0, iP 2, iP 10, iP 0, iP 1, iP 2, iP 6, iP 1, iP 1, iP 1, iP 4]),
    (7, .map [⟨.agg ⟨[iP 0, iP 0]⟩, .bool true, 0⟩, ⟨.agg ⟨[iP 1, iP 0]⟩, .bool false, 1⟩, ⟨.agg ⟨[iP 2, iP 0]⟩, .bool false, 2⟩, ⟨.agg ⟨[iP 3, iP 0]⟩, .bool false, 3⟩, ⟨.agg ⟨[iP 0, iP 1]⟩, .bool true, 4⟩, ⟨.agg ⟨[iP 1, iP 1]⟩, .bool false, 5⟩, ⟨.agg ⟨[iP 2, iP 1]⟩, .bool false, 6⟩, ⟨.agg ⟨[iP 3, iP 1]⟩, .bool true, 7⟩, ⟨.agg ⟨[iP 0, iP 2]⟩, .bool true, 8⟩, ⟨.agg ⟨[iP 1, iP 2]⟩, .bool false, 9⟩, ⟨.agg ⟨[iP 2, iP 2]⟩, .bool false, 10⟩, ⟨.agg ⟨[iP 3, iP 2]⟩, .bool true, 11⟩] 12),
    (8, .cells true 3 [iP 3, iP 1]),
    (9, .cells true 3 [iP 0, iP 0, iP 3, iP 1])],
   [],
   .bool false⟩
theorem fb228_h : fb228.holds EE := ent0 _ (by kernel_rfl) (by kernel_rfl)
-- (decani/founder.chest).isBetter, 1413 steps
noncomputable def fb232 : Ent :=
  ⟨47, [.agg ⟨[iP 4, iP 28, .slice (some ⟨3, 0, none⟩) 3 3, .slice (some ⟨4, 0, none⟩) 2 2, .bool false, .slice (some ⟨5, 0, none⟩) 1 1, .bool true, .slice none 0 0, .slice (some ⟨6, 0, none⟩) 3 3, .map (some 7), iP 2]⟩, .slice (some ⟨8, 0, none⟩) 1 18446744073709551616, .slice (some ⟨9, 0, none⟩) 2 18446744073709551616], 10,
   gC ++ [(3, .cells true 0 [iP 1, iP 2, iP 2, iP 1, iP 1, iP 1, iP 2, iP 2, iP 1]),
    (4, .cells true 0 [iP 1, iP 2, iP 1, iP 1, iP 1, iP 2]),
    (5, .cells true 0 [iP 1, iP 2, iP 2]),
    (6, .cells true 0 [iP 0, iN 0, iP 2, iP 10, iP 0, iP 1, iP 2, iP 6, iP 1, iP 1, iP 1, iP 4]),
    (7, .map [⟨.agg ⟨[iP 0, iP 0]⟩, .bool true, 0⟩, ⟨.agg ⟨[iP 1, iP 0]⟩, .bool false, 1⟩, ⟨.agg ⟨[iP 2, iP 0]⟩, .bool false, 2⟩, ⟨.agg ⟨[iP 3, iP 0]⟩, .bool false, 3⟩, ⟨.agg ⟨[iP 0, iP 1]⟩, .bool true, 4⟩, ⟨.agg ⟨[iP 1, iP 1]⟩, .bool false, 5⟩, ⟨.agg ⟨[iP 2, iP 1]⟩, .bool false, 6⟩, ⟨.agg ⟨[iP 3, iP 1]⟩, .bool true, 7⟩, ⟨.agg ⟨[iP 0, iP 2]⟩, .bool true, 8⟩, ⟨.agg ⟨[iP 1, iP 2]⟩, .bool false, 9⟩, ⟨.agg ⟨[iP 2, iP 2]⟩, .bool false, 10⟩, ⟨.agg ⟨[iP 3, iP 2]⟩, .bool true, 11⟩] 12),
    (8, .cells true 3 [iP 3, iP 1]),
    (9, .cells true 3 [iP 0, iP 0, iP 3, iP 1])],
   [],
   .bool false⟩
theorem fb232_h : fb232.holds EE := ent0 _ (by kernel_rfl) (by kernel_rfl)
-- (decani/founder.chest).isBetter, 1210 steps
noncomputable def fb238 : Ent :=
  ⟨47, [.agg ⟨[iP 4, iP 28, .slice (some ⟨3, 0, none⟩) 3 3, .slice (some ⟨4, 0, none⟩) 2 2, .bool false, .slice (some ⟨5, 0, none⟩) 1 1, .bool true, .slice none 0 0, .slice (some ⟨6, 0, none⟩) 1 1, .map (some 7), iP 3]⟩, .slice (some ⟨8, 0, none⟩) 1 18446744073709551616, .slice (some ⟨9, 0, none⟩) 4 18446744073709551616], 10,
   gC ++ [(3, .cells true 0 [iP 1, iP 2, iP 2, iP 1, iP 1, iP 1, iP 2, iP 2, iP 1]),
    (4, .cells true 0 [iP 1, iP 2, iP 1, iP 1, iP 1, iP 2]),
    (5, .cells true 0 [iP 1, iP 2, iP 2]),
    (6, .cells true 0 [iP 0, iP 3, iP 4, iP 1]),
    (7, .map [⟨.agg ⟨[iP 0, iP 0]⟩, .bool true, 0⟩, ⟨.agg ⟨[iP 1, iP 0]⟩, .bool true, 1⟩, ⟨.agg ⟨[iP 2, iP 0]⟩, .bool true, 2⟩, ⟨.agg ⟨[iP 3, iP 0]⟩, .bool true, 3⟩] 4),
    (8, .cells true 3 [iP 0, iP 0]),
    (9, .cells true 3 [iP 0, iP 0, iP 1, iP 0, iP 2, iP 0, iP 3, iP 0])],
   [],
   .bool false⟩
theorem fb238_h : fb238.holds EE := ent0 _ (by kernel_rfl) (by kernel_rfl)
-- (decani/founder.chest).isBetter, 1206 steps
noncomputable def fb242 : Ent :=
  ⟨47, [.agg ⟨[iP 4, iP 28, .slice (some ⟨3, 0, none⟩) 3 3, .slice (some ⟨4, 0, none⟩) 2 2, .bool false, .slice (some ⟨5, 0, none⟩) 1 1, .bool true, .slice none 0 0, .slice (some ⟨6, 0, none⟩) 1 1, .map (some 7), iP 2]⟩, .slice (some ⟨8, 0, none⟩) 3 18446744073709551616, .slice (some ⟨9, 0, none⟩) 4 18446744073709551616], 10,
   gC ++ [(3, .cells true 0 [iP 1, iP 2, iP 2, iP 1, iP 1, iP 1, iP 2, iP 2, iP 1]),
    (4, .cells true 0 [iP 1, iP 2, iP 1, iP 1, iP 1, iP 2]),
    (5, .cells true 0 [iP 1, iP 2, iP 2]),
    (6, .cells true 0 [iP 0, iP 3, iP 4, iP 1]),
    (7, .map [⟨.agg ⟨[iP 0, iP 0]⟩, .bool true, 0⟩, ⟨.agg ⟨[iP 1, iP 0]⟩, .bool true, 1⟩, ⟨.agg ⟨[iP 2, iP 0]⟩, .bool true, 2⟩, ⟨.agg ⟨[iP 3, iP 0]⟩, .bool true, 3⟩] 4),
    (8, .cells true 3 [iP 1, iP 0, iP 2, iP 0, iP 3, iP 0]),
    (9, .cells true 3 [iP 0, iP 0, iP 1, iP 0, iP 2, iP 0, iP 3, iP 0])],
   [],
   .bool false⟩
theorem fb242_h : fb242.holds EE := ent0 _ (by kernel_rfl) (by kernel_rfl)
-- (decani/founder.chest).isBetter, 1176 steps
noncomputable def fb246 : Ent :=
  ⟨47, [.agg ⟨[iP 4, iP 28, .slice (some ⟨3, 0, none⟩) 3 3, .slice (some ⟨4, 0, none⟩) 2 2, .bool false, .slice (some ⟨5, 0, none⟩) 1 1, .bool true, .slice none 0 0, .slice (some ⟨6, 0, none⟩) 1 1, .map (some 7), iN 0]⟩, .slice (some ⟨8, 0, none⟩) 2 18446744073709551616, .slice (some ⟨9, 0, none⟩) 4 18446744073709551616], 10,
   gC ++ [(3, .cells true 0 [iP 1, iP 2, iP 2, iP 1, iP 1, iP 1, iP 2, iP 2, iP 1]),
    (4, .cells true 0 [iP 1, iP 2, iP 1, iP 1, iP 1, iP 2]),
    (5, .cells true 0 [iP 1, iP 2, iP 2]),
    (6, .cells true 0 [iP 0, iP 3, iP 4, iP 1]),
    (7, .map [⟨.agg ⟨[iP 0, iP 0]⟩, .bool true, 0⟩, ⟨.agg ⟨[iP 1, iP 0]⟩, .bool true, 1⟩, ⟨.agg ⟨[iP 2, iP 0]⟩, .bool true, 2⟩, ⟨.agg ⟨[iP 3, iP 0]⟩, .bool true, 3⟩] 4),
    (8, .cells true 3 [iP 2, iP 0, iP 3, iP 0]),
    (9, .cells true 3 [iP 0, iP 0, iP 1, iP 0, iP 2, iP 0, iP 3, iP 0])],
   [],
   .bool false⟩
theorem fb246_h : fb246.holds EE := ent0 _ (by kernel_rfl) (by kernel_rfl)
-- (decani/founder.chest).isBetter, 1176 steps
noncomputable def fb250 : Ent :=
  ⟨47, [.agg ⟨[iP 4, iP 28, .slice (some ⟨3, 0, none⟩) 3 3, .slice (some ⟨4, 0, none⟩) 2 2, .bool false, .slice (some ⟨5, 0, none⟩) 1 1, .bool true, .slice none 0 0, .slice (some ⟨6, 0, none⟩) 1 1, .map (some 7), iP 1]⟩, .slice (some ⟨8, 0, none⟩) 2 18446744073709551616, .slice (some ⟨9, 0, none⟩) 4 18446744073709551616], 10,
   gC ++ [(3, .cells true 0 [iP 1, iP 2, iP 2, iP 1, iP 1, iP 1, iP 2, iP 2, iP 1]),
    (4, .cells true 0 [iP 1, iP 2, iP 1, iP 1, iP 1, iP 2]),
    (5, .cells true 0 [iP 1, iP 2, iP 2]),
    (6, .cells true 0 [iP 0, iP 3, iP 4, iP 1]),
    (7, .map [⟨.agg ⟨[iP 0, iP 0]⟩, .bool true, 0⟩, ⟨.agg ⟨[iP 1, iP 0]⟩, .bool true, 1⟩, ⟨.agg ⟨[iP 2, iP 0]⟩, .bool true, 2⟩, ⟨.agg ⟨[iP 3, iP 0]⟩, .bool true, 3⟩] 4),
    (8, .cells true 3 [iP 1, iP 0, iP 2, iP 0]),
    (9, .cells true 3 [iP 0, iP 0, iP 1, iP 0, iP 2, iP 0, iP 3, iP 0])],
   [],
   .bool false⟩
theorem fb250_h : fb250.holds EE := ent0 _ (by kernel_rfl) (by kernel_rfl)
-- (decani/founder.chest).isBetter, 1176 steps
noncomputable def fb254 : Ent :=
  ⟨47, [.agg ⟨[iP 4, iP 28, .slice (some ⟨3, 0, none⟩) 3 3, .slice (some ⟨4, 0, none⟩) 2 2, .bool false, .slice (some ⟨5, 0, none⟩) 1 1, .bool true, .slice none 0 0, .slice (some ⟨6, 0, none⟩) 1 1, .map (some 7), iP 2]⟩, .slice (some ⟨8, 0, none⟩) 2 18446744073709551616, .slice (some ⟨9, 0, none⟩) 4 18446744073709551616], 10,
   gC ++ [(3, .cells true 0 [iP 1, iP 2, iP 2, iP 1, iP 1, iP 1, iP 2, iP 2, iP 1]),
    (4, .cells true 0 [iP 1, iP 2, iP 1, iP 1, iP 1, iP 2]),
    (5, .cells true 0 [iP 1, iP 2, iP 2]),
    (6, .cells true 0 [iP 0, iP 3, iP 4, iP 1]),
    (7, .map [⟨.agg ⟨[iP 0, iP 0]⟩, .bool true, 0⟩, ⟨.agg ⟨[iP 1, iP 0]⟩, .bool true, 1⟩, ⟨.agg ⟨[iP 2, iP 0]⟩, .bool true, 2⟩, ⟨.agg ⟨[iP 3, iP 0]⟩, .bool true, 3⟩] 4),
    (8, .cells true 3 [iP 1, iP 0, iP 3, iP 0]),
    (9, .cells true 3 [iP 0, iP 0, iP 1, iP 0, iP 2, iP 0, iP 3, iP 0])],
   [],
   .bool false⟩
theorem fb254_h : fb254.holds EE := ent0 _ (by kernel_rfl) (by kernel_rfl)
-- (decani/founder.chest).isBetter, 1176 steps
noncomputable def fb258 : Ent :=
  ⟨47, [.agg ⟨[iP 4, iP 28, .slice (some ⟨3, 0, none⟩) 3 3, .slice (some ⟨4, 0, none⟩) 2 2, .bool false, .slice (some ⟨5, 0, none⟩) 1 1, .bool true, .slice none 0 0, .slice (some ⟨6, 0, none⟩) 1 1, .map (some 7), iP 3]⟩, .slice (some ⟨8, 0, none⟩) 2 18446744073709551616, .slice (some ⟨9, 0, none⟩) 4 18446744073709551616], 10,
   gC ++ [(3, .cells true 0 [iP 1, iP 2, iP 2, iP 1, iP 1, iP 1, iP 2, iP 2, iP 1]),
    (4, .cells true 0 [iP 1, iP 2, iP 1, iP 1, iP 1, iP 2]),
    (5, .cells true 0 [iP 1, iP 2, iP 2]),
    (6, .cells true 0 [iP 0, iP 3, iP 4, iP 1]),
    (7, .map [⟨.agg ⟨[iP 0, iP 0]⟩, .bool true, 0⟩, ⟨.agg ⟨[iP 1, iP 0]⟩, .bool true, 1⟩, ⟨.agg ⟨[iP 2, iP 0]⟩, .bool true, 2⟩, ⟨.agg ⟨[iP 3, iP 0]⟩, .bool true, 3⟩] 4),
    (8, .cells true 3 [iP 2, iP 0, iP 3, iP 0]),
    (9, .cells true 3 [iP 0, iP 0, iP 1, iP 0, iP 2, iP 0, iP 3, iP 0])],
   [],
   .bool false⟩
theorem fb258_h : fb258.holds EE := ent0 _ (by kernel_rfl) (by kernel_rfl)
-- (decani/founder.chest).isBetter, 1173 steps
noncomputable def fb262 : Ent :=
  ⟨47, [.agg ⟨[iP 4, iP 28, .slice (some ⟨3, 0, none⟩) 3 3, .slice (some ⟨4, 0, none⟩) 2 2, .bool false, .slice (some ⟨5, 0, none⟩) 1 1, .bool true, .slice (some ⟨6, 0, none⟩) 1 1, .slice (some ⟨7, 0, none⟩) 3 3, .map (some 8), iP 0]⟩, .slice none 0 0, .slice (some ⟨9, 0, none⟩) 4 18446744073709551616], 10,
   gC ++ [(3, .cells true 0 [iP 1, iP 2, iP 2, iP 1, iP 1, iP 1, iP 2, iP 2, iP 1]),
    (4, .cells true 0 [iP 1, iP 2, iP 1, iP 1, iP 1, iP 2]),
    (5, .cells true 0 [iP 1, iP 2, iP 2]),
    (6, .cells true 0 [iP 0, iP 3, iP 2]),
    (7, .cells true 0 [iP 0, iN 0, iP 2, iP 10, iP 0, iP 1, iP 2, iP 6, iP 1, iP 1, iP 1, iP 4]),
    (8, .map [⟨.agg ⟨[iP 0, iP 0]⟩, .bool true, 0⟩, ⟨.agg ⟨[iP 1, iP 0]⟩, .bool false, 1⟩, ⟨.agg ⟨[iP 2, iP 0]⟩, .bool false, 2⟩, ⟨.agg ⟨[iP 3, iP 0]⟩, .bool false, 3⟩, ⟨.agg ⟨[iP 0, iP 1]⟩, .bool true, 4⟩, ⟨.agg ⟨[iP 1, iP 1]⟩, .bool true, 5⟩, ⟨.agg ⟨[iP 2, iP 1]⟩, .bool false, 6⟩, ⟨.agg ⟨[iP 3, iP 1]⟩, .bool true, 7⟩, ⟨.agg ⟨[iP 0, iP 2]⟩, .bool true, 8⟩, ⟨.agg ⟨[iP 1, iP 2]⟩, .bool true, 9⟩, ⟨.agg ⟨[iP 2, iP 2]⟩, .bool false, 10⟩, ⟨.agg ⟨[iP 3, iP 2]⟩, .bool true, 11⟩] 12),
    (9, .cells true 3 [iP 0, iP 0, iP 0, iP 1, iP 1, iP 1, iP 3, iP 2])],
   [],
   .bool false⟩
theorem fb262_h : fb262.holds EE := ent0 _ (by kernel_rfl) (by kernel_rfl)
-- (decani/founder.chest).isBetter, 1146 steps
noncomputable def fb266 : Ent :=
  ⟨47, [.agg ⟨[iP 4, iP 28, .slice (some ⟨3, 0, none⟩) 3 3, .slice (some ⟨4, 0, none⟩) 2 2, .bool false, .slice (some ⟨5, 0, none⟩) 1 1, .bool true, .slice none 0 0, .slice (some ⟨6, 0, none⟩) 1 1, .map (some 7), iN 0]⟩, .slice (some ⟨8, 0, none⟩) 1 18446744073709551616, .slice (some ⟨9, 0, none⟩) 4 18446744073709551616], 10,
   gC ++ [(3, .cells true 0 [iP 1, iP 2, iP 2, iP 1, iP 1, iP 1, iP 2, iP 2, iP 1]),
    (4, .cells true 0 [iP 1, iP 2, iP 1, iP 1, iP 1, iP 2]),
    (5, .cells true 0 [iP 1, iP 2, iP 2]),
    (6, .cells true 0 [iP 0, iP 3, iP 4, iP 1]),
    (7, .map [⟨.agg ⟨[iP 0, iP 0]⟩, .bool true, 0⟩, ⟨.agg ⟨[iP 1, iP 0]⟩, .bool true, 1⟩, ⟨.agg ⟨[iP 2, iP 0]⟩, .bool true, 2⟩, ⟨.agg ⟨[iP 3, iP 0]⟩, .bool true, 3⟩] 4),
    (8, .cells true 3 [iP 2, iP 0]),
    (9, .cells true 3 [iP 0, iP 0, iP 1, iP 0, iP 2, iP 0, iP 3, iP 0])],
   [],
   .bool false⟩
theorem fb266_h : fb266.holds EE := ent0 _ (by kernel_rfl) (by kernel_rfl)
-- (decani/founder.chest).isBetter, 1146 steps
noncomputable def fb270 : Ent :=
  ⟨47, [.agg ⟨[iP 4, iP 28, .slice (some ⟨3, 0, none⟩) 3 3, .slice (some ⟨4, 0, none⟩) 2 2, .bool false, .slice (some ⟨5, 0, none⟩) 1 1, .bool true, .slice none 0 0, .slice (some ⟨6, 0, none⟩) 1 1, .map (some 7), iP 0]⟩, .slice (some ⟨8, 0, none⟩) 1 18446744073709551616, .slice (some ⟨9, 0, none⟩) 4 18446744073709551616], 10,
   gC ++ [(3, .cells true 0 [iP 1, iP 2, iP 2, iP 1, iP 1, iP 1, iP 2, iP 2, iP 1]),
    (4, .cells true 0 [iP 1, iP 2, iP 1, iP 1, iP 1, iP 2]),
    (5, .cells true 0 [iP 1, iP 2, iP 2]),
    (6, .cells true 0 [iP 0, iP 3, iP 4, iP 1]),
    (7, .map [⟨.agg ⟨[iP 0, iP 0]⟩, .bool true, 0⟩, ⟨.agg ⟨[iP 1, iP 0]⟩, .bool true, 1⟩, ⟨.agg ⟨[iP 2, iP 0]⟩, .bool true, 2⟩, ⟨.agg ⟨[iP 3, iP 0]⟩, .bool true, 3⟩] 4),
    (8, .cells true 3 [iP 3, iP 0]),
    (9, .cells true 3 [iP 0, iP 0, iP 1, iP 0, iP 2, iP 0, iP 3, iP 0])],
   [],
   .bool false⟩
theorem fb270_h : fb270.holds EE := ent0 _ (by kernel_rfl) (by kernel_rfl)
-- (decani/founder.chest).isBetter, 1146 steps
noncomputable def fb274 : Ent :=
  ⟨47, [.agg ⟨[iP 4, iP 28, .slice (some ⟨3, 0, none⟩) 3 3, .slice (some ⟨4, 0, none⟩) 2 2, .bool false, .slice (some ⟨5, 0, none⟩) 1 1, .bool true, .slice none 0 0, .slice (some ⟨6, 0, none⟩) 1 1, .map (some 7), iP 2]⟩, .slice (some ⟨8, 0, none⟩) 1 18446744073709551616, .slice (some ⟨9, 0, none⟩) 4 18446744073709551616], 10,
   gC ++ [(3, .cells true 0 [iP 1, iP 2, iP 2, iP 1, iP 1, iP 1, iP 2, iP 2, iP 1]),
    (4, .cells true 0 [iP 1, iP 2, iP 1, iP 1, iP 1, iP 2]),
    (5, .cells true 0 [iP 1, iP 2, iP 2]),
    (6, .cells true 0 [iP 0, iP 3, iP 4, iP 1]),
    (7, .map [⟨.agg ⟨[iP 0, iP 0]⟩, .bool true, 0⟩, ⟨.agg ⟨[iP 1, iP 0]⟩, .bool true, 1⟩, ⟨.agg ⟨[iP 2, iP 0]⟩, .bool true, 2⟩, ⟨.agg ⟨[iP 3, iP 0]⟩, .bool true, 3⟩] 4),
    (8, .cells true 3 [iP 1, iP 0]),
    (9, .cells true 3 [iP 0, iP 0, iP 1, iP 0, iP 2, iP 0, iP 3, iP 0])],
   [],
   .bool false⟩
theorem fb274_h : fb274.holds EE := ent0 _ (by kernel_rfl) (by kernel_rfl)
-- (decani/founder.chest).isBetter, 1146 steps
noncomputable def fb278 : Ent :=
  ⟨47, [.agg ⟨[iP 4, iP 28, .slice (some ⟨3, 0, none⟩) 3 3, .slice (some ⟨4, 0, none⟩) 2 2, .bool false, .slice (some ⟨5, 0, none⟩) 1 1, .bool true, .slice none 0 0, .slice (some ⟨6, 0, none⟩) 1 1, .map (some 7), iP 3]⟩, .slice (some ⟨8, 0, none⟩) 1 18446744073709551616, .slice (some ⟨9, 0, none⟩) 4 18446744073709551616], 10,
   gC ++ [(3, .cells true 0 [iP 1, iP 2, iP 2, iP 1, iP 1, iP 1, iP 2, iP 2, iP 1]),
    (4, .cells true 0 [iP 1, iP 2, iP 1, iP 1, iP 1, iP 2]),
    (5, .cells true 0 [iP 1, iP 2, iP 2]),
    (6, .cells true 0 [iP 0, iP 3, iP 4, iP 1]),
    (7, .map [⟨.agg ⟨[iP 0, iP 0]⟩, .bool true, 0⟩, ⟨.agg ⟨[iP 1, iP 0]⟩, .bool true, 1⟩, ⟨.agg ⟨[iP 2, iP 0]⟩, .bool true, 2⟩, ⟨.agg ⟨[iP 3, iP 0]⟩, .bool true, 3⟩] 4),
    (8, .cells true 3 [iP 2, iP 0]),
    (9, .cells true 3 [iP 0, iP 0, iP 1, iP 0, iP 2, iP 0, iP 3, iP 0])],
   [],
   .bool false⟩
theorem fb278_h : fb278.holds EE := ent0 _ (by kernel_rfl) (by kernel_rfl)
-- (decani/founder.chest).isBetter, 1144 steps
noncomputable def fb282 : Ent :=
  ⟨47, [.agg ⟨[iP 4, iP 28, .slice (some ⟨3, 0, none⟩) 3 3, .slice (some ⟨4, 0, none⟩) 2 2, .bool false, .slice (some ⟨5, 0, none⟩) 1 1, .bool true, .slice none 0 0, .slice (some ⟨6, 0, none⟩) 3 3, .map (some 7), iP 0]⟩, .slice (some ⟨8, 0, none⟩) 3 18446744073709551616, .slice none 0 0], 9,
   gC ++ [(3, .cells true 0 [iP 1, iP 2, iP 2, iP 1, iP 1, iP 1, iP 2, iP 2, iP 1]),
    (4, .cells true 0 [iP 1, iP 2, iP 1, iP 1, iP 1, iP 2]),
    (5, .cells true 0 [iP 1, iP 2, iP 2]),
    (6, .cells true 0 [iP 0, iN 0, iP 2, iP 10, iP 0, iP 1, iP 2, iP 6, iP 1, iP 1, iP 1, iP 4]),
    (7, .map [⟨.agg ⟨[iP 0, iP 0]⟩, .bool true, 0⟩, ⟨.agg ⟨[iP 1, iP 0]⟩, .bool false, 1⟩, ⟨.agg ⟨[iP 2, iP 0]⟩, .bool false, 2⟩, ⟨.agg ⟨[iP 3, iP 0]⟩, .bool false, 3⟩, ⟨.agg ⟨[iP 0, iP 1]⟩, .bool true, 4⟩, ⟨.agg ⟨[iP 1, iP 1]⟩, .bool false, 5⟩, ⟨.agg ⟨[iP 2, iP 1]⟩, .bool false, 6⟩, ⟨.agg ⟨[iP 3, iP 1]⟩, .bool true, 7⟩, ⟨.agg ⟨[iP 0, iP 2]⟩, .bool true, 8⟩, ⟨.agg ⟨[iP 1, iP 2]⟩, .bool false, 9⟩, ⟨.agg ⟨[iP 2, iP 2]⟩, .bool false, 10⟩, ⟨.agg ⟨[iP 3, iP 2]⟩, .bool true, 11⟩] 12),
    (8, .cells true 3 [iP 0, iP 0, iP 0, iP 1, iP 3, iP 1])],
   [],
   .bool true⟩
theorem fb282_h : fb282.holds EE := ent0 _ (by kernel_rfl) (by kernel_rfl)
-- (decani/founder.chest).isBetter, 1143 steps
noncomputable def fb286 : Ent :=
  ⟨47, [.agg ⟨[iP 4, iP 28, .slice (some ⟨3, 0, none⟩) 3 3, .slice (some ⟨4, 0, none⟩) 2 2, .bool false, .slice (some ⟨5, 0, none⟩) 1 1, .bool true, .slice none 0 0, .slice (some ⟨6, 0, none⟩) 3 3, .map (some 7), iP 0]⟩, .slice none 0 0, .slice (some ⟨8, 0, none⟩) 3 18446744073709551616], 9,
   gC ++ [(3, .cells true 0 [iP 1, iP 2, iP 2, iP 1, iP 1, iP 1, iP 2, iP 2, iP 1]),
    (4, .cells true 0 [iP 1, iP 2, iP 1, iP 1, iP 1, iP 2]),
    (5, .cells true 0 [iP 1, iP 2, iP 2]),
    (6, .cells true 0 [iP 0, iN 0, iP 2, iP 10, iP 0, iP 1, iP 2, iP 6, iP 1, iP 1, iP 1, iP 4]),
    (7, .map [⟨.agg ⟨[iP 0, iP 0]⟩, .bool true, 0⟩, ⟨.agg ⟨[iP 1, iP 0]⟩, .bool false, 1⟩, ⟨.agg ⟨[iP 2, iP 0]⟩, .bool false, 2⟩, ⟨.agg ⟨[iP 3, iP 0]⟩, .bool false, 3⟩, ⟨.agg ⟨[iP 0, iP 1]⟩, .bool true, 4⟩, ⟨.agg ⟨[iP 1, iP 1]⟩, .bool false, 5⟩, ⟨.agg ⟨[iP 2, iP 1]⟩, .bool false, 6⟩, ⟨.agg ⟨[iP 3, iP 1]⟩, .bool true, 7⟩, ⟨.agg ⟨[iP 0, iP 2]⟩, .bool true, 8⟩, ⟨.agg ⟨[iP 1, iP 2]⟩, .bool false, 9⟩, ⟨.agg ⟨[iP 2, iP 2]⟩, .bool false, 10⟩, ⟨.agg ⟨[iP 3, iP 2]⟩, .bool true, 11⟩] 12),
    (8, .cells true 3 [iP 0, iP 0, iP 0, iP 1, iP 3, iP 1])],
   [],
   .bool false⟩
theorem fb286_h : fb286.holds EE := ent0 _ (by kernel_rfl) (by kernel_rfl)
-- (decani/founder.chest).isBetter, 1114 steps
noncomputable def fb290 : Ent :=
  ⟨47, [.agg ⟨[iP 4, iP 28, .slice (some ⟨3, 0, none⟩) 3 3, .slice (some ⟨4, 0, none⟩) 2 2, .bool false, .slice (some ⟨5, 0, none⟩) 1 1, .bool true, .slice none 0 0, .slice (some ⟨6, 0, none⟩) 3 3, .map (some 7), iP 2]⟩, .slice (some ⟨8, 0, none⟩) 2 18446744073709551616, .slice none 0 0], 9,
   gC ++ [(3, .cells true 0 [iP 1, iP 2, iP 2, iP 1, iP 1, iP 1, iP 2, iP 2, iP 1]),
    (4, .cells true 0 [iP 1, iP 2, iP 1, iP 1, iP 1, iP 2]),
    (5, .cells true 0 [iP 1, iP 2, iP 2]),
    (6, .cells true 0 [iP 0, iN 0, iP 2, iP 10, iP 0, iP 1, iP 2, iP 6, iP 1, iP 1, iP 1, iP 4]),
    (7, .map [⟨.agg ⟨[iP 0, iP 0]⟩, .bool true, 0⟩, ⟨.agg ⟨[iP 1, iP 0]⟩, .bool false, 1⟩, ⟨.agg ⟨[iP 2, iP 0]⟩, .bool false, 2⟩, ⟨.agg ⟨[iP 3, iP 0]⟩, .bool false, 3⟩, ⟨.agg ⟨[iP 0, iP 1]⟩, .bool true, 4⟩, ⟨.agg ⟨[iP 1, iP 1]⟩, .bool false, 5⟩, ⟨.agg ⟨[iP 2, iP 1]⟩, .bool false, 6⟩, ⟨.agg ⟨[iP 3, iP 1]⟩, .bool true, 7⟩, ⟨.agg ⟨[iP 0, iP 2]⟩, .bool true, 8⟩, ⟨.agg ⟨[iP 1, iP 2]⟩, .bool false, 9⟩, ⟨.agg ⟨[iP 2, iP 2]⟩, .bool false, 10⟩, ⟨.agg ⟨[iP 3, iP 2]⟩, .bool true, 11⟩] 12),
    (8, .cells true 3 [iP 0, iP 0, iP 3, iP 1])],
   [],
   .bool true⟩
theorem fb290_h : fb290.holds EE := ent0 _ (by kernel_rfl) (by kernel_rfl)
-- (decani/founder.chest).isBetter, 852 steps
noncomputable def fb294 : Ent :=
  ⟨47, [.agg ⟨[iP 4, iP 28, .slice (some ⟨3, 0, none⟩) 3 3, .slice (some ⟨4, 0, none⟩) 2 2, .bool false, .slice (some ⟨5, 0, none⟩) 1 1, .bool true, .slice none 0 0, .slice (some ⟨6, 0, none⟩) 1 1, .map (some 7), iN 0]⟩, .slice (some ⟨8, 0, none⟩) 4 18446744073709551616, .slice none 0 0], 9,
   gC ++ [(3, .cells true 0 [iP 1, iP 2, iP 2, iP 1, iP 1, iP 1, iP 2, iP 2, iP 1]),
    (4, .cells true 0 [iP 1, iP 2, iP 1, iP 1, iP 1, iP 2]),
    (5, .cells true 0 [iP 1, iP 2, iP 2]),
    (6, .cells true 0 [iP 0, iP 3, iP 4, iP 1]),
    (7, .map [⟨.agg ⟨[iP 0, iP 0]⟩, .bool true, 0⟩, ⟨.agg ⟨[iP 1, iP 0]⟩, .bool true, 1⟩, ⟨.agg ⟨[iP 2, iP 0]⟩, .bool true, 2⟩, ⟨.agg ⟨[iP 3, iP 0]⟩, .bool true, 3⟩] 4),
    (8, .cells true 3 [iP 0, iP 0, iP 1, iP 0, iP 2, iP 0, iP 3, iP 0])],
   [],
   .bool true⟩
theorem fb294_h : fb294.holds EE := ent0 _ (by kernel_rfl) (by kernel_rfl)
-- (decani/founder.chest).isBetter, 852 steps
noncomputable def fb296 : Ent :=
  ⟨47, [.agg ⟨[iP 4, iP 28, .slice (some ⟨3, 0, none⟩) 3 3, .slice (some ⟨4, 0, none⟩) 2 2, .bool false, .slice (some ⟨5, 0, none⟩) 1 1, .bool true, .slice none 0 0, .slice (some ⟨6, 0, none⟩) 1 1, .map (some 7), iP 1]⟩, .slice (some ⟨8, 0, none⟩) 4 18446744073709551616, .slice none 0 0], 9,
   gC ++ [(3, .cells true 0 [iP 1, iP 2, iP 2, iP 1, iP 1, iP 1, iP 2, iP 2, iP 1]),
    (4, .cells true 0 [iP 1, iP 2, iP 1, iP 1, iP 1, iP 2]),
    (5, .cells true 0 [iP 1, iP 2, iP 2]),
    (6, .cells true 0 [iP 0, iP 3, iP 4, iP 1]),
    (7, .map [⟨.agg ⟨[iP 0, iP 0]⟩, .bool true, 0⟩, ⟨.agg ⟨[iP 1, iP 0]⟩, .bool true, 1⟩, ⟨.agg ⟨[iP 2, iP 0]⟩, .bool true, 2⟩, ⟨.agg ⟨[iP 3, iP 0]⟩, .bool true, 3⟩] 4),
    (8, .cells true 3 [iP 0, iP 0, iP 1, iP 0, iP 2, iP 0, iP 3, iP 0])],
   [],
   .bool true⟩
theorem fb296_h : fb296.holds EE := ent0 _ (by kernel_rfl) (by kernel_rfl)
-- (decani/founder.chest).isBetter, 851 steps
noncomputable def fb300 : Ent :=
  ⟨47, [.agg ⟨[iP 4, iP 28, .slice (some ⟨3, 0, none⟩) 3 3, .slice (some ⟨4, 0, none⟩) 2 2, .bool false, .slice (some ⟨5, 0, none⟩) 1 1, .bool true, .slice none 0 0, .slice (some ⟨6, 0, none⟩) 1 1, .map (some 7), iP 0]⟩, .slice none 0 0, .slice (some ⟨8, 0, none⟩) 4 18446744073709551616], 9,
   gC ++ [(3, .cells true 0 [iP 1, iP 2, iP 2, iP 1, iP 1, iP 1, iP 2, iP 2, iP 1]),
    (4, .cells true 0 [iP 1, iP 2, iP 1, iP 1, iP 1, iP 2]),
    (5, .cells true 0 [iP 1, iP 2, iP 2]),
    (6, .cells true 0 [iP 0, iP 3, iP 4, iP 1]),
    (7, .map [⟨.agg ⟨[iP 0, iP 0]⟩, .bool true, 0⟩, ⟨.agg ⟨[iP 1, iP 0]⟩, .bool true, 1⟩, ⟨.agg ⟨[iP 2, iP 0]⟩, .bool true, 2⟩, ⟨.agg ⟨[iP 3, iP 0]⟩, .bool true, 3⟩] 4),
    (8, .cells true 3 [iP 0, iP 0, iP 1, iP 0, iP 2, iP 0, iP 3, iP 0])],
   [],
   .bool false⟩
theorem fb300_h : fb300.holds EE := ent0 _ (by kernel_rfl) (by kernel_rfl)
end Go.Proofs.YtlnbhokokhecdaaGreatDoor
