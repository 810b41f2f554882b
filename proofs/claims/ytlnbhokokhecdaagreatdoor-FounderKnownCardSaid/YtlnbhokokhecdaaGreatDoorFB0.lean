/- Known calls, part 0: what single calls hand back, at small heaps, by the kernel's own run of the evaluator. No conditions. -/
import Derived.Test.YtlnbhokokhecdaaGreatDoorFZ
set_option linter.all false
namespace Go.Proofs.YtlnbhokokhecdaaGreatDoor
open Go.Ai
set_option maxRecDepth 1000000
-- (decani/founder.chest).isBetter, 2277 steps
noncomputable def fb0 : Ent :=
  ⟨47, [.agg ⟨[iP 4, iP 28, .slice (some ⟨3, 0, none⟩) 3 3, .slice (some ⟨4, 0, none⟩) 2 2, .bool false, .slice (some ⟨5, 0, none⟩) 1 1, .bool true, .slice (some ⟨6, 0, none⟩) 1 1, .slice (some ⟨7, 0, none⟩) 3 3, .map (some 8), iP 0]⟩, .slice (some ⟨9, 0, none⟩) 4 18446744073709551616, .slice (some ⟨10, 0, none⟩) 4 18446744073709551616], 11,
   gC ++ [(3, .cells true 0 [iP 1, iP 2, iP 2, iP 1, iP 1, iP 1, iP 2, iP 2, iP 1]),
    (4, .cells true 0 [iP 1, iP 2, iP 1, iP 1, iP 1, iP 2]),
    (5, .cells true 0 [iP 1, iP 2, iP 2]),
    (6, .cells true 0 [iP 0, iP 3, iP 2]),
    (7, .cells true 0 [iP 0, iN 0, iP 2, iP 10, iP 0, iP 1, iP 2, iP 6, iP 1, iP 1, iP 1, iP 4]),
    (8, .map [⟨.agg ⟨[iP 0, iP 0]⟩, .bool true, 0⟩, ⟨.agg ⟨[iP 1, iP 0]⟩, .bool false, 1⟩, ⟨.agg ⟨[iP 2, iP 0]⟩, .bool false, 2⟩, ⟨.agg ⟨[iP 3, iP 0]⟩, .bool false, 3⟩, ⟨.agg ⟨[iP 0, iP 1]⟩, .bool true, 4⟩, ⟨.agg ⟨[iP 1, iP 1]⟩, .bool true, 5⟩, ⟨.agg ⟨[iP 2, iP 1]⟩, .bool false, 6⟩, ⟨.agg ⟨[iP 3, iP 1]⟩, .bool true, 7⟩, ⟨.agg ⟨[iP 0, iP 2]⟩, .bool true, 8⟩, ⟨.agg ⟨[iP 1, iP 2]⟩, .bool true, 9⟩, ⟨.agg ⟨[iP 2, iP 2]⟩, .bool false, 10⟩, ⟨.agg ⟨[iP 3, iP 2]⟩, .bool true, 11⟩] 12),
    (9, .cells true 3 [iP 0, iP 0, iP 0, iP 1, iP 1, iP 2, iP 3, iP 1]),
    (10, .cells true 3 [iP 0, iP 0, iP 0, iP 1, iP 1, iP 1, iP 3, iP 2])],
   [],
   .bool false⟩
theorem fb0_h : fb0.holds EE := ent0 _ (by kernel_rfl) (by kernel_rfl)
-- (decani/founder.chest).isBetter, 2190 steps
noncomputable def fb7 : Ent :=
  ⟨47, [.agg ⟨[iP 4, iP 28, .slice (some ⟨3, 0, none⟩) 3 3, .slice (some ⟨4, 0, none⟩) 2 2, .bool false, .slice (some ⟨5, 0, none⟩) 1 1, .bool true, .slice (some ⟨6, 0, none⟩) 1 1, .slice (some ⟨7, 0, none⟩) 3 3, .map (some 8), iP 1]⟩, .slice (some ⟨9, 0, none⟩) 3 18446744073709551616, .slice (some ⟨10, 0, none⟩) 4 18446744073709551616], 11,
   gC ++ [(3, .cells true 0 [iP 1, iP 2, iP 2, iP 1, iP 1, iP 1, iP 2, iP 2, iP 1]),
    (4, .cells true 0 [iP 1, iP 2, iP 1, iP 1, iP 1, iP 2]),
    (5, .cells true 0 [iP 1, iP 2, iP 2]),
    (6, .cells true 0 [iP 0, iP 3, iP 2]),
    (7, .cells true 0 [iP 0, iN 0, iP 2, iP 10, iP 0, iP 1, iP 2, iP 6, iP 1, iP 1, iP 1, iP 4]),
    (8, .map [⟨.agg ⟨[iP 0, iP 0]⟩, .bool true, 0⟩, ⟨.agg ⟨[iP 1, iP 0]⟩, .bool false, 1⟩, ⟨.agg ⟨[iP 2, iP 0]⟩, .bool false, 2⟩, ⟨.agg ⟨[iP 3, iP 0]⟩, .bool false, 3⟩, ⟨.agg ⟨[iP 0, iP 1]⟩, .bool true, 4⟩, ⟨.agg ⟨[iP 1, iP 1]⟩, .bool true, 5⟩, ⟨.agg ⟨[iP 2, iP 1]⟩, .bool false, 6⟩, ⟨.agg ⟨[iP 3, iP 1]⟩, .bool true, 7⟩, ⟨.agg ⟨[iP 0, iP 2]⟩, .bool true, 8⟩, ⟨.agg ⟨[iP 1, iP 2]⟩, .bool true, 9⟩, ⟨.agg ⟨[iP 2, iP 2]⟩, .bool false, 10⟩, ⟨.agg ⟨[iP 3, iP 2]⟩, .bool true, 11⟩] 12),
    (9, .cells true 3 [iP 0, iP 0, iP 1, iP 1, iP 3, iP 2]),
    (10, .cells true 3 [iP 0, iP 0, iP 1, iP 1, iP 1, iP 2, iP 3, iP 1])],
   [],
   .bool false⟩
theorem fb7_h : fb7.holds EE := ent0 _ (by kernel_rfl) (by kernel_rfl)
-- (decani/founder.chest).isBetter, 2188 steps
noncomputable def fb9 : Ent :=
  ⟨47, [.agg ⟨[iP 4, iP 28, .slice (some ⟨3, 0, none⟩) 3 3, .slice (some ⟨4, 0, none⟩) 2 2, .bool false, .slice (some ⟨5, 0, none⟩) 1 1, .bool true, .slice (some ⟨6, 0, none⟩) 1 1, .slice (some ⟨7, 0, none⟩) 3 3, .map (some 8), iN 0]⟩, .slice (some ⟨9, 0, none⟩) 3 18446744073709551616, .slice (some ⟨10, 0, none⟩) 3 18446744073709551616], 11,
   gC ++ [(3, .cells true 0 [iP 1, iP 2, iP 2, iP 1, iP 1, iP 1, iP 2, iP 2, iP 1]),
    (4, .cells true 0 [iP 1, iP 2, iP 1, iP 1, iP 1, iP 2]),
    (5, .cells true 0 [iP 1, iP 2, iP 2]),
    (6, .cells true 0 [iP 0, iP 3, iP 2]),
    (7, .cells true 0 [iP 0, iN 0, iP 2, iP 10, iP 0, iP 1, iP 2, iP 6, iP 1, iP 1, iP 1, iP 4]),
    (8, .map [⟨.agg ⟨[iP 0, iP 0]⟩, .bool true, 0⟩, ⟨.agg ⟨[iP 1, iP 0]⟩, .bool false, 1⟩, ⟨.agg ⟨[iP 2, iP 0]⟩, .bool false, 2⟩, ⟨.agg ⟨[iP 3, iP 0]⟩, .bool false, 3⟩, ⟨.agg ⟨[iP 0, iP 1]⟩, .bool true, 4⟩, ⟨.agg ⟨[iP 1, iP 1]⟩, .bool true, 5⟩, ⟨.agg ⟨[iP 2, iP 1]⟩, .bool false, 6⟩, ⟨.agg ⟨[iP 3, iP 1]⟩, .bool true, 7⟩, ⟨.agg ⟨[iP 0, iP 2]⟩, .bool true, 8⟩, ⟨.agg ⟨[iP 1, iP 2]⟩, .bool true, 9⟩, ⟨.agg ⟨[iP 2, iP 2]⟩, .bool false, 10⟩, ⟨.agg ⟨[iP 3, iP 2]⟩, .bool true, 11⟩] 12),
    (9, .cells true 3 [iP 0, iP 0, iP 1, iP 1, iP 3, iP 2]),
    (10, .cells true 3 [iP 0, iP 0, iP 1, iP 1, iP 3, iP 1])],
   [],
   .bool false⟩
theorem fb9_h : fb9.holds EE := ent0 _ (by kernel_rfl) (by kernel_rfl)
-- (decani/founder.chest).isBetter, 1949 steps
noncomputable def fb13 : Ent :=
  ⟨47, [.agg ⟨[iP 4, iP 28, .slice (some ⟨3, 0, none⟩) 3 3, .slice (some ⟨4, 0, none⟩) 2 2, .bool false, .slice (some ⟨5, 0, none⟩) 1 1, .bool true, .slice (some ⟨6, 0, none⟩) 1 1, .slice (some ⟨7, 0, none⟩) 3 3, .map (some 8), iP 0]⟩, .slice (some ⟨9, 0, none⟩) 4 18446744073709551616, .slice (some ⟨10, 0, none⟩) 4 18446744073709551616], 11,
   gC ++ [(3, .cells true 0 [iP 1, iP 2, iP 2, iP 1, iP 1, iP 1, iP 2, iP 2, iP 1]),
    (4, .cells true 0 [iP 1, iP 2, iP 1, iP 1, iP 1, iP 2]),
    (5, .cells true 0 [iP 1, iP 2, iP 2]),
    (6, .cells true 0 [iP 0, iP 3, iP 2]),
    (7, .cells true 0 [iP 0, iN 0, iP 2, iP 10, iP 0, iP 1, iP 2, iP 6, iP 1, iP 1, iP 1, iP 4]),
    (8, .map [⟨.agg ⟨[iP 0, iP 0]⟩, .bool true, 0⟩, ⟨.agg ⟨[iP 1, iP 0]⟩, .bool false, 1⟩, ⟨.agg ⟨[iP 2, iP 0]⟩, .bool false, 2⟩, ⟨.agg ⟨[iP 3, iP 0]⟩, .bool false, 3⟩, ⟨.agg ⟨[iP 0, iP 1]⟩, .bool true, 4⟩, ⟨.agg ⟨[iP 1, iP 1]⟩, .bool true, 5⟩, ⟨.agg ⟨[iP 2, iP 1]⟩, .bool false, 6⟩, ⟨.agg ⟨[iP 3, iP 1]⟩, .bool true, 7⟩, ⟨.agg ⟨[iP 0, iP 2]⟩, .bool true, 8⟩, ⟨.agg ⟨[iP 1, iP 2]⟩, .bool true, 9⟩, ⟨.agg ⟨[iP 2, iP 2]⟩, .bool false, 10⟩, ⟨.agg ⟨[iP 3, iP 2]⟩, .bool true, 11⟩] 12),
    (9, .cells true 3 [iP 0, iP 0, iP 0, iP 2, iP 1, iP 1, iP 3, iP 1]),
    (10, .cells true 3 [iP 0, iP 0, iP 0, iP 1, iP 1, iP 1, iP 3, iP 2])],
   [],
   .bool false⟩
theorem fb13_h : fb13.holds EE := ent0 _ (by kernel_rfl) (by kernel_rfl)
-- (decani/founder.chest).isBetter, 1926 steps
noncomputable def fb18 : Ent :=
  ⟨47, [.agg ⟨[iP 4, iP 28, .slice (some ⟨3, 0, none⟩) 3 3, .slice (some ⟨4, 0, none⟩) 2 2, .bool false, .slice (some ⟨5, 0, none⟩) 1 1, .bool true, .slice none 0 0, .slice (some ⟨6, 0, none⟩) 1 1, .map (some 7), iP 3]⟩, .slice (some ⟨8, 0, none⟩) 3 18446744073709551616, .slice (some ⟨9, 0, none⟩) 4 18446744073709551616], 10,
   gC ++ [(3, .cells true 0 [iP 1, iP 2, iP 2, iP 1, iP 1, iP 1, iP 2, iP 2, iP 1]),
    (4, .cells true 0 [iP 1, iP 2, iP 1, iP 1, iP 1, iP 2]),
    (5, .cells true 0 [iP 1, iP 2, iP 2]),
    (6, .cells true 0 [iP 0, iP 3, iP 4, iP 1]),
    (7, .map [⟨.agg ⟨[iP 0, iP 0]⟩, .bool true, 0⟩, ⟨.agg ⟨[iP 1, iP 0]⟩, .bool true, 1⟩, ⟨.agg ⟨[iP 2, iP 0]⟩, .bool true, 2⟩, ⟨.agg ⟨[iP 3, iP 0]⟩, .bool true, 3⟩] 4),
    (8, .cells true 3 [iP 0, iP 0, iP 1, iP 0, iP 2, iP 0]),
    (9, .cells true 3 [iP 0, iP 0, iP 1, iP 0, iP 2, iP 0, iP 3, iP 0])],
   [],
   .bool false⟩
theorem fb18_h : fb18.holds EE := ent0 _ (by kernel_rfl) (by kernel_rfl)
-- (decani/founder.chest).isBetter, 1890 steps
noncomputable def fb22 : Ent :=
  ⟨47, [.agg ⟨[iP 4, iP 28, .slice (some ⟨3, 0, none⟩) 3 3, .slice (some ⟨4, 0, none⟩) 2 2, .bool false, .slice (some ⟨5, 0, none⟩) 1 1, .bool true, .slice (some ⟨6, 0, none⟩) 1 1, .slice (some ⟨7, 0, none⟩) 3 3, .map (some 8), iP 0]⟩, .slice (some ⟨9, 0, none⟩) 3 18446744073709551616, .slice (some ⟨10, 0, none⟩) 4 18446744073709551616], 11,
   gC ++ [(3, .cells true 0 [iP 1, iP 2, iP 2, iP 1, iP 1, iP 1, iP 2, iP 2, iP 1]),
    (4, .cells true 0 [iP 1, iP 2, iP 1, iP 1, iP 1, iP 2]),
    (5, .cells true 0 [iP 1, iP 2, iP 2]),
    (6, .cells true 0 [iP 0, iP 3, iP 2]),
    (7, .cells true 0 [iP 0, iN 0, iP 2, iP 10, iP 0, iP 1, iP 2, iP 6, iP 1, iP 1, iP 1, iP 4]),
    (8, .map [⟨.agg ⟨[iP 0, iP 0]⟩, .bool true, 0⟩, ⟨.agg ⟨[iP 1, iP 0]⟩, .bool false, 1⟩, ⟨.agg ⟨[iP 2, iP 0]⟩, .bool false, 2⟩, ⟨.agg ⟨[iP 3, iP 0]⟩, .bool false, 3⟩, ⟨.agg ⟨[iP 0, iP 1]⟩, .bool true, 4⟩, ⟨.agg ⟨[iP 1, iP 1]⟩, .bool true, 5⟩, ⟨.agg ⟨[iP 2, iP 1]⟩, .bool false, 6⟩, ⟨.agg ⟨[iP 3, iP 1]⟩, .bool true, 7⟩, ⟨.agg ⟨[iP 0, iP 2]⟩, .bool true, 8⟩, ⟨.agg ⟨[iP 1, iP 2]⟩, .bool true, 9⟩, ⟨.agg ⟨[iP 2, iP 2]⟩, .bool false, 10⟩, ⟨.agg ⟨[iP 3, iP 2]⟩, .bool true, 11⟩] 12),
    (9, .cells true 3 [iP 0, iP 0, iP 0, iP 2, iP 1, iP 1]),
    (10, .cells true 3 [iP 0, iP 0, iP 0, iP 1, iP 1, iP 1, iP 3, iP 2])],
   [],
   .bool false⟩
theorem fb22_h : fb22.holds EE := ent0 _ (by kernel_rfl) (by kernel_rfl)
-- (decani/founder.chest).isBetter, 1866 steps
noncomputable def fb26 : Ent :=
  ⟨47, [.agg ⟨[iP 4, iP 28, .slice (some ⟨3, 0, none⟩) 3 3, .slice (some ⟨4, 0, none⟩) 2 2, .bool false, .slice (some ⟨5, 0, none⟩) 1 1, .bool true, .slice (some ⟨6, 0, none⟩) 1 1, .slice (some ⟨7, 0, none⟩) 3 3, .map (some 8), iN 0]⟩, .slice (some ⟨9, 0, none⟩) 2 18446744073709551616, .slice (some ⟨10, 0, none⟩) 3 18446744073709551616], 11,
   gC ++ [(3, .cells true 0 [iP 1, iP 2, iP 2, iP 1, iP 1, iP 1, iP 2, iP 2, iP 1]),
    (4, .cells true 0 [iP 1, iP 2, iP 1, iP 1, iP 1, iP 2]),
    (5, .cells true 0 [iP 1, iP 2, iP 2]),
    (6, .cells true 0 [iP 0, iP 3, iP 2]),
    (7, .cells true 0 [iP 0, iN 0, iP 2, iP 10, iP 0, iP 1, iP 2, iP 6, iP 1, iP 1, iP 1, iP 4]),
    (8, .map [⟨.agg ⟨[iP 0, iP 0]⟩, .bool true, 0⟩, ⟨.agg ⟨[iP 1, iP 0]⟩, .bool false, 1⟩, ⟨.agg ⟨[iP 2, iP 0]⟩, .bool false, 2⟩, ⟨.agg ⟨[iP 3, iP 0]⟩, .bool false, 3⟩, ⟨.agg ⟨[iP 0, iP 1]⟩, .bool true, 4⟩, ⟨.agg ⟨[iP 1, iP 1]⟩, .bool true, 5⟩, ⟨.agg ⟨[iP 2, iP 1]⟩, .bool false, 6⟩, ⟨.agg ⟨[iP 3, iP 1]⟩, .bool true, 7⟩, ⟨.agg ⟨[iP 0, iP 2]⟩, .bool true, 8⟩, ⟨.agg ⟨[iP 1, iP 2]⟩, .bool true, 9⟩, ⟨.agg ⟨[iP 2, iP 2]⟩, .bool false, 10⟩, ⟨.agg ⟨[iP 3, iP 2]⟩, .bool true, 11⟩] 12),
    (9, .cells true 3 [iP 0, iP 0, iP 1, iP 1]),
    (10, .cells true 3 [iP 0, iP 0, iP 1, iP 1, iP 3, iP 1])],
   [],
   .bool false⟩
theorem fb26_h : fb26.holds EE := ent0 _ (by kernel_rfl) (by kernel_rfl)
-- (decani/founder.chest).isBetter, 1866 steps
noncomputable def fb28 : Ent :=
  ⟨47, [.agg ⟨[iP 4, iP 28, .slice (some ⟨3, 0, none⟩) 3 3, .slice (some ⟨4, 0, none⟩) 2 2, .bool false, .slice (some ⟨5, 0, none⟩) 1 1, .bool true, .slice none 0 0, .slice (some ⟨6, 0, none⟩) 3 3, .map (some 7), iP 0]⟩, .slice (some ⟨8, 0, none⟩) 2 18446744073709551616, .slice (some ⟨9, 0, none⟩) 3 18446744073709551616], 10,
   gC ++ [(3, .cells true 0 [iP 1, iP 2, iP 2, iP 1, iP 1, iP 1, iP 2, iP 2, iP 1]),
    (4, .cells true 0 [iP 1, iP 2, iP 1, iP 1, iP 1, iP 2]),
    (5, .cells true 0 [iP 1, iP 2, iP 2]),
    (6, .cells true 0 [iP 0, iN 0, iP 2, iP 10, iP 0, iP 1, iP 2, iP 6, iP 1, iP 1, iP 1, iP 4]),
    (7, .map [⟨.agg ⟨[iP 0, iP 0]⟩, .bool true, 0⟩, ⟨.agg ⟨[iP 1, iP 0]⟩, .bool false, 1⟩, ⟨.agg ⟨[iP 2, iP 0]⟩, .bool false, 2⟩, ⟨.agg ⟨[iP 3, iP 0]⟩, .bool false, 3⟩, ⟨.agg ⟨[iP 0, iP 1]⟩, .bool true, 4⟩, ⟨.agg ⟨[iP 1, iP 1]⟩, .bool false, 5⟩, ⟨.agg ⟨[iP 2, iP 1]⟩, .bool false, 6⟩, ⟨.agg ⟨[iP 3, iP 1]⟩, .bool true, 7⟩, ⟨.agg ⟨[iP 0, iP 2]⟩, .bool true, 8⟩, ⟨.agg ⟨[iP 1, iP 2]⟩, .bool false, 9⟩, ⟨.agg ⟨[iP 2, iP 2]⟩, .bool false, 10⟩, ⟨.agg ⟨[iP 3, iP 2]⟩, .bool true, 11⟩] 12),
    (8, .cells true 3 [iP 0, iP 0, iP 0, iP 1]),
    (9, .cells true 3 [iP 0, iP 0, iP 0, iP 1, iP 3, iP 1])],
   [],
   .bool false⟩
theorem fb28_h : fb28.holds EE := ent0 _ (by kernel_rfl) (by kernel_rfl)
-- (decani/founder.chest).isBetter, 1862 steps
noncomputable def fb32 : Ent :=
  ⟨47, [.agg ⟨[iP 4, iP 28, .slice (some ⟨3, 0, none⟩) 3 3, .slice (some ⟨4, 0, none⟩) 2 2, .bool false, .slice (some ⟨5, 0, none⟩) 1 1, .bool true, .slice none 0 0, .slice (some ⟨6, 0, none⟩) 1 1, .map (some 7), iP 1]⟩, .slice (some ⟨8, 0, none⟩) 3 18446744073709551616, .slice (some ⟨9, 0, none⟩) 4 18446744073709551616], 10,
   gC ++ [(3, .cells true 0 [iP 1, iP 2, iP 2, iP 1, iP 1, iP 1, iP 2, iP 2, iP 1]),
    (4, .cells true 0 [iP 1, iP 2, iP 1, iP 1, iP 1, iP 2]),
    (5, .cells true 0 [iP 1, iP 2, iP 2]),
    (6, .cells true 0 [iP 0, iP 3, iP 4, iP 1]),
    (7, .map [⟨.agg ⟨[iP 0, iP 0]⟩, .bool true, 0⟩, ⟨.agg ⟨[iP 1, iP 0]⟩, .bool true, 1⟩, ⟨.agg ⟨[iP 2, iP 0]⟩, .bool true, 2⟩, ⟨.agg ⟨[iP 3, iP 0]⟩, .bool true, 3⟩] 4),
    (8, .cells true 3 [iP 0, iP 0, iP 1, iP 0, iP 3, iP 0]),
    (9, .cells true 3 [iP 0, iP 0, iP 1, iP 0, iP 2, iP 0, iP 3, iP 0])],
   [],
   .bool false⟩
theorem fb32_h : fb32.holds EE := ent0 _ (by kernel_rfl) (by kernel_rfl)
-- (decani/founder.chest).isBetter, 1862 steps
noncomputable def fb36 : Ent :=
  ⟨47, [.agg ⟨[iP 4, iP 28, .slice (some ⟨3, 0, none⟩) 3 3, .slice (some ⟨4, 0, none⟩) 2 2, .bool false, .slice (some ⟨5, 0, none⟩) 1 1, .bool true, .slice (some ⟨6, 0, none⟩) 1 1, .slice (some ⟨7, 0, none⟩) 3 3, .map (some 8), iP 0]⟩, .slice (some ⟨9, 0, none⟩) 3 18446744073709551616, .slice (some ⟨10, 0, none⟩) 4 18446744073709551616], 11,
   gC ++ [(3, .cells true 0 [iP 1, iP 2, iP 2, iP 1, iP 1, iP 1, iP 2, iP 2, iP 1]),
    (4, .cells true 0 [iP 1, iP 2, iP 1, iP 1, iP 1, iP 2]),
    (5, .cells true 0 [iP 1, iP 2, iP 2]),
    (6, .cells true 0 [iP 0, iP 3, iP 2]),
    (7, .cells true 0 [iP 0, iN 0, iP 2, iP 10, iP 0, iP 1, iP 2, iP 6, iP 1, iP 1, iP 1, iP 4]),
    (8, .map [⟨.agg ⟨[iP 0, iP 0]⟩, .bool true, 0⟩, ⟨.agg ⟨[iP 1, iP 0]⟩, .bool false, 1⟩, ⟨.agg ⟨[iP 2, iP 0]⟩, .bool false, 2⟩, ⟨.agg ⟨[iP 3, iP 0]⟩, .bool false, 3⟩, ⟨.agg ⟨[iP 0, iP 1]⟩, .bool true, 4⟩, ⟨.agg ⟨[iP 1, iP 1]⟩, .bool true, 5⟩, ⟨.agg ⟨[iP 2, iP 1]⟩, .bool false, 6⟩, ⟨.agg ⟨[iP 3, iP 1]⟩, .bool true, 7⟩, ⟨.agg ⟨[iP 0, iP 2]⟩, .bool true, 8⟩, ⟨.agg ⟨[iP 1, iP 2]⟩, .bool true, 9⟩, ⟨.agg ⟨[iP 2, iP 2]⟩, .bool false, 10⟩, ⟨.agg ⟨[iP 3, iP 2]⟩, .bool true, 11⟩] 12),
    (9, .cells true 3 [iP 0, iP 0, iP 1, iP 1, iP 3, iP 2]),
    (10, .cells true 3 [iP 0, iP 0, iP 0, iP 1, iP 1, iP 1, iP 3, iP 2])],
   [],
   .bool false⟩
theorem fb36_h : fb36.holds EE := ent0 _ (by kernel_rfl) (by kernel_rfl)
-- (decani/founder.chest).isBetter, 1860 steps
noncomputable def fb40 : Ent :=
  ⟨47, [.agg ⟨[iP 4, iP 28, .slice (some ⟨3, 0, none⟩) 3 3, .slice (some ⟨4, 0, none⟩) 2 2, .bool false, .slice (some ⟨5, 0, none⟩) 1 1, .bool true, .slice (some ⟨6, 0, none⟩) 1 1, .slice (some ⟨7, 0, none⟩) 3 3, .map (some 8), iP 0]⟩, .slice (some ⟨9, 0, none⟩) 2 18446744073709551616, .slice (some ⟨10, 0, none⟩) 4 18446744073709551616], 11,
   gC ++ [(3, .cells true 0 [iP 1, iP 2, iP 2, iP 1, iP 1, iP 1, iP 2, iP 2, iP 1]),
    (4, .cells true 0 [iP 1, iP 2, iP 1, iP 1, iP 1, iP 2]),
    (5, .cells true 0 [iP 1, iP 2, iP 2]),
    (6, .cells true 0 [iP 0, iP 3, iP 2]),
    (7, .cells true 0 [iP 0, iN 0, iP 2, iP 10, iP 0, iP 1, iP 2, iP 6, iP 1, iP 1, iP 1, iP 4]),
    (8, .map [⟨.agg ⟨[iP 0, iP 0]⟩, .bool true, 0⟩, ⟨.agg ⟨[iP 1, iP 0]⟩, .bool false, 1⟩, ⟨.agg ⟨[iP 2, iP 0]⟩, .bool false, 2⟩, ⟨.agg ⟨[iP 3, iP 0]⟩, .bool false, 3⟩, ⟨.agg ⟨[iP 0, iP 1]⟩, .bool true, 4⟩, ⟨.agg ⟨[iP 1, iP 1]⟩, .bool true, 5⟩, ⟨.agg ⟨[iP 2, iP 1]⟩, .bool false, 6⟩, ⟨.agg ⟨[iP 3, iP 1]⟩, .bool true, 7⟩, ⟨.agg ⟨[iP 0, iP 2]⟩, .bool true, 8⟩, ⟨.agg ⟨[iP 1, iP 2]⟩, .bool true, 9⟩, ⟨.agg ⟨[iP 2, iP 2]⟩, .bool false, 10⟩, ⟨.agg ⟨[iP 3, iP 2]⟩, .bool true, 11⟩] 12),
    (9, .cells true 3 [iP 0, iP 0, iP 0, iP 2]),
    (10, .cells true 3 [iP 0, iP 0, iP 0, iP 1, iP 1, iP 1, iP 3, iP 2])],
   [],
   .bool false⟩
theorem fb40_h : fb40.holds EE := ent0 _ (by kernel_rfl) (by kernel_rfl)
-- (decani/founder.chest).isBetter, 1860 steps
noncomputable def fb44 : Ent :=
  ⟨47, [.agg ⟨[iP 4, iP 28, .slice (some ⟨3, 0, none⟩) 3 3, .slice (some ⟨4, 0, none⟩) 2 2, .bool false, .slice (some ⟨5, 0, none⟩) 1 1, .bool true, .slice none 0 0, .slice (some ⟨6, 0, none⟩) 3 3, .map (some 7), iP 0]⟩, .slice (some ⟨8, 0, none⟩) 3 18446744073709551616, .slice (some ⟨9, 0, none⟩) 3 18446744073709551616], 10,
   gC ++ [(3, .cells true 0 [iP 1, iP 2, iP 2, iP 1, iP 1, iP 1, iP 2, iP 2, iP 1]),
    (4, .cells true 0 [iP 1, iP 2, iP 1, iP 1, iP 1, iP 2]),
    (5, .cells true 0 [iP 1, iP 2, iP 2]),
    (6, .cells true 0 [iP 0, iN 0, iP 2, iP 10, iP 0, iP 1, iP 2, iP 6, iP 1, iP 1, iP 1, iP 4]),
    (7, .map [⟨.agg ⟨[iP 0, iP 0]⟩, .bool true, 0⟩, ⟨.agg ⟨[iP 1, iP 0]⟩, .bool false, 1⟩, ⟨.agg ⟨[iP 2, iP 0]⟩, .bool false, 2⟩, ⟨.agg ⟨[iP 3, iP 0]⟩, .bool false, 3⟩, ⟨.agg ⟨[iP 0, iP 1]⟩, .bool true, 4⟩, ⟨.agg ⟨[iP 1, iP 1]⟩, .bool false, 5⟩, ⟨.agg ⟨[iP 2, iP 1]⟩, .bool false, 6⟩, ⟨.agg ⟨[iP 3, iP 1]⟩, .bool true, 7⟩, ⟨.agg ⟨[iP 0, iP 2]⟩, .bool true, 8⟩, ⟨.agg ⟨[iP 1, iP 2]⟩, .bool false, 9⟩, ⟨.agg ⟨[iP 2, iP 2]⟩, .bool false, 10⟩, ⟨.agg ⟨[iP 3, iP 2]⟩, .bool true, 11⟩] 12),
    (8, .cells true 3 [iP 0, iP 0, iP 0, iP 2, iP 3, iP 1]),
    (9, .cells true 3 [iP 0, iP 0, iP 0, iP 1, iP 3, iP 1])],
   [],
   .bool false⟩
theorem fb44_h : fb44.holds EE := ent0 _ (by kernel_rfl) (by kernel_rfl)
-- (decani/founder.chest).isBetter, 1831 steps
noncomputable def fb50 : Ent :=
  ⟨47, [.agg ⟨[iP 4, iP 28, .slice (some ⟨3, 0, none⟩) 3 3, .slice (some ⟨4, 0, none⟩) 2 2, .bool false, .slice (some ⟨5, 0, none⟩) 1 1, .bool true, .slice (some ⟨6, 0, none⟩) 1 1, .slice (some ⟨7, 0, none⟩) 3 3, .map (some 8), iP 0]⟩, .slice (some ⟨9, 0, none⟩) 2 18446744073709551616, .slice (some ⟨10, 0, none⟩) 4 18446744073709551616], 11,
   gC ++ [(3, .cells true 0 [iP 1, iP 2, iP 2, iP 1, iP 1, iP 1, iP 2, iP 2, iP 1]),
    (4, .cells true 0 [iP 1, iP 2, iP 1, iP 1, iP 1, iP 2]),
    (5, .cells true 0 [iP 1, iP 2, iP 2]),
    (6, .cells true 0 [iP 0, iP 3, iP 2]),
    (7, .cells true 0 [iP 0, iN 0, iP 2, iP 10, iP 0, iP 1, iP 2, iP 6, iP 1, iP 1, iP 1, iP 4]),
    (8, .map [⟨.agg ⟨[iP 0, iP 0]⟩, .bool true, 0⟩, ⟨.agg ⟨[iP 1, iP 0]⟩, .bool false, 1⟩, ⟨.agg ⟨[iP 2, iP 0]⟩, .bool false, 2⟩, ⟨.agg ⟨[iP 3, iP 0]⟩, .bool false, 3⟩, ⟨.agg ⟨[iP 0, iP 1]⟩, .bool true, 4⟩, ⟨.agg ⟨[iP 1, iP 1]⟩, .bool true, 5⟩, ⟨.agg ⟨[iP 2, iP 1]⟩, .bool false, 6⟩, ⟨.agg ⟨[iP 3, iP 1]⟩, .bool true, 7⟩, ⟨.agg ⟨[iP 0, iP 2]⟩, .bool true, 8⟩, ⟨.agg ⟨[iP 1, iP 2]⟩, .bool true, 9⟩, ⟨.agg ⟨[iP 2, iP 2]⟩, .bool false, 10⟩, ⟨.agg ⟨[iP 3, iP 2]⟩, .bool true, 11⟩] 12),
    (9, .cells true 3 [iP 0, iP 0, iP 3, iP 2]),
    (10, .cells true 3 [iP 0, iP 0, iP 0, iP 1, iP 1, iP 1, iP 3, iP 2])],
   [],
   .bool false⟩
theorem fb50_h : fb50.holds EE := ent0 _ (by kernel_rfl) (by kernel_rfl)
-- (decani/founder.chest).isBetter, 1830 steps
noncomputable def fb54 : Ent :=
  ⟨47, [.agg ⟨[iP 4, iP 28, .slice (some ⟨3, 0, none⟩) 3 3, .slice (some ⟨4, 0, none⟩) 2 2, .bool false, .slice (some ⟨5, 0, none⟩) 1 1, .bool true, .slice (some ⟨6, 0, none⟩) 1 1, .slice (some ⟨7, 0, none⟩) 3 3, .map (some 8), iP 2]⟩, .slice (some ⟨9, 0, none⟩) 2 18446744073709551616, .slice (some ⟨10, 0, none⟩) 3 18446744073709551616], 11,
   gC ++ [(3, .cells true 0 [iP 1, iP 2, iP 2, iP 1, iP 1, iP 1, iP 2, iP 2, iP 1]),
    (4, .cells true 0 [iP 1, iP 2, iP 1, iP 1, iP 1, iP 2]),
    (5, .cells true 0 [iP 1, iP 2, iP 2]),
    (6, .cells true 0 [iP 0, iP 3, iP 2]),
    (7, .cells true 0 [iP 0, iN 0, iP 2, iP 10, iP 0, iP 1, iP 2, iP 6, iP 1, iP 1, iP 1, iP 4]),
    (8, .map [⟨.agg ⟨[iP 0, iP 0]⟩, .bool true, 0⟩, ⟨.agg ⟨[iP 1, iP 0]⟩, .bool false, 1⟩, ⟨.agg ⟨[iP 2, iP 0]⟩, .bool false, 2⟩, ⟨.agg ⟨[iP 3, iP 0]⟩, .bool false, 3⟩, ⟨.agg ⟨[iP 0, iP 1]⟩, .bool true, 4⟩, ⟨.agg ⟨[iP 1, iP 1]⟩, .bool true, 5⟩, ⟨.agg ⟨[iP 2, iP 1]⟩, .bool false, 6⟩, ⟨.agg ⟨[iP 3, iP 1]⟩, .bool true, 7⟩, ⟨.agg ⟨[iP 0, iP 2]⟩, .bool true, 8⟩, ⟨.agg ⟨[iP 1, iP 2]⟩, .bool true, 9⟩, ⟨.agg ⟨[iP 2, iP 2]⟩, .bool false, 10⟩, ⟨.agg ⟨[iP 3, iP 2]⟩, .bool true, 11⟩] 12),
    (9, .cells true 3 [iP 0, iP 0, iP 1, iP 2]),
    (10, .cells true 3 [iP 0, iP 0, iP 1, iP 1, iP 3, iP 1])],
   [],
   .bool false⟩
theorem fb54_h : fb54.holds EE := ent0 _ (by kernel_rfl) (by kernel_rfl)
-- (decani/founder.chest).isBetter, 1802 steps
noncomputable def fb58 : Ent :=
  ⟨47, [.agg ⟨[iP 4, iP 28, .slice (some ⟨3, 0, none⟩) 3 3, .slice (some ⟨4, 0, none⟩) 2 2, .bool false, .slice (some ⟨5, 0, none⟩) 1 1, .bool true, .slice (some ⟨6, 0, none⟩) 1 1, .slice (some ⟨7, 0, none⟩) 3 3, .map (some 8), iP 2]⟩, .slice (some ⟨9, 0, none⟩) 2 18446744073709551616, .slice (some ⟨10, 0, none⟩) 3 18446744073709551616], 11,
   gC ++ [(3, .cells true 0 [iP 1, iP 2, iP 2, iP 1, iP 1, iP 1, iP 2, iP 2, iP 1]),
    (4, .cells true 0 [iP 1, iP 2, iP 1, iP 1, iP 1, iP 2]),
    (5, .cells true 0 [iP 1, iP 2, iP 2]),
    (6, .cells true 0 [iP 0, iP 3, iP 2]),
    (7, .cells true 0 [iP 0, iN 0, iP 2, iP 10, iP 0, iP 1, iP 2, iP 6, iP 1, iP 1, iP 1, iP 4]),
    (8, .map [⟨.agg ⟨[iP 0, iP 0]⟩, .bool true, 0⟩, ⟨.agg ⟨[iP 1, iP 0]⟩, .bool false, 1⟩, ⟨.agg ⟨[iP 2, iP 0]⟩, .bool false, 2⟩, ⟨.agg ⟨[iP 3, iP 0]⟩, .bool false, 3⟩, ⟨.agg ⟨[iP 0, iP 1]⟩, .bool true, 4⟩, ⟨.agg ⟨[iP 1, iP 1]⟩, .bool true, 5⟩, ⟨.agg ⟨[iP 2, iP 1]⟩, .bool false, 6⟩, ⟨.agg ⟨[iP 3, iP 1]⟩, .bool true, 7⟩, ⟨.agg ⟨[iP 0, iP 2]⟩, .bool true, 8⟩, ⟨.agg ⟨[iP 1, iP 2]⟩, .bool true, 9⟩, ⟨.agg ⟨[iP 2, iP 2]⟩, .bool false, 10⟩, ⟨.agg ⟨[iP 3, iP 2]⟩, .bool true, 11⟩] 12),
    (9, .cells true 3 [iP 0, iP 0, iP 3, iP 1]),
    (10, .cells true 3 [iP 0, iP 0, iP 1, iP 1, iP 3, iP 1])],
   [],
   .bool false⟩
theorem fb58_h : fb58.holds EE := ent0 _ (by kernel_rfl) (by kernel_rfl)
-- (decani/founder.chest).isBetter, 1801 steps
noncomputable def fb61 : Ent :=
  ⟨47, [.agg ⟨[iP 4, iP 28, .slice (some ⟨3, 0, none⟩) 3 3, .slice (some ⟨4, 0, none⟩) 2 2, .bool false, .slice (some ⟨5, 0, none⟩) 1 1, .bool true, .slice (some ⟨6, 0, none⟩) 1 1, .slice (some ⟨7, 0, none⟩) 3 3, .map (some 8), iP 2]⟩, .slice (some ⟨9, 0, none⟩) 2 18446744073709551616, .slice (some ⟨10, 0, none⟩) 3 18446744073709551616], 11,
   gC ++ [(3, .cells true 0 [iP 1, iP 2, iP 2, iP 1, iP 1, iP 1, iP 2, iP 2, iP 1]),
    (4, .cells true 0 [iP 1, iP 2, iP 1, iP 1, iP 1, iP 2]),
    (5, .cells true 0 [iP 1, iP 2, iP 2]),
    (6, .cells true 0 [iP 0, iP 3, iP 2]),
    (7, .cells true 0 [iP 0, iN 0, iP 2, iP 10, iP 0, iP 1, iP 2, iP 6, iP 1, iP 1, iP 1, iP 4]),
    (8, .map [⟨.agg ⟨[iP 0, iP 0]⟩, .bool true, 0⟩, ⟨.agg ⟨[iP 1, iP 0]⟩, .bool false, 1⟩, ⟨.agg ⟨[iP 2, iP 0]⟩, .bool false, 2⟩, ⟨.agg ⟨[iP 3, iP 0]⟩, .bool false, 3⟩, ⟨.agg ⟨[iP 0, iP 1]⟩, .bool true, 4⟩, ⟨.agg ⟨[iP 1, iP 1]⟩, .bool true, 5⟩, ⟨.agg ⟨[iP 2, iP 1]⟩, .bool false, 6⟩, ⟨.agg ⟨[iP 3, iP 1]⟩, .bool true, 7⟩, ⟨.agg ⟨[iP 0, iP 2]⟩, .bool true, 8⟩, ⟨.agg ⟨[iP 1, iP 2]⟩, .bool true, 9⟩, ⟨.agg ⟨[iP 2, iP 2]⟩, .bool false, 10⟩, ⟨.agg ⟨[iP 3, iP 2]⟩, .bool true, 11⟩] 12),
    (9, .cells true 3 [iP 0, iP 0, iP 3, iP 2]),
    (10, .cells true 3 [iP 0, iP 0, iP 1, iP 1, iP 3, iP 1])],
   [],
   .bool false⟩
theorem fb61_h : fb61.holds EE := ent0 _ (by kernel_rfl) (by kernel_rfl)
-- (decani/founder.chest).isBetter, 1800 steps
noncomputable def fb65 : Ent :=
  ⟨47, [.agg ⟨[iP 4, iP 28, .slice (some ⟨3, 0, none⟩) 3 3, .slice (some ⟨4, 0, none⟩) 2 2, .bool false, .slice (some ⟨5, 0, none⟩) 1 1, .bool true, .slice none 0 0, .slice (some ⟨6, 0, none⟩) 3 3, .map (some 7), iP 2]⟩, .slice (some ⟨8, 0, none⟩) 2 18446744073709551616, .slice (some ⟨9, 0, none⟩) 2 18446744073709551616], 10,
   gC ++ [(3, .cells true 0 [iP 1, iP 2, iP 2, iP 1, iP 1, iP 1, iP 2, iP 2, iP 1]),
    (4, .cells true 0 [iP 1, iP 2, iP 1, iP 1, iP 1, iP 2]),
    (5, .cells true 0 [iP 1, iP 2, iP 2]),
    (6, .cells true 0 [iP 0, iN 0, iP 2, iP 10, iP 0, iP 1, iP 2, iP 6, iP 1, iP 1, iP 1, iP 4]),
    (7, .map [⟨.agg ⟨[iP 0, iP 0]⟩, .bool true, 0⟩, ⟨.agg ⟨[iP 1, iP 0]⟩, .bool false, 1⟩, ⟨.agg ⟨[iP 2, iP 0]⟩, .bool false, 2⟩, ⟨.agg ⟨[iP 3, iP 0]⟩, .bool false, 3⟩, ⟨.agg ⟨[iP 0, iP 1]⟩, .bool true, 4⟩, ⟨.agg ⟨[iP 1, iP 1]⟩, .bool false, 5⟩, ⟨.agg ⟨[iP 2, iP 1]⟩, .bool false, 6⟩, ⟨.agg ⟨[iP 3, iP 1]⟩, .bool true, 7⟩, ⟨.agg ⟨[iP 0, iP 2]⟩, .bool true, 8⟩, ⟨.agg ⟨[iP 1, iP 2]⟩, .bool false, 9⟩, ⟨.agg ⟨[iP 2, iP 2]⟩, .bool false, 10⟩, ⟨.agg ⟨[iP 3, iP 2]⟩, .bool true, 11⟩] 12),
    (8, .cells true 3 [iP 0, iP 0, iP 3, iP 2]),
    (9, .cells true 3 [iP 0, iP 0, iP 3, iP 1])],
   [],
   .bool false⟩
theorem fb65_h : fb65.holds EE := ent0 _ (by kernel_rfl) (by kernel_rfl)
-- (decani/founder.chest).isBetter, 1562 steps
noncomputable def fb71 : Ent :=
  ⟨47, [.agg ⟨[iP 4, iP 28, .slice (some ⟨3, 0, none⟩) 3 3, .slice (some ⟨4, 0, none⟩) 2 2, .bool false, .slice (some ⟨5, 0, none⟩) 1 1, .bool true, .slice (some ⟨6, 0, none⟩) 1 1, .slice (some ⟨7, 0, none⟩) 3 3, .map (some 8), iP 0]⟩, .slice (some ⟨9, 0, none⟩) 3 18446744073709551616, .slice (some ⟨10, 0, none⟩) 4 18446744073709551616], 11,
   gC ++ [(3, .cells true 0 [iP 1, iP 2, iP 2, iP 1, iP 1, iP 1, iP 2, iP 2, iP 1]),
    (4, .cells true 0 [iP 1, iP 2, iP 1, iP 1, iP 1, iP 2]),
    (5, .cells true 0 [iP 1, iP 2, iP 2]),
    (6, .cells true 0 [iP 0, iP 3, iP 2]),
    (7, .cells true 0 [iP 0, iN 0, iP 2, iP 10, iP 0, iP 1, iP 2, iP 6, iP 1, iP 1, iP 1, iP 4]),
    (8, .map [⟨.agg ⟨[iP 0, iP 0]⟩, .bool true, 0⟩, ⟨.agg ⟨[iP 1, iP 0]⟩, .bool false, 1⟩, ⟨.agg ⟨[iP 2, iP 0]⟩, .bool false, 2⟩, ⟨.agg ⟨[iP 3, iP 0]⟩, .bool false, 3⟩, ⟨.agg ⟨[iP 0, iP 1]⟩, .bool true, 4⟩, ⟨.agg ⟨[iP 1, iP 1]⟩, .bool true, 5⟩, ⟨.agg ⟨[iP 2, iP 1]⟩, .bool false, 6⟩, ⟨.agg ⟨[iP 3, iP 1]⟩, .bool true, 7⟩, ⟨.agg ⟨[iP 0, iP 2]⟩, .bool true, 8⟩, ⟨.agg ⟨[iP 1, iP 2]⟩, .bool true, 9⟩, ⟨.agg ⟨[iP 2, iP 2]⟩, .bool false, 10⟩, ⟨.agg ⟨[iP 3, iP 2]⟩, .bool true, 11⟩] 12),
    (9, .cells true 3 [iP 0, iP 1, iP 0, iP 2, iP 1, iP 1]),
    (10, .cells true 3 [iP 0, iP 0, iP 0, iP 1, iP 1, iP 1, iP 3, iP 2])],
   [],
   .bool false⟩
theorem fb71_h : fb71.holds EE := ent0 _ (by kernel_rfl) (by kernel_rfl)
-- (decani/founder.chest).isBetter, 1562 steps
noncomputable def fb75 : Ent :=
  ⟨47, [.agg ⟨[iP 4, iP 28, .slice (some ⟨3, 0, none⟩) 3 3, .slice (some ⟨4, 0, none⟩) 2 2, .bool false, .slice (some ⟨5, 0, none⟩) 1 1, .bool true, .slice (some ⟨6, 0, none⟩) 1 1, .slice (some ⟨7, 0, none⟩) 3 3, .map (some 8), iP 0]⟩, .slice (some ⟨9, 0, none⟩) 3 18446744073709551616, .slice (some ⟨10, 0, none⟩) 4 18446744073709551616], 11,
   gC ++ [(3, .cells true 0 [iP 1, iP 2, iP 2, iP 1, iP 1, iP 1, iP 2, iP 2, iP 1]),
    (4, .cells true 0 [iP 1, iP 2, iP 1, iP 1, iP 1, iP 2]),
    (5, .cells true 0 [iP 1, iP 2, iP 2]),
    (6, .cells true 0 [iP 0, iP 3, iP 2]),
    (7, .cells true 0 [iP 0, iN 0, iP 2, iP 10, iP 0, iP 1, iP 2, iP 6, iP 1, iP 1, iP 1, iP 4]),
    (8, .map [⟨.agg ⟨[iP 0, iP 0]⟩, .bool true, 0⟩, ⟨.agg ⟨[iP 1, iP 0]⟩, .bool false, 1⟩, ⟨.agg ⟨[iP 2, iP 0]⟩, .bool false, 2⟩, ⟨.agg ⟨[iP 3, iP 0]⟩, .bool false, 3⟩, ⟨.agg ⟨[iP 0, iP 1]⟩, .bool true, 4⟩, ⟨.agg ⟨[iP 1, iP 1]⟩, .bool true, 5⟩, ⟨.agg ⟨[iP 2, iP 1]⟩, .bool false, 6⟩, ⟨.agg ⟨[iP 3, iP 1]⟩, .bool true, 7⟩, ⟨.agg ⟨[iP 0, iP 2]⟩, .bool true, 8⟩, ⟨.agg ⟨[iP 1, iP 2]⟩, .bool true, 9⟩, ⟨.agg ⟨[iP 2, iP 2]⟩, .bool false, 10⟩, ⟨.agg ⟨[iP 3, iP 2]⟩, .bool true, 11⟩] 12),
    (9, .cells true 3 [iP 0, iP 2, iP 1, iP 1, iP 3, iP 1]),
    (10, .cells true 3 [iP 0, iP 0, iP 0, iP 1, iP 1, iP 1, iP 3, iP 2])],
   [],
   .bool false⟩
theorem fb75_h : fb75.holds EE := ent0 _ (by kernel_rfl) (by kernel_rfl)
-- (decani/founder.chest).isBetter, 1562 steps
noncomputable def fb79 : Ent :=
  ⟨47, [.agg ⟨[iP 4, iP 28, .slice (some ⟨3, 0, none⟩) 3 3, .slice (some ⟨4, 0, none⟩) 2 2, .bool false, .slice (some ⟨5, 0, none⟩) 1 1, .bool true, .slice (some ⟨6, 0, none⟩) 1 1, .slice (some ⟨7, 0, none⟩) 3 3, .map (some 8), iP 1]⟩, .slice (some ⟨9, 0, none⟩) 3 18446744073709551616, .slice (some ⟨10, 0, none⟩) 4 18446744073709551616], 11,
   gC ++ [(3, .cells true 0 [iP 1, iP 2, iP 2, iP 1, iP 1, iP 1, iP 2, iP 2, iP 1]),
    (4, .cells true 0 [iP 1, iP 2, iP 1, iP 1, iP 1, iP 2]),
    (5, .cells true 0 [iP 1, iP 2, iP 2]),
    (6, .cells true 0 [iP 0, iP 3, iP 2]),
    (7, .cells true 0 [iP 0, iN 0, iP 2, iP 10, iP 0, iP 1, iP 2, iP 6, iP 1, iP 1, iP 1, iP 4]),
    (8, .map [⟨.agg ⟨[iP 0, iP 0]⟩, .bool true, 0⟩, ⟨.agg ⟨[iP 1, iP 0]⟩, .bool false, 1⟩, ⟨.agg ⟨[iP 2, iP 0]⟩, .bool false, 2⟩, ⟨.agg ⟨[iP 3, iP 0]⟩, .bool false, 3⟩, ⟨.agg ⟨[iP 0, iP 1]⟩, .bool true, 4⟩, ⟨.agg ⟨[iP 1, iP 1]⟩, .bool true, 5⟩, ⟨.agg ⟨[iP 2, iP 1]⟩, .bool false, 6⟩, ⟨.agg ⟨[iP 3, iP 1]⟩, .bool true, 7⟩, ⟨.agg ⟨[iP 0, iP 2]⟩, .bool true, 8⟩, ⟨.agg ⟨[iP 1, iP 2]⟩, .bool true, 9⟩, ⟨.agg ⟨[iP 2, iP 2]⟩, .bool false, 10⟩, ⟨.agg ⟨[iP 3, iP 2]⟩, .bool true, 11⟩] 12),
    (9, .cells true 3 [iP 0, iP 2, iP 1, iP 1, iP 3, iP 1]),
    (10, .cells true 3 [iP 0, iP 0, iP 1, iP 1, iP 1, iP 2, iP 3, iP 1])],
   [],
   .bool false⟩
theorem fb79_h : fb79.holds EE := ent0 _ (by kernel_rfl) (by kernel_rfl)
-- (decani/founder.chest).isBetter, 1562 steps
noncomputable def fb83 : Ent :=
  ⟨47, [.agg ⟨[iP 4, iP 28, .slice (some ⟨3, 0, none⟩) 3 3, .slice (some ⟨4, 0, none⟩) 2 2, .bool false, .slice (some ⟨5, 0, none⟩) 1 1, .bool true, .slice (some ⟨6, 0, none⟩) 1 1, .slice (some ⟨7, 0, none⟩) 3 3, .map (some 8), iP 3]⟩, .slice (some ⟨9, 0, none⟩) 3 18446744073709551616, .slice (some ⟨10, 0, none⟩) 4 18446744073709551616], 11,
   gC ++ [(3, .cells true 0 [iP 1, iP 2, iP 2, iP 1, iP 1, iP 1, iP 2, iP 2, iP 1]),
    (4, .cells true 0 [iP 1, iP 2, iP 1, iP 1, iP 1, iP 2]),
    (5, .cells true 0 [iP 1, iP 2, iP 2]),
    (6, .cells true 0 [iP 0, iP 3, iP 2]),
    (7, .cells true 0 [iP 0, iN 0, iP 2, iP 10, iP 0, iP 1, iP 2, iP 6, iP 1, iP 1, iP 1, iP 4]),
    (8, .map [⟨.agg ⟨[iP 0, iP 0]⟩, .bool true, 0⟩, ⟨.agg ⟨[iP 1, iP 0]⟩, .bool false, 1⟩, ⟨.agg ⟨[iP 2, iP 0]⟩, .bool false, 2⟩, ⟨.agg ⟨[iP 3, iP 0]⟩, .bool false, 3⟩, ⟨.agg ⟨[iP 0, iP 1]⟩, .bool true, 4⟩, ⟨.agg ⟨[iP 1, iP 1]⟩, .bool true, 5⟩, ⟨.agg ⟨[iP 2, iP 1]⟩, .bool false, 6⟩, ⟨.agg ⟨[iP 3, iP 1]⟩, .bool true, 7⟩, ⟨.agg ⟨[iP 0, iP 2]⟩, .bool true, 8⟩, ⟨.agg ⟨[iP 1, iP 2]⟩, .bool true, 9⟩, ⟨.agg ⟨[iP 2, iP 2]⟩, .bool false, 10⟩, ⟨.agg ⟨[iP 3, iP 2]⟩, .bool true, 11⟩] 12),
    (9, .cells true 3 [iP 0, iP 2, iP 1, iP 1, iP 3, iP 1]),
    (10, .cells true 3 [iP 0, iP 0, iP 1, iP 1, iP 3, iP 1, iP 3, iP 2])],
   [],
   .bool false⟩
theorem fb83_h : fb83.holds EE := ent0 _ (by kernel_rfl) (by kernel_rfl)
-- (decani/founder.chest).isBetter, 1534 steps
noncomputable def fb87 : Ent :=
  ⟨47, [.agg ⟨[iP 4, iP 28, .slice (some ⟨3, 0, none⟩) 3 3, .slice (some ⟨4, 0, none⟩) 2 2, .bool false, .slice (some ⟨5, 0, none⟩) 1 1, .bool true, .slice none 0 0, .slice (some ⟨6, 0, none⟩) 1 1, .map (some 7), iN 0]⟩, .slice (some ⟨8, 0, none⟩) 3 18446744073709551616, .slice (some ⟨9, 0, none⟩) 4 18446744073709551616], 10,
   gC ++ [(3, .cells true 0 [iP 1, iP 2, iP 2, iP 1, iP 1, iP 1, iP 2, iP 2, iP 1]),
    (4, .cells true 0 [iP 1, iP 2, iP 1, iP 1, iP 1, iP 2]),
    (5, .cells true 0 [iP 1, iP 2, iP 2]),
    (6, .cells true 0 [iP 0, iP 3, iP 4, iP 1]),
    (7, .map [⟨.agg ⟨[iP 0, iP 0]⟩, .bool true, 0⟩, ⟨.agg ⟨[iP 1, iP 0]⟩, .bool true, 1⟩, ⟨.agg ⟨[iP 2, iP 0]⟩, .bool true, 2⟩, ⟨.agg ⟨[iP 3, iP 0]⟩, .bool true, 3⟩] 4),
    (8, .cells true 3 [iP 0, iP 0, iP 2, iP 0, iP 3, iP 0]),
    (9, .cells true 3 [iP 0, iP 0, iP 1, iP 0, iP 2, iP 0, iP 3, iP 0])],
   [],
   .bool false⟩
theorem fb87_h : fb87.holds EE := ent0 _ (by kernel_rfl) (by kernel_rfl)
-- (decani/founder.chest).isBetter, 1534 steps
noncomputable def fb91 : Ent :=
  ⟨47, [.agg ⟨[iP 4, iP 28, .slice (some ⟨3, 0, none⟩) 3 3, .slice (some ⟨4, 0, none⟩) 2 2, .bool false, .slice (some ⟨5, 0, none⟩) 1 1, .bool true, .slice none 0 0, .slice (some ⟨6, 0, none⟩) 1 1, .map (some 7), iP 3]⟩, .slice (some ⟨8, 0, none⟩) 3 18446744073709551616, .slice (some ⟨9, 0, none⟩) 4 18446744073709551616], 10,
   gC ++ [(3, .cells true 0 [iP 1, iP 2, iP 2, iP 1, iP 1, iP 1, iP 2, iP 2, iP 1]),
    (4, .cells true 0 [iP 1, iP 2, iP 1, iP 1, iP 1, iP 2]),
    (5, .cells true 0 [iP 1, iP 2, iP 2]),
    (6, .cells true 0 [iP 0, iP 3, iP 4, iP 1]),
    (7, .map [⟨.agg ⟨[iP 0, iP 0]⟩, .bool true, 0⟩, ⟨.agg ⟨[iP 1, iP 0]⟩, .bool true, 1⟩, ⟨.agg ⟨[iP 2, iP 0]⟩, .bool true, 2⟩, ⟨.agg ⟨[iP 3, iP 0]⟩, .bool true, 3⟩] 4),
    (8, .cells true 3 [iP 0, iP 0, iP 2, iP 0, iP 3, iP 0]),
    (9, .cells true 3 [iP 0, iP 0, iP 1, iP 0, iP 2, iP 0, iP 3, iP 0])],
   [],
   .bool false⟩
theorem fb91_h : fb91.holds EE := ent0 _ (by kernel_rfl) (by kernel_rfl)
-- (decani/founder.chest).isBetter, 1532 steps
noncomputable def fb95 : Ent :=
  ⟨47, [.agg ⟨[iP 4, iP 28, .slice (some ⟨3, 0, none⟩) 3 3, .slice (some ⟨4, 0, none⟩) 2 2, .bool false, .slice (some ⟨5, 0, none⟩) 1 1, .bool true, .slice (some ⟨6, 0, none⟩) 1 1, .slice (some ⟨7, 0, none⟩) 3 3, .map (some 8), iN 0]⟩, .slice (some ⟨9, 0, none⟩) 3 18446744073709551616, .slice (some ⟨10, 0, none⟩) 3 18446744073709551616], 11,
   gC ++ [(3, .cells true 0 [iP 1, iP 2, iP 2, iP 1, iP 1, iP 1, iP 2, iP 2, iP 1]),
    (4, .cells true 0 [iP 1, iP 2, iP 1, iP 1, iP 1, iP 2]),
    (5, .cells true 0 [iP 1, iP 2, iP 2]),
    (6, .cells true 0 [iP 0, iP 3, iP 2]),
    (7, .cells true 0 [iP 0, iN 0, iP 2, iP 10, iP 0, iP 1, iP 2, iP 6, iP 1, iP 1, iP 1, iP 4]),
    (8, .map [⟨.agg ⟨[iP 0, iP 0]⟩, .bool true, 0⟩, ⟨.agg ⟨[iP 1, iP 0]⟩, .bool false, 1⟩, ⟨.agg ⟨[iP 2, iP 0]⟩, .bool false, 2⟩, ⟨.agg ⟨[iP 3, iP 0]⟩, .bool false, 3⟩, ⟨.agg ⟨[iP 0, iP 1]⟩, .bool true, 4⟩, ⟨.agg ⟨[iP 1, iP 1]⟩, .bool true, 5⟩, ⟨.agg ⟨[iP 2, iP 1]⟩, .bool false, 6⟩, ⟨.agg ⟨[iP 3, iP 1]⟩, .bool true, 7⟩, ⟨.agg ⟨[iP 0, iP 2]⟩, .bool true, 8⟩, ⟨.agg ⟨[iP 1, iP 2]⟩, .bool true, 9⟩, ⟨.agg ⟨[iP 2, iP 2]⟩, .bool false, 10⟩, ⟨.agg ⟨[iP 3, iP 2]⟩, .bool true, 11⟩] 12),
    (9, .cells true 3 [iP 0, iP 1, iP 1, iP 2, iP 3, iP 1]),
    (10, .cells true 3 [iP 0, iP 0, iP 1, iP 1, iP 3, iP 1])],
   [],
   .bool false⟩
theorem fb95_h : fb95.holds EE := ent0 _ (by kernel_rfl) (by kernel_rfl)
-- (decani/founder.chest).isBetter, 1532 steps
noncomputable def fb99 : Ent :=
  ⟨47, [.agg ⟨[iP 4, iP 28, .slice (some ⟨3, 0, none⟩) 3 3, .slice (some ⟨4, 0, none⟩) 2 2, .bool false, .slice (some ⟨5, 0, none⟩) 1 1, .bool true, .slice (some ⟨6, 0, none⟩) 1 1, .slice (some ⟨7, 0, none⟩) 3 3, .map (some 8), iP 0]⟩, .slice (some ⟨9, 0, none⟩) 2 18446744073709551616, .slice (some ⟨10, 0, none⟩) 4 18446744073709551616], 11,
   gC ++ [(3, .cells true 0 [iP 1, iP 2, iP 2, iP 1, iP 1, iP 1, iP 2, iP 2, iP 1]),
    (4, .cells true 0 [iP 1, iP 2, iP 1, iP 1, iP 1, iP 2]),
    (5, .cells true 0 [iP 1, iP 2, iP 2]),
    (6, .cells true 0 [iP 0, iP 3, iP 2]),
    (7, .cells true 0 [iP 0, iN 0, iP 2, iP 10, iP 0, iP 1, iP 2, iP 6, iP 1, iP 1, iP 1, iP 4]),
    (8, .map [⟨.agg ⟨[iP 0, iP 0]⟩, .bool true, 0⟩, ⟨.agg ⟨[iP 1, iP 0]⟩, .bool false, 1⟩, ⟨.agg ⟨[iP 2, iP 0]⟩, .bool false, 2⟩, ⟨.agg ⟨[iP 3, iP 0]⟩, .bool false, 3⟩, ⟨.agg ⟨[iP 0, iP 1]⟩, .bool true, 4⟩, ⟨.agg ⟨[iP 1, iP 1]⟩, .bool true, 5⟩, ⟨.agg ⟨[iP 2, iP 1]⟩, .bool false, 6⟩, ⟨.agg ⟨[iP 3, iP 1]⟩, .bool true, 7⟩, ⟨.agg ⟨[iP 0, iP 2]⟩, .bool true, 8⟩, ⟨.agg ⟨[iP 1, iP 2]⟩, .bool true, 9⟩, ⟨.agg ⟨[iP 2, iP 2]⟩, .bool false, 10⟩, ⟨.agg ⟨[iP 3, iP 2]⟩, .bool true, 11⟩] 12),
    (9, .cells true 3 [iP 0, iP 1, iP 1, iP 2]),
    (10, .cells true 3 [iP 0, iP 0, iP 0, iP 1, iP 1, iP 1, iP 3, iP 2])],
   [],
   .bool false⟩
theorem fb99_h : fb99.holds EE := ent0 _ (by kernel_rfl) (by kernel_rfl)
-- (decani/founder.chest).isBetter, 1532 steps
noncomputable def fb103 : Ent :=
  ⟨47, [.agg ⟨[iP 4, iP 28, .slice (some ⟨3, 0, none⟩) 3 3, .slice (some ⟨4, 0, none⟩) 2 2, .bool false, .slice (some ⟨5, 0, none⟩) 1 1, .bool true, .slice (some ⟨6, 0, none⟩) 1 1, .slice (some ⟨7, 0, none⟩) 3 3, .map (some 8), iP 0]⟩, .slice (some ⟨9, 0, none⟩) 2 18446744073709551616, .slice (some ⟨10, 0, none⟩) 4 18446744073709551616], 11,
   gC ++ [(3, .cells true 0 [iP 1, iP 2, iP 2, iP 1, iP 1, iP 1, iP 2, iP 2, iP 1]),
    (4, .cells true 0 [iP 1, iP 2, iP 1, iP 1, iP 1, iP 2]),
    (5, .cells true 0 [iP 1, iP 2, iP 2]),
    (6, .cells true 0 [iP 0, iP 3, iP 2]),
    (7, .cells true 0 [iP 0, iN 0, iP 2, iP 10, iP 0, iP 1, iP 2, iP 6, iP 1, iP 1, iP 1, iP 4]),
    (8, .map [⟨.agg ⟨[iP 0, iP 0]⟩, .bool true, 0⟩, ⟨.agg ⟨[iP 1, iP 0]⟩, .bool false, 1⟩, ⟨.agg ⟨[iP 2, iP 0]⟩, .bool false, 2⟩, ⟨.agg ⟨[iP 3, iP 0]⟩, .bool false, 3⟩, ⟨.agg ⟨[iP 0, iP 1]⟩, .bool true, 4⟩, ⟨.agg ⟨[iP 1, iP 1]⟩, .bool true, 5⟩, ⟨.agg ⟨[iP 2, iP 1]⟩, .bool false, 6⟩, ⟨.agg ⟨[iP 3, iP 1]⟩, .bool true, 7⟩, ⟨.agg ⟨[iP 0, iP 2]⟩, .bool true, 8⟩, ⟨.agg ⟨[iP 1, iP 2]⟩, .bool true, 9⟩, ⟨.agg ⟨[iP 2, iP 2]⟩, .bool false, 10⟩, ⟨.agg ⟨[iP 3, iP 2]⟩, .bool true, 11⟩] 12),
    (9, .cells true 3 [iP 0, iP 2, iP 3, iP 1]),
    (10, .cells true 3 [iP 0, iP 0, iP 0, iP 1, iP 1, iP 1, iP 3, iP 2])],
   [],
   .bool false⟩
theorem fb103_h : fb103.holds EE := ent0 _ (by kernel_rfl) (by kernel_rfl)
-- (decani/founder.chest).isBetter, 1532 steps
noncomputable def fb107 : Ent :=
  ⟨47, [.agg ⟨[iP 4, iP 28, .slice (some ⟨3, 0, none⟩) 3 3, .slice (some ⟨4, 0, none⟩) 2 2, .bool false, .slice (some ⟨5, 0, none⟩) 1 1, .bool true, .slice (some ⟨6, 0, none⟩) 1 1, .slice (some ⟨7, 0, none⟩) 3 3, .map (some 8), iP 1]⟩, .slice (some ⟨9, 0, none⟩) 2 18446744073709551616, .slice (some ⟨10, 0, none⟩) 4 18446744073709551616], 11,
   gC ++ [(3, .cells true 0 [iP 1, iP 2, iP 2, iP 1, iP 1, iP 1, iP 2, iP 2, iP 1]),
    (4, .cells true 0 [iP 1, iP 2, iP 1, iP 1, iP 1, iP 2]),
    (5, .cells true 0 [iP 1, iP 2, iP 2]),
    (6, .cells true 0 [iP 0, iP 3, iP 2]),
    (7, .cells true 0 [iP 0, iN 0, iP 2, iP 10, iP 0, iP 1, iP 2, iP 6, iP 1, iP 1, iP 1, iP 4]),
    (8, .map [⟨.agg ⟨[iP 0, iP 0]⟩, .bool true, 0⟩, ⟨.agg ⟨[iP 1, iP 0]⟩, .bool false, 1⟩, ⟨.agg ⟨[iP 2, iP 0]⟩, .bool false, 2⟩, ⟨.agg ⟨[iP 3, iP 0]⟩, .bool false, 3⟩, ⟨.agg ⟨[iP 0, iP 1]⟩, .bool true, 4⟩, ⟨.agg ⟨[iP 1, iP 1]⟩, .bool true, 5⟩, ⟨.agg ⟨[iP 2, iP 1]⟩, .bool false, 6⟩, ⟨.agg ⟨[iP 3, iP 1]⟩, .bool true, 7⟩, ⟨.agg ⟨[iP 0, iP 2]⟩, .bool true, 8⟩, ⟨.agg ⟨[iP 1, iP 2]⟩, .bool true, 9⟩, ⟨.agg ⟨[iP 2, iP 2]⟩, .bool false, 10⟩, ⟨.agg ⟨[iP 3, iP 2]⟩, .bool true, 11⟩] 12),
    (9, .cells true 3 [iP 0, iP 1, iP 3, iP 2]),
    (10, .cells true 3 [iP 0, iP 0, iP 1, iP 1, iP 1, iP 2, iP 3, iP 1])],
   [],
   .bool false⟩
theorem fb107_h : fb107.holds EE := ent0 _ (by kernel_rfl) (by kernel_rfl)
-- (decani/founder.chest).isBetter, 1532 steps
noncomputable def fb111 : Ent :=
  ⟨47, [.agg ⟨[iP 4, iP 28, .slice (some ⟨3, 0, none⟩) 3 3, .slice (some ⟨4, 0, none⟩) 2 2, .bool false, .slice (some ⟨5, 0, none⟩) 1 1, .bool true, .slice (some ⟨6, 0, none⟩) 1 1, .slice (some ⟨7, 0, none⟩) 3 3, .map (some 8), iP 2]⟩, .slice (some ⟨9, 0, none⟩) 3 18446744073709551616, .slice (some ⟨10, 0, none⟩) 3 18446744073709551616], 11,
   gC ++ [(3, .cells true 0 [iP 1, iP 2, iP 2, iP 1, iP 1, iP 1, iP 2, iP 2, iP 1]),
    (4, .cells true 0 [iP 1, iP 2, iP 1, iP 1, iP 1, iP 2]),
    (5, .cells true 0 [iP 1, iP 2, iP 2]),
    (6, .cells true 0 [iP 0, iP 3, iP 2]),
    (7, .cells true 0 [iP 0, iN 0, iP 2, iP 10, iP 0, iP 1, iP 2, iP 6, iP 1, iP 1, iP 1, iP 4]),
    (8, .map [⟨.agg ⟨[iP 0, iP 0]⟩, .bool true, 0⟩, ⟨.agg ⟨[iP 1, iP 0]⟩, .bool false, 1⟩, ⟨.agg ⟨[iP 2, iP 0]⟩, .bool false, 2⟩, ⟨.agg ⟨[iP 3, iP 0]⟩, .bool false, 3⟩, ⟨.agg ⟨[iP 0, iP 1]⟩, .bool true, 4⟩, ⟨.agg ⟨[iP 1, iP 1]⟩, .bool true, 5⟩, ⟨.agg ⟨[iP 2, iP 1]⟩, .bool false, 6⟩, ⟨.agg ⟨[iP 3, iP 1]⟩, .bool true, 7⟩, ⟨.agg ⟨[iP 0, iP 2]⟩, .bool true, 8⟩, ⟨.agg ⟨[iP 1, iP 2]⟩, .bool true, 9⟩, ⟨.agg ⟨[iP 2, iP 2]⟩, .bool false, 10⟩, ⟨.agg ⟨[iP 3, iP 2]⟩, .bool true, 11⟩] 12),
    (9, .cells true 3 [iP 0, iP 1, iP 1, iP 2, iP 3, iP 1]),
    (10, .cells true 3 [iP 0, iP 0, iP 1, iP 1, iP 3, iP 1])],
   [],
   .bool false⟩
theorem fb111_h : fb111.holds EE := ent0 _ (by kernel_rfl) (by kernel_rfl)
-- (decani/founder.chest).isBetter, 1532 steps
noncomputable def fb115 : Ent :=
  ⟨47, [.agg ⟨[iP 4, iP 28, .slice (some ⟨3, 0, none⟩) 3 3, .slice (some ⟨4, 0, none⟩) 2 2, .bool false, .slice (some ⟨5, 0, none⟩) 1 1, .bool true, .slice (some ⟨6, 0, none⟩) 1 1, .slice (some ⟨7, 0, none⟩) 3 3, .map (some 8), iP 3]⟩, .slice (some ⟨9, 0, none⟩) 2 18446744073709551616, .slice (some ⟨10, 0, none⟩) 4 18446744073709551616], 11,
   gC ++ [(3, .cells true 0 [iP 1, iP 2, iP 2, iP 1, iP 1, iP 1, iP 2, iP 2, iP 1]),
    (4, .cells true 0 [iP 1, iP 2, iP 1, iP 1, iP 1, iP 2]),
    (5, .cells true 0 [iP 1, iP 2, iP 2]),
    (6, .cells true 0 [iP 0, iP 3, iP 2]),
    (7, .cells true 0 [iP 0, iN 0, iP 2, iP 10, iP 0, iP 1, iP 2, iP 6, iP 1, iP 1, iP 1, iP 4]),
    (8, .map [⟨.agg ⟨[iP 0, iP 0]⟩, .bool true, 0⟩, ⟨.agg ⟨[iP 1, iP 0]⟩, .bool false, 1⟩, ⟨.agg ⟨[iP 2, iP 0]⟩, .bool false, 2⟩, ⟨.agg ⟨[iP 3, iP 0]⟩, .bool false, 3⟩, ⟨.agg ⟨[iP 0, iP 1]⟩, .bool true, 4⟩, ⟨.agg ⟨[iP 1, iP 1]⟩, .bool true, 5⟩, ⟨.agg ⟨[iP 2, iP 1]⟩, .bool false, 6⟩, ⟨.agg ⟨[iP 3, iP 1]⟩, .bool true, 7⟩, ⟨.agg ⟨[iP 0, iP 2]⟩, .bool true, 8⟩, ⟨.agg ⟨[iP 1, iP 2]⟩, .bool true, 9⟩, ⟨.agg ⟨[iP 2, iP 2]⟩, .bool false, 10⟩, ⟨.agg ⟨[iP 3, iP 2]⟩, .bool true, 11⟩] 12),
    (9, .cells true 3 [iP 0, iP 1, iP 3, iP 1]),
    (10, .cells true 3 [iP 0, iP 0, iP 1, iP 1, iP 3, iP 1, iP 3, iP 2])],
   [],
   .bool false⟩
theorem fb115_h : fb115.holds EE := ent0 _ (by kernel_rfl) (by kernel_rfl)
-- (decani/founder.chest).isBetter, 1532 steps
noncomputable def fb119 : Ent :=
  ⟨47, [.agg ⟨[iP 4, iP 28, .slice (some ⟨3, 0, none⟩) 3 3, .slice (some ⟨4, 0, none⟩) 2 2, .bool false, .slice (some ⟨5, 0, none⟩) 1 1, .bool true, .slice none 0 0, .slice (some ⟨6, 0, none⟩) 3 3, .map (some 7), iP 0]⟩, .slice (some ⟨8, 0, none⟩) 3 18446744073709551616, .slice (some ⟨9, 0, none⟩) 3 18446744073709551616], 10,
   gC ++ [(3, .cells true 0 [iP 1, iP 2, iP 2, iP 1, iP 1, iP 1, iP 2, iP 2, iP 1]),
    (4, .cells true 0 [iP 1, iP 2, iP 1, iP 1, iP 1, iP 2]),
    (5, .cells true 0 [iP 1, iP 2, iP 2]),
    (6, .cells true 0 [iP 0, iN 0, iP 2, iP 10, iP 0, iP 1, iP 2, iP 6, iP 1, iP 1, iP 1, iP 4]),
    (7, .map [⟨.agg ⟨[iP 0, iP 0]⟩, .bool true, 0⟩, ⟨.agg ⟨[iP 1, iP 0]⟩, .bool false, 1⟩, ⟨.agg ⟨[iP 2, iP 0]⟩, .bool false, 2⟩, ⟨.agg ⟨[iP 3, iP 0]⟩, .bool false, 3⟩, ⟨.agg ⟨[iP 0, iP 1]⟩, .bool true, 4⟩, ⟨.agg ⟨[iP 1, iP 1]⟩, .bool false, 5⟩, ⟨.agg ⟨[iP 2, iP 1]⟩, .bool false, 6⟩, ⟨.agg ⟨[iP 3, iP 1]⟩, .bool true, 7⟩, ⟨.agg ⟨[iP 0, iP 2]⟩, .bool true, 8⟩, ⟨.agg ⟨[iP 1, iP 2]⟩, .bool false, 9⟩, ⟨.agg ⟨[iP 2, iP 2]⟩, .bool false, 10⟩, ⟨.agg ⟨[iP 3, iP 2]⟩, .bool true, 11⟩] 12),
    (8, .cells true 3 [iP 0, iP 1, iP 0, iP 2, iP 3, iP 1]),
    (9, .cells true 3 [iP 0, iP 0, iP 0, iP 1, iP 3, iP 1])],
   [],
   .bool false⟩
theorem fb119_h : fb119.holds EE := ent0 _ (by kernel_rfl) (by kernel_rfl)
-- (decani/founder.chest).isBetter, 1508 steps
noncomputable def fb123 : Ent :=
  ⟨47, [.agg ⟨[iP 4, iP 28, .slice (some ⟨3, 0, none⟩) 3 3, .slice (some ⟨4, 0, none⟩) 2 2, .bool false, .slice (some ⟨5, 0, none⟩) 1 1, .bool true, .slice none 0 0, .slice (some ⟨6, 0, none⟩) 3 3, .map (some 7), iP 0]⟩, .slice (some ⟨8, 0, none⟩) 1 18446744073709551616, .slice (some ⟨9, 0, none⟩) 3 18446744073709551616], 10,
   gC ++ [(3, .cells true 0 [iP 1, iP 2, iP 2, iP 1, iP 1, iP 1, iP 2, iP 2, iP 1]),
    (4, .cells true 0 [iP 1, iP 2, iP 1, iP 1, iP 1, iP 2]),
    (5, .cells true 0 [iP 1, iP 2, iP 2]),
    (6, .cells true 0 [iP 0, iN 0, iP 2, iP 10, iP 0, iP 1, iP 2, iP 6, iP 1, iP 1, iP 1, iP 4]),
    (7, .map [⟨.agg ⟨[iP 0, iP 0]⟩, .bool true, 0⟩, ⟨.agg ⟨[iP 1, iP 0]⟩, .bool false, 1⟩, ⟨.agg ⟨[iP 2, iP 0]⟩, .bool false, 2⟩, ⟨.agg ⟨[iP 3, iP 0]⟩, .bool false, 3⟩, ⟨.agg ⟨[iP 0, iP 1]⟩, .bool true, 4⟩, ⟨.agg ⟨[iP 1, iP 1]⟩, .bool false, 5⟩, ⟨.agg ⟨[iP 2, iP 1]⟩, .bool false, 6⟩, ⟨.agg ⟨[iP 3, iP 1]⟩, .bool true, 7⟩, ⟨.agg ⟨[iP 0, iP 2]⟩, .bool true, 8⟩, ⟨.agg ⟨[iP 1, iP 2]⟩, .bool false, 9⟩, ⟨.agg ⟨[iP 2, iP 2]⟩, .bool false, 10⟩, ⟨.agg ⟨[iP 3, iP 2]⟩, .bool true, 11⟩] 12),
    (8, .cells true 3 [iP 0, iP 0]),
    (9, .cells true 3 [iP 0, iP 0, iP 0, iP 1, iP 3, iP 1])],
   [],
   .bool false⟩
theorem fb123_h : fb123.holds EE := ent0 _ (by kernel_rfl) (by kernel_rfl)
-- (decani/founder.chest).isBetter, 1504 steps
noncomputable def fb127 : Ent :=
  ⟨47, [.agg ⟨[iP 4, iP 28, .slice (some ⟨3, 0, none⟩) 3 3, .slice (some ⟨4, 0, none⟩) 2 2, .bool false, .slice (some ⟨5, 0, none⟩) 1 1, .bool true, .slice none 0 0, .slice (some ⟨6, 0, none⟩) 1 1, .map (some 7), iP 0]⟩, .slice (some ⟨8, 0, none⟩) 2 18446744073709551616, .slice (some ⟨9, 0, none⟩) 4 18446744073709551616], 10,
   gC ++ [(3, .cells true 0 [iP 1, iP 2, iP 2, iP 1, iP 1, iP 1, iP 2, iP 2, iP 1]),
    (4, .cells true 0 [iP 1, iP 2, iP 1, iP 1, iP 1, iP 2]),
    (5, .cells true 0 [iP 1, iP 2, iP 2]),
    (6, .cells true 0 [iP 0, iP 3, iP 4, iP 1]),
    (7, .map [⟨.agg ⟨[iP 0, iP 0]⟩, .bool true, 0⟩, ⟨.agg ⟨[iP 1, iP 0]⟩, .bool true, 1⟩, ⟨.agg ⟨[iP 2, iP 0]⟩, .bool true, 2⟩, ⟨.agg ⟨[iP 3, iP 0]⟩, .bool true, 3⟩] 4),
    (8, .cells true 3 [iP 0, iP 0, iP 2, iP 0]),
    (9, .cells true 3 [iP 0, iP 0, iP 1, iP 0, iP 2, iP 0, iP 3, iP 0])],
   [],
   .bool false⟩
theorem fb127_h : fb127.holds EE := ent0 _ (by kernel_rfl) (by kernel_rfl)
-- (decani/founder.chest).isBetter, 1504 steps
noncomputable def fb131 : Ent :=
  ⟨47, [.agg ⟨[iP 4, iP 28, .slice (some ⟨3, 0, none⟩) 3 3, .slice (some ⟨4, 0, none⟩) 2 2, .bool false, .slice (some ⟨5, 0, none⟩) 1 1, .bool true, .slice none 0 0, .slice (some ⟨6, 0, none⟩) 1 1, .map (some 7), iP 2]⟩, .slice (some ⟨8, 0, none⟩) 2 18446744073709551616, .slice (some ⟨9, 0, none⟩) 4 18446744073709551616], 10,
   gC ++ [(3, .cells true 0 [iP 1, iP 2, iP 2, iP 1, iP 1, iP 1, iP 2, iP 2, iP 1]),
    (4, .cells true 0 [iP 1, iP 2, iP 1, iP 1, iP 1, iP 2]),
    (5, .cells true 0 [iP 1, iP 2, iP 2]),
    (6, .cells true 0 [iP 0, iP 3, iP 4, iP 1]),
    (7, .map [⟨.agg ⟨[iP 0, iP 0]⟩, .bool true, 0⟩, ⟨.agg ⟨[iP 1, iP 0]⟩, .bool true, 1⟩, ⟨.agg ⟨[iP 2, iP 0]⟩, .bool true, 2⟩, ⟨.agg ⟨[iP 3, iP 0]⟩, .bool true, 3⟩] 4),
    (8, .cells true 3 [iP 0, iP 0, iP 2, iP 0]),
    (9, .cells true 3 [iP 0, iP 0, iP 1, iP 0, iP 2, iP 0, iP 3, iP 0])],
   [],
   .bool false⟩
theorem fb131_h : fb131.holds EE := ent0 _ (by kernel_rfl) (by kernel_rfl)
-- (decani/founder.chest).isBetter, 1503 steps
noncomputable def fb135 : Ent :=
  ⟨47, [.agg ⟨[iP 4, iP 28, .slice (some ⟨3, 0, none⟩) 3 3, .slice (some ⟨4, 0, none⟩) 2 2, .bool false, .slice (some ⟨5, 0, none⟩) 1 1, .bool true, .slice (some ⟨6, 0, none⟩) 1 1, .slice (some ⟨7, 0, none⟩) 3 3, .map (some 8), iP 0]⟩, .slice (some ⟨9, 0, none⟩) 2 18446744073709551616, .slice (some ⟨10, 0, none⟩) 4 18446744073709551616], 11,
   gC ++ [(3, .cells true 0 [iP 1, iP 2, iP 2, iP 1, iP 1, iP 1, iP 2, iP 2, iP 1]),
    (4, .cells true 0 [iP 1, iP 2, iP 1, iP 1, iP 1, iP 2]),
    (5, .cells true 0 [iP 1, iP 2, iP 2]),
    (6, .cells true 0 [iP 0, iP 3, iP 2]),
    (7, .cells true 0 [iP 0, iN 0, iP 2, iP 10, iP 0, iP 1, iP 2, iP 6, iP 1, iP 1, iP 1, iP 4]),
    (8, .map [⟨.agg ⟨[iP 0, iP 0]⟩, .bool true, 0⟩, ⟨.agg ⟨[iP 1, iP 0]⟩, .bool false, 1⟩, ⟨.agg ⟨[iP 2, iP 0]⟩, .bool false, 2⟩, ⟨.agg ⟨[iP 3, iP 0]⟩, .bool false, 3⟩, ⟨.agg ⟨[iP 0, iP 1]⟩, .bool true, 4⟩, ⟨.agg ⟨[iP 1, iP 1]⟩, .bool true, 5⟩, ⟨.agg ⟨[iP 2, iP 1]⟩, .bool false, 6⟩, ⟨.agg ⟨[iP 3, iP 1]⟩, .bool true, 7⟩, ⟨.agg ⟨[iP 0, iP 2]⟩, .bool true, 8⟩, ⟨.agg ⟨[iP 1, iP 2]⟩, .bool true, 9⟩, ⟨.agg ⟨[iP 2, iP 2]⟩, .bool false, 10⟩, ⟨.agg ⟨[iP 3, iP 2]⟩, .bool true, 11⟩] 12),
    (9, .cells true 3 [iP 1, iP 1, iP 3, iP 1]),
    (10, .cells true 3 [iP 0, iP 0, iP 0, iP 1, iP 1, iP 1, iP 3, iP 2])],
   [],
   .bool false⟩
theorem fb135_h : fb135.holds EE := ent0 _ (by kernel_rfl) (by kernel_rfl)
-- (decani/founder.chest).isBetter, 1503 steps
noncomputable def fb139 : Ent :=
  ⟨47, [.agg ⟨[iP 4, iP 28, .slice (some ⟨3, 0, none⟩) 3 3, .slice (some ⟨4, 0, none⟩) 2 2, .bool false, .slice (some ⟨5, 0, none⟩) 1 1, .bool true, .slice (some ⟨6, 0, none⟩) 1 1, .slice (some ⟨7, 0, none⟩) 3 3, .map (some 8), iP 1]⟩, .slice (some ⟨9, 0, none⟩) 2 18446744073709551616, .slice (some ⟨10, 0, none⟩) 4 18446744073709551616], 11,
   gC ++ [(3, .cells true 0 [iP 1, iP 2, iP 2, iP 1, iP 1, iP 1, iP 2, iP 2, iP 1]),
    (4, .cells true 0 [iP 1, iP 2, iP 1, iP 1, iP 1, iP 2]),
    (5, .cells true 0 [iP 1, iP 2, iP 2]),
    (6, .cells true 0 [iP 0, iP 3, iP 2]),
    (7, .cells true 0 [iP 0, iN 0, iP 2, iP 10, iP 0, iP 1, iP 2, iP 6, iP 1, iP 1, iP 1, iP 4]),
    (8, .map [⟨.agg ⟨[iP 0, iP 0]⟩, .bool true, 0⟩, ⟨.agg ⟨[iP 1, iP 0]⟩, .bool false, 1⟩, ⟨.agg ⟨[iP 2, iP 0]⟩, .bool false, 2⟩, ⟨.agg ⟨[iP 3, iP 0]⟩, .bool false, 3⟩, ⟨.agg ⟨[iP 0, iP 1]⟩, .bool true, 4⟩, ⟨.agg ⟨[iP 1, iP 1]⟩, .bool true, 5⟩, ⟨.agg ⟨[iP 2, iP 1]⟩, .bool false, 6⟩, ⟨.agg ⟨[iP 3, iP 1]⟩, .bool true, 7⟩, ⟨.agg ⟨[iP 0, iP 2]⟩, .bool true, 8⟩, ⟨.agg ⟨[iP 1, iP 2]⟩, .bool true, 9⟩, ⟨.agg ⟨[iP 2, iP 2]⟩, .bool false, 10⟩, ⟨.agg ⟨[iP 3, iP 2]⟩, .bool true, 11⟩] 12),
    (9, .cells true 3 [iP 1, iP 1, iP 3, iP 1]),
    (10, .cells true 3 [iP 0, iP 0, iP 1, iP 1, iP 1, iP 2, iP 3, iP 1])],
   [],
   .bool false⟩
theorem fb139_h : fb139.holds EE := ent0 _ (by kernel_rfl) (by kernel_rfl)
-- (decani/founder.chest).isBetter, 1503 steps
noncomputable def fb143 : Ent :=
  ⟨47, [.agg ⟨[iP 4, iP 28, .slice (some ⟨3, 0, none⟩) 3 3, .slice (some ⟨4, 0, none⟩) 2 2, .bool false, .slice (some ⟨5, 0, none⟩) 1 1, .bool true, .slice (some ⟨6, 0, none⟩) 1 1, .slice (some ⟨7, 0, none⟩) 3 3, .map (some 8), iP 3]⟩, .slice (some ⟨9, 0, none⟩) 2 18446744073709551616, .slice (some ⟨10, 0, none⟩) 4 18446744073709551616], 11,
   gC ++ [(3, .cells true 0 [iP 1, iP 2, iP 2, iP 1, iP 1, iP 1, iP 2, iP 2, iP 1]),
    (4, .cells true 0 [iP 1, iP 2, iP 1, iP 1, iP 1, iP 2]),
    (5, .cells true 0 [iP 1, iP 2, iP 2]),
    (6, .cells true 0 [iP 0, iP 3, iP 2]),
    (7, .cells true 0 [iP 0, iN 0, iP 2, iP 10, iP 0, iP 1, iP 2, iP 6, iP 1, iP 1, iP 1, iP 4]),
    (8, .map [⟨.agg ⟨[iP 0, iP 0]⟩, .bool true, 0⟩, ⟨.agg ⟨[iP 1, iP 0]⟩, .bool false, 1⟩, ⟨.agg ⟨[iP 2, iP 0]⟩, .bool false, 2⟩, ⟨.agg ⟨[iP 3, iP 0]⟩, .bool false, 3⟩, ⟨.agg ⟨[iP 0, iP 1]⟩, .bool true, 4⟩, ⟨.agg ⟨[iP 1, iP 1]⟩, .bool true, 5⟩, ⟨.agg ⟨[iP 2, iP 1]⟩, .bool false, 6⟩, ⟨.agg ⟨[iP 3, iP 1]⟩, .bool true, 7⟩, ⟨.agg ⟨[iP 0, iP 2]⟩, .bool true, 8⟩, ⟨.agg ⟨[iP 1, iP 2]⟩, .bool true, 9⟩, ⟨.agg ⟨[iP 2, iP 2]⟩, .bool false, 10⟩, ⟨.agg ⟨[iP 3, iP 2]⟩, .bool true, 11⟩] 12),
    (9, .cells true 3 [iP 1, iP 1, iP 3, iP 2]),
    (10, .cells true 3 [iP 0, iP 0, iP 1, iP 1, iP 3, iP 1, iP 3, iP 2])],
   [],
   .bool false⟩
theorem fb143_h : fb143.holds EE := ent0 _ (by kernel_rfl) (by kernel_rfl)
-- (decani/founder.chest).isBetter, 1502 steps
noncomputable def fb147 : Ent :=
  ⟨47, [.agg ⟨[iP 4, iP 28, .slice (some ⟨3, 0, none⟩) 3 3, .slice (some ⟨4, 0, none⟩) 2 2, .bool false, .slice (some ⟨5, 0, none⟩) 1 1, .bool true, .slice (some ⟨6, 0, none⟩) 1 1, .slice (some ⟨7, 0, none⟩) 3 3, .map (some 8), iN 0]⟩, .slice (some ⟨9, 0, none⟩) 2 18446744073709551616, .slice (some ⟨10, 0, none⟩) 3 18446744073709551616], 11,
   gC ++ [(3, .cells true 0 [iP 1, iP 2, iP 2, iP 1, iP 1, iP 1, iP 2, iP 2, iP 1]),
    (4, .cells true 0 [iP 1, iP 2, iP 1, iP 1, iP 1, iP 2]),
    (5, .cells true 0 [iP 1, iP 2, iP 2]),
    (6, .cells true 0 [iP 0, iP 3, iP 2]),
    (7, .cells true 0 [iP 0, iN 0, iP 2, iP 10, iP 0, iP 1, iP 2, iP 6, iP 1, iP 1, iP 1, iP 4]),
    (8, .map [⟨.agg ⟨[iP 0, iP 0]⟩, .bool true, 0⟩, ⟨.agg ⟨[iP 1, iP 0]⟩, .bool false, 1⟩, ⟨.agg ⟨[iP 2, iP 0]⟩, .bool false, 2⟩, ⟨.agg ⟨[iP 3, iP 0]⟩, .bool false, 3⟩, ⟨.agg ⟨[iP 0, iP 1]⟩, .bool true, 4⟩, ⟨.agg ⟨[iP 1, iP 1]⟩, .bool true, 5⟩, ⟨.agg ⟨[iP 2, iP 1]⟩, .bool false, 6⟩, ⟨.agg ⟨[iP 3, iP 1]⟩, .bool true, 7⟩, ⟨.agg ⟨[iP 0, iP 2]⟩, .bool true, 8⟩, ⟨.agg ⟨[iP 1, iP 2]⟩, .bool true, 9⟩, ⟨.agg ⟨[iP 2, iP 2]⟩, .bool false, 10⟩, ⟨.agg ⟨[iP 3, iP 2]⟩, .bool true, 11⟩] 12),
    (9, .cells true 3 [iP 0, iP 1, iP 1, iP 2]),
    (10, .cells true 3 [iP 0, iP 0, iP 1, iP 1, iP 3, iP 1])],
   [],
   .bool false⟩
theorem fb147_h : fb147.holds EE := ent0 _ (by kernel_rfl) (by kernel_rfl)
-- (decani/founder.chest).isBetter, 1502 steps
noncomputable def fb151 : Ent :=
  ⟨47, [.agg ⟨[iP 4, iP 28, .slice (some ⟨3, 0, none⟩) 3 3, .slice (some ⟨4, 0, none⟩) 2 2, .bool false, .slice (some ⟨5, 0, none⟩) 1 1, .bool true, .slice (some ⟨6, 0, none⟩) 1 1, .slice (some ⟨7, 0, none⟩) 3 3, .map (some 8), iN 0]⟩, .slice (some ⟨9, 0, none⟩) 2 18446744073709551616, .slice (some ⟨10, 0, none⟩) 3 18446744073709551616], 11,
   gC ++ [(3, .cells true 0 [iP 1, iP 2, iP 2, iP 1, iP 1, iP 1, iP 2, iP 2, iP 1]),
    (4, .cells true 0 [iP 1, iP 2, iP 1, iP 1, iP 1, iP 2]),
    (5, .cells true 0 [iP 1, iP 2, iP 2]),
    (6, .cells true 0 [iP 0, iP 3, iP 2]),
    (7, .cells true 0 [iP 0, iN 0, iP 2, iP 10, iP 0, iP 1, iP 2, iP 6, iP 1, iP 1, iP 1, iP 4]),
    (8, .map [⟨.agg ⟨[iP 0, iP 0]⟩, .bool true, 0⟩, ⟨.agg ⟨[iP 1, iP 0]⟩, .bool false, 1⟩, ⟨.agg ⟨[iP 2, iP 0]⟩, .bool false, 2⟩, ⟨.agg ⟨[iP 3, iP 0]⟩, .bool false, 3⟩, ⟨.agg ⟨[iP 0, iP 1]⟩, .bool true, 4⟩, ⟨.agg ⟨[iP 1, iP 1]⟩, .bool true, 5⟩, ⟨.agg ⟨[iP 2, iP 1]⟩, .bool false, 6⟩, ⟨.agg ⟨[iP 3, iP 1]⟩, .bool true, 7⟩, ⟨.agg ⟨[iP 0, iP 2]⟩, .bool true, 8⟩, ⟨.agg ⟨[iP 1, iP 2]⟩, .bool true, 9⟩, ⟨.agg ⟨[iP 2, iP 2]⟩, .bool false, 10⟩, ⟨.agg ⟨[iP 3, iP 2]⟩, .bool true, 11⟩] 12),
    (9, .cells true 3 [iP 0, iP 2, iP 3, iP 1]),
    (10, .cells true 3 [iP 0, iP 0, iP 1, iP 1, iP 3, iP 1])],
   [],
   .bool false⟩
theorem fb151_h : fb151.holds EE := ent0 _ (by kernel_rfl) (by kernel_rfl)
-- (decani/founder.chest).isBetter, 1502 steps
noncomputable def fb155 : Ent :=
  ⟨47, [.agg ⟨[iP 4, iP 28, .slice (some ⟨3, 0, none⟩) 3 3, .slice (some ⟨4, 0, none⟩) 2 2, .bool false, .slice (some ⟨5, 0, none⟩) 1 1, .bool true, .slice (some ⟨6, 0, none⟩) 1 1, .slice (some ⟨7, 0, none⟩) 3 3, .map (some 8), iP 1]⟩, .slice (some ⟨9, 0, none⟩) 1 18446744073709551616, .slice (some ⟨10, 0, none⟩) 4 18446744073709551616], 11,
   gC ++ [(3, .cells true 0 [iP 1, iP 2, iP 2, iP 1, iP 1, iP 1, iP 2, iP 2, iP 1]),
    (4, .cells true 0 [iP 1, iP 2, iP 1, iP 1, iP 1, iP 2]),
    (5, .cells true 0 [iP 1, iP 2, iP 2]),
    (6, .cells true 0 [iP 0, iP 3, iP 2]),
    (7, .cells true 0 [iP 0, iN 0, iP 2, iP 10, iP 0, iP 1, iP 2, iP 6, iP 1, iP 1, iP 1, iP 4]),
    (8, .map [⟨.agg ⟨[iP 0, iP 0]⟩, .bool true, 0⟩, ⟨.agg ⟨[iP 1, iP 0]⟩, .bool false, 1⟩, ⟨.agg ⟨[iP 2, iP 0]⟩, .bool false, 2⟩, ⟨.agg ⟨[iP 3, iP 0]⟩, .bool false, 3⟩, ⟨.agg ⟨[iP 0, iP 1]⟩, .bool true, 4⟩, ⟨.agg ⟨[iP 1, iP 1]⟩, .bool true, 5⟩, ⟨.agg ⟨[iP 2, iP 1]⟩, .bool false, 6⟩, ⟨.agg ⟨[iP 3, iP 1]⟩, .bool true, 7⟩, ⟨.agg ⟨[iP 0, iP 2]⟩, .bool true, 8⟩, ⟨.agg ⟨[iP 1, iP 2]⟩, .bool true, 9⟩, ⟨.agg ⟨[iP 2, iP 2]⟩, .bool false, 10⟩, ⟨.agg ⟨[iP 3, iP 2]⟩, .bool true, 11⟩] 12),
    (9, .cells true 3 [iP 0, iP 2]),
    (10, .cells true 3 [iP 0, iP 0, iP 1, iP 1, iP 1, iP 2, iP 3, iP 1])],
   [],
   .bool false⟩
theorem fb155_h : fb155.holds EE := ent0 _ (by kernel_rfl) (by kernel_rfl)
-- (decani/founder.chest).isBetter, 1502 steps
noncomputable def fb159 : Ent :=
  ⟨47, [.agg ⟨[iP 4, iP 28, .slice (some ⟨3, 0, none⟩) 3 3, .slice (some ⟨4, 0, none⟩) 2 2, .bool false, .slice (some ⟨5, 0, none⟩) 1 1, .bool true, .slice (some ⟨6, 0, none⟩) 1 1, .slice (some ⟨7, 0, none⟩) 3 3, .map (some 8), iP 2]⟩, .slice (some ⟨9, 0, none⟩) 2 18446744073709551616, .slice (some ⟨10, 0, none⟩) 3 18446744073709551616], 11,
   gC ++ [(3, .cells true 0 [iP 1, iP 2, iP 2, iP 1, iP 1, iP 1, iP 2, iP 2, iP 1]),
    (4, .cells true 0 [iP 1, iP 2, iP 1, iP 1, iP 1, iP 2]),
    (5, .cells true 0 [iP 1, iP 2, iP 2]),
    (6, .cells true 0 [iP 0, iP 3, iP 2]),
    (7, .cells true 0 [iP 0, iN 0, iP 2, iP 10, iP 0, iP 1, iP 2, iP 6, iP 1, iP 1, iP 1, iP 4]),
    (8, .map [⟨.agg ⟨[iP 0, iP 0]⟩, .bool true, 0⟩, ⟨.agg ⟨[iP 1, iP 0]⟩, .bool false, 1⟩, ⟨.agg ⟨[iP 2, iP 0]⟩, .bool false, 2⟩, ⟨.agg ⟨[iP 3, iP 0]⟩, .bool false, 3⟩, ⟨.agg ⟨[iP 0, iP 1]⟩, .bool true, 4⟩, ⟨.agg ⟨[iP 1, iP 1]⟩, .bool true, 5⟩, ⟨.agg ⟨[iP 2, iP 1]⟩, .bool false, 6⟩, ⟨.agg ⟨[iP 3, iP 1]⟩, .bool true, 7⟩, ⟨.agg ⟨[iP 0, iP 2]⟩, .bool true, 8⟩, ⟨.agg ⟨[iP 1, iP 2]⟩, .bool true, 9⟩, ⟨.agg ⟨[iP 2, iP 2]⟩, .bool false, 10⟩, ⟨.agg ⟨[iP 3, iP 2]⟩, .bool true, 11⟩] 12),
    (9, .cells true 3 [iP 0, iP 1, iP 3, iP 2]),
    (10, .cells true 3 [iP 0, iP 0, iP 1, iP 1, iP 3, iP 1])],
   [],
   .bool false⟩
theorem fb159_h : fb159.holds EE := ent0 _ (by kernel_rfl) (by kernel_rfl)
-- (decani/founder.chest).isBetter, 1502 steps
noncomputable def fb163 : Ent :=
  ⟨47, [.agg ⟨[iP 4, iP 28, .slice (some ⟨3, 0, none⟩) 3 3, .slice (some ⟨4, 0, none⟩) 2 2, .bool false, .slice (some ⟨5, 0, none⟩) 1 1, .bool true, .slice (some ⟨6, 0, none⟩) 1 1, .slice (some ⟨7, 0, none⟩) 3 3, .map (some 8), iP 3]⟩, .slice (some ⟨9, 0, none⟩) 1 18446744073709551616, .slice (some ⟨10, 0, none⟩) 4 18446744073709551616], 11,
   gC ++ [(3, .cells true 0 [iP 1, iP 2, iP 2, iP 1, iP 1, iP 1, iP 2, iP 2, iP 1]),
    (4, .cells true 0 [iP 1, iP 2, iP 1, iP 1, iP 1, iP 2]),
    (5, .cells true 0 [iP 1, iP 2, iP 2]),
    (6, .cells true 0 [iP 0, iP 3, iP 2]),
    (7, .cells true 0 [iP 0, iN 0, iP 2, iP 10, iP 0, iP 1, iP 2, iP 6, iP 1, iP 1, iP 1, iP 4]),
    (8, .map [⟨.agg ⟨[iP 0, iP 0]⟩, .bool true, 0⟩, ⟨.agg ⟨[iP 1, iP 0]⟩, .bool false, 1⟩, ⟨.agg ⟨[iP 2, iP 0]⟩, .bool false, 2⟩, ⟨.agg ⟨[iP 3, iP 0]⟩, .bool false, 3⟩, ⟨.agg ⟨[iP 0, iP 1]⟩, .bool true, 4⟩, ⟨.agg ⟨[iP 1, iP 1]⟩, .bool true, 5⟩, ⟨.agg ⟨[iP 2, iP 1]⟩, .bool false, 6⟩, ⟨.agg ⟨[iP 3, iP 1]⟩, .bool true, 7⟩, ⟨.agg ⟨[iP 0, iP 2]⟩, .bool true, 8⟩, ⟨.agg ⟨[iP 1, iP 2]⟩, .bool true, 9⟩, ⟨.agg ⟨[iP 2, iP 2]⟩, .bool false, 10⟩, ⟨.agg ⟨[iP 3, iP 2]⟩, .bool true, 11⟩] 12),
    (9, .cells true 3 [iP 0, iP 2]),
    (10, .cells true 3 [iP 0, iP 0, iP 1, iP 1, iP 3, iP 1, iP 3, iP 2])],
   [],
   .bool false⟩
theorem fb163_h : fb163.holds EE := ent0 _ (by kernel_rfl) (by kernel_rfl)
-- (decani/founder.chest).isBetter, 1502 steps
noncomputable def fb167 : Ent :=
  ⟨47, [.agg ⟨[iP 4, iP 28, .slice (some ⟨3, 0, none⟩) 3 3, .slice (some ⟨4, 0, none⟩) 2 2, .bool false, .slice (some ⟨5, 0, none⟩) 1 1, .bool true, .slice none 0 0, .slice (some ⟨6, 0, none⟩) 3 3, .map (some 7), iP 0]⟩, .slice (some ⟨8, 0, none⟩) 2 18446744073709551616, .slice (some ⟨9, 0, none⟩) 3 18446744073709551616], 10,
   gC ++ [(3, .cells true 0 [iP 1, iP 2, iP 2, iP 1, iP 1, iP 1, iP 2, iP 2, iP 1]),
    (4, .cells true 0 [iP 1, iP 2, iP 1, iP 1, iP 1, iP 2]),
    (5, .cells true 0 [iP 1, iP 2, iP 2]),
    (6, .cells true 0 [iP 0, iN 0, iP 2, iP 10, iP 0, iP 1, iP 2, iP 6, iP 1, iP 1, iP 1, iP 4]),
    (7, .map [⟨.agg ⟨[iP 0, iP 0]⟩, .bool true, 0⟩, ⟨.agg ⟨[iP 1, iP 0]⟩, .bool false, 1⟩, ⟨.agg ⟨[iP 2, iP 0]⟩, .bool false, 2⟩, ⟨.agg ⟨[iP 3, iP 0]⟩, .bool false, 3⟩, ⟨.agg ⟨[iP 0, iP 1]⟩, .bool true, 4⟩, ⟨.agg ⟨[iP 1, iP 1]⟩, .bool false, 5⟩, ⟨.agg ⟨[iP 2, iP 1]⟩, .bool false, 6⟩, ⟨.agg ⟨[iP 3, iP 1]⟩, .bool true, 7⟩, ⟨.agg ⟨[iP 0, iP 2]⟩, .bool true, 8⟩, ⟨.agg ⟨[iP 1, iP 2]⟩, .bool false, 9⟩, ⟨.agg ⟨[iP 2, iP 2]⟩, .bool false, 10⟩, ⟨.agg ⟨[iP 3, iP 2]⟩, .bool true, 11⟩] 12),
    (8, .cells true 3 [iP 0, iP 2, iP 3, iP 1]),
    (9, .cells true 3 [iP 0, iP 0, iP 0, iP 1, iP 3, iP 1])],
   [],
   .bool false⟩
theorem fb167_h : fb167.holds EE := ent0 _ (by kernel_rfl) (by kernel_rfl)
-- (decani/founder.chest).isBetter, 1478 steps
noncomputable def fb171 : Ent :=
  ⟨47, [.agg ⟨[iP 4, iP 28, .slice (some ⟨3, 0, none⟩) 3 3, .slice (some ⟨4, 0, none⟩) 2 2, .bool false, .slice (some ⟨5, 0, none⟩) 1 1, .bool true, .slice none 0 0, .slice (some ⟨6, 0, none⟩) 3 3, .map (some 7), iN 0]⟩, .slice (some ⟨8, 0, none⟩) 1 18446744073709551616, .slice (some ⟨9, 0, none⟩) 2 18446744073709551616], 10,
   gC ++ [(3, .cells true 0 [iP 1, iP 2, iP 2, iP 1, iP 1, iP 1, iP 2, iP 2, iP 1]),
    (4, .cells true 0 [iP 1, iP 2, iP 1, iP 1, iP 1, iP 2]),
    (5, .cells true 0 [iP 1, iP 2, iP 2]),
    (6, .cells true 0 [iP 0, iN 0, iP 2, iP 10, iP 0, iP 1, iP 2, iP 6, iP 1, iP 1, iP 1, iP 4]),
    (7, .map [⟨.agg ⟨[iP 0, iP 0]⟩, .bool true, 0⟩, ⟨.agg ⟨[iP 1, iP 0]⟩, .bool false, 1⟩, ⟨.agg ⟨[iP 2, iP 0]⟩, .bool false, 2⟩, ⟨.agg ⟨[iP 3, iP 0]⟩, .bool false, 3⟩, ⟨.agg ⟨[iP 0, iP 1]⟩, .bool true, 4⟩, ⟨.agg ⟨[iP 1, iP 1]⟩, .bool false, 5⟩, ⟨.agg ⟨[iP 2, iP 1]⟩, .bool false, 6⟩, ⟨.agg ⟨[iP 3, iP 1]⟩, .bool true, 7⟩, ⟨.agg ⟨[iP 0, iP 2]⟩, .bool true, 8⟩, ⟨.agg ⟨[iP 1, iP 2]⟩, .bool false, 9⟩, ⟨.agg ⟨[iP 2, iP 2]⟩, .bool false, 10⟩, ⟨.agg ⟨[iP 3, iP 2]⟩, .bool true, 11⟩] 12),
    (8, .cells true 3 [iP 0, iP 0]),
    (9, .cells true 3 [iP 0, iP 0, iP 3, iP 1])],
   [],
   .bool false⟩
theorem fb171_h : fb171.holds EE := ent0 _ (by kernel_rfl) (by kernel_rfl)
-- (decani/founder.chest).isBetter, 1473 steps
noncomputable def fb174 : Ent :=
  ⟨47, [.agg ⟨[iP 4, iP 28, .slice (some ⟨3, 0, none⟩) 3 3, .slice (some ⟨4, 0, none⟩) 2 2, .bool false, .slice (some ⟨5, 0, none⟩) 1 1, .bool true, .slice (some ⟨6, 0, none⟩) 1 1, .slice (some ⟨7, 0, none⟩) 3 3, .map (some 8), iN 0]⟩, .slice (some ⟨9, 0, none⟩) 2 18446744073709551616, .slice (some ⟨10, 0, none⟩) 3 18446744073709551616], 11,
   gC ++ [(3, .cells true 0 [iP 1, iP 2, iP 2, iP 1, iP 1, iP 1, iP 2, iP 2, iP 1]),
    (4, .cells true 0 [iP 1, iP 2, iP 1, iP 1, iP 1, iP 2]),
    (5, .cells true 0 [iP 1, iP 2, iP 2]),
    (6, .cells true 0 [iP 0, iP 3, iP 2]),
    (7, .cells true 0 [iP 0, iN 0, iP 2, iP 10, iP 0, iP 1, iP 2, iP 6, iP 1, iP 1, iP 1, iP 4]),
    (8, .map [⟨.agg ⟨[iP 0, iP 0]⟩, .bool true, 0⟩, ⟨.agg ⟨[iP 1, iP 0]⟩, .bool false, 1⟩, ⟨.agg ⟨[iP 2, iP 0]⟩, .bool false, 2⟩, ⟨.agg ⟨[iP 3, iP 0]⟩, .bool false, 3⟩, ⟨.agg ⟨[iP 0, iP 1]⟩, .bool true, 4⟩, ⟨.agg ⟨[iP 1, iP 1]⟩, .bool true, 5⟩, ⟨.agg ⟨[iP 2, iP 1]⟩, .bool false, 6⟩, ⟨.agg ⟨[iP 3, iP 1]⟩, .bool true, 7⟩, ⟨.agg ⟨[iP 0, iP 2]⟩, .bool true, 8⟩, ⟨.agg ⟨[iP 1, iP 2]⟩, .bool true, 9⟩, ⟨.agg ⟨[iP 2, iP 2]⟩, .bool false, 10⟩, ⟨.agg ⟨[iP 3, iP 2]⟩, .bool true, 11⟩] 12),
    (9, .cells true 3 [iP 1, iP 1, iP 3, iP 1]),
    (10, .cells true 3 [iP 0, iP 0, iP 1, iP 1, iP 3, iP 1])],
   [],
   .bool false⟩
theorem fb174_h : fb174.holds EE := ent0 _ (by kernel_rfl) (by kernel_rfl)
-- (decani/founder.chest).isBetter, 1473 steps
noncomputable def fb178 : Ent :=
  ⟨47, [.agg ⟨[iP 4, iP 28, .slice (some ⟨3, 0, none⟩) 3 3, .slice (some ⟨4, 0, none⟩) 2 2, .bool false, .slice (some ⟨5, 0, none⟩) 1 1, .bool true, .slice (some ⟨6, 0, none⟩) 1 1, .slice (some ⟨7, 0, none⟩) 3 3, .map (some 8), iP 0]⟩, .slice (some ⟨9, 0, none⟩) 1 18446744073709551616, .slice (some ⟨10, 0, none⟩) 4 18446744073709551616], 11,
   gC ++ [(3, .cells true 0 [iP 1, iP 2, iP 2, iP 1, iP 1, iP 1, iP 2, iP 2, iP 1]),
    (4, .cells true 0 [iP 1, iP 2, iP 1, iP 1, iP 1, iP 2]),
    (5, .cells true 0 [iP 1, iP 2, iP 2]),
    (6, .cells true 0 [iP 0, iP 3, iP 2]),
    (7, .cells true 0 [iP 0, iN 0, iP 2, iP 10, iP 0, iP 1, iP 2, iP 6, iP 1, iP 1, iP 1, iP 4]),
    (8, .map [⟨.agg ⟨[iP 0, iP 0]⟩, .bool true, 0⟩, ⟨.agg ⟨[iP 1, iP 0]⟩, .bool false, 1⟩, ⟨.agg ⟨[iP 2, iP 0]⟩, .bool false, 2⟩, ⟨.agg ⟨[iP 3, iP 0]⟩, .bool false, 3⟩, ⟨.agg ⟨[iP 0, iP 1]⟩, .bool true, 4⟩, ⟨.agg ⟨[iP 1, iP 1]⟩, .bool true, 5⟩, ⟨.agg ⟨[iP 2, iP 1]⟩, .bool false, 6⟩, ⟨.agg ⟨[iP 3, iP 1]⟩, .bool true, 7⟩, ⟨.agg ⟨[iP 0, iP 2]⟩, .bool true, 8⟩, ⟨.agg ⟨[iP 1, iP 2]⟩, .bool true, 9⟩, ⟨.agg ⟨[iP 2, iP 2]⟩, .bool false, 10⟩, ⟨.agg ⟨[iP 3, iP 2]⟩, .bool true, 11⟩] 12),
    (9, .cells true 3 [iP 1, iP 2]),
    (10, .cells true 3 [iP 0, iP 0, iP 0, iP 1, iP 1, iP 1, iP 3, iP 2])],
   [],
   .bool false⟩
theorem fb178_h : fb178.holds EE := ent0 _ (by kernel_rfl) (by kernel_rfl)
-- (decani/founder.chest).isBetter, 1473 steps
noncomputable def fb182 : Ent :=
  ⟨47, [.agg ⟨[iP 4, iP 28, .slice (some ⟨3, 0, none⟩) 3 3, .slice (some ⟨4, 0, none⟩) 2 2, .bool false, .slice (some ⟨5, 0, none⟩) 1 1, .bool true, .slice (some ⟨6, 0, none⟩) 1 1, .slice (some ⟨7, 0, none⟩) 3 3, .map (some 8), iP 1]⟩, .slice (some ⟨9, 0, none⟩) 1 18446744073709551616, .slice (some ⟨10, 0, none⟩) 4 18446744073709551616], 11,
   gC ++ [(3, .cells true 0 [iP 1, iP 2, iP 2, iP 1, iP 1, iP 1, iP 2, iP 2, iP 1]),
    (4, .cells true 0 [iP 1, iP 2, iP 1, iP 1, iP 1, iP 2]),
    (5, .cells true 0 [iP 1, iP 2, iP 2]),
    (6, .cells true 0 [iP 0, iP 3, iP 2]),
    (7, .cells true 0 [iP 0, iN 0, iP 2, iP 10, iP 0, iP 1, iP 2, iP 6, iP 1, iP 1, iP 1, iP 4]),
    (8, .map [⟨.agg ⟨[iP 0, iP 0]⟩, .bool true, 0⟩, ⟨.agg ⟨[iP 1, iP 0]⟩, .bool false, 1⟩, ⟨.agg ⟨[iP 2, iP 0]⟩, .bool false, 2⟩, ⟨.agg ⟨[iP 3, iP 0]⟩, .bool false, 3⟩, ⟨.agg ⟨[iP 0, iP 1]⟩, .bool true, 4⟩, ⟨.agg ⟨[iP 1, iP 1]⟩, .bool true, 5⟩, ⟨.agg ⟨[iP 2, iP 1]⟩, .bool false, 6⟩, ⟨.agg ⟨[iP 3, iP 1]⟩, .bool true, 7⟩, ⟨.agg ⟨[iP 0, iP 2]⟩, .bool true, 8⟩, ⟨.agg ⟨[iP 1, iP 2]⟩, .bool true, 9⟩, ⟨.agg ⟨[iP 2, iP 2]⟩, .bool false, 10⟩, ⟨.agg ⟨[iP 3, iP 2]⟩, .bool true, 11⟩] 12),
    (9, .cells true 3 [iP 1, iP 2]),
    (10, .cells true 3 [iP 0, iP 0, iP 1, iP 1, iP 1, iP 2, iP 3, iP 1])],
   [],
   .bool false⟩
theorem fb182_h : fb182.holds EE := ent0 _ (by kernel_rfl) (by kernel_rfl)
-- (decani/founder.chest).isBetter, 1473 steps
noncomputable def fb186 : Ent :=
  ⟨47, [.agg ⟨[iP 4, iP 28, .slice (some ⟨3, 0, none⟩) 3 3, .slice (some ⟨4, 0, none⟩) 2 2, .bool false, .slice (some ⟨5, 0, none⟩) 1 1, .bool true, .slice (some ⟨6, 0, none⟩) 1 1, .slice (some ⟨7, 0, none⟩) 3 3, .map (some 8), iP 2]⟩, .slice (some ⟨9, 0, none⟩) 2 18446744073709551616, .slice (some ⟨10, 0, none⟩) 3 18446744073709551616], 11,
   gC ++ [(3, .cells true 0 [iP 1, iP 2, iP 2, iP 1, iP 1, iP 1, iP 2, iP 2, iP 1]),
    (4, .cells true 0 [iP 1, iP 2, iP 1, iP 1, iP 1, iP 2]),
    (5, .cells true 0 [iP 1, iP 2, iP 2]),
    (6, .cells true 0 [iP 0, iP 3, iP 2]),
    (7, .cells true 0 [iP 0, iN 0, iP 2, iP 10, iP 0, iP 1, iP 2, iP 6, iP 1, iP 1, iP 1, iP 4]),
    (8, .map [⟨.agg ⟨[iP 0, iP 0]⟩, .bool true, 0⟩, ⟨.agg ⟨[iP 1, iP 0]⟩, .bool false, 1⟩, ⟨.agg ⟨[iP 2, iP 0]⟩, .bool false, 2⟩, ⟨.agg ⟨[iP 3, iP 0]⟩, .bool false, 3⟩, ⟨.agg ⟨[iP 0, iP 1]⟩, .bool true, 4⟩, ⟨.agg ⟨[iP 1, iP 1]⟩, .bool true, 5⟩, ⟨.agg ⟨[iP 2, iP 1]⟩, .bool false, 6⟩, ⟨.agg ⟨[iP 3, iP 1]⟩, .bool true, 7⟩, ⟨.agg ⟨[iP 0, iP 2]⟩, .bool true, 8⟩, ⟨.agg ⟨[iP 1, iP 2]⟩, .bool true, 9⟩, ⟨.agg ⟨[iP 2, iP 2]⟩, .bool false, 10⟩, ⟨.agg ⟨[iP 3, iP 2]⟩, .bool true, 11⟩] 12),
    (9, .cells true 3 [iP 1, iP 1, iP 3, iP 2]),
    (10, .cells true 3 [iP 0, iP 0, iP 1, iP 1, iP 3, iP 1])],
   [],
   .bool false⟩
theorem fb186_h : fb186.holds EE := ent0 _ (by kernel_rfl) (by kernel_rfl)
-- (decani/founder.chest).isBetter, 1473 steps
noncomputable def fb190 : Ent :=
  ⟨47, [.agg ⟨[iP 4, iP 28, .slice (some ⟨3, 0, none⟩) 3 3, .slice (some ⟨4, 0, none⟩) 2 2, .bool false, .slice (some ⟨5, 0, none⟩) 1 1, .bool true, .slice (some ⟨6, 0, none⟩) 1 1, .slice (some ⟨7, 0, none⟩) 3 3, .map (some 8), iP 3]⟩, .slice (some ⟨9, 0, none⟩) 1 18446744073709551616, .slice (some ⟨10, 0, none⟩) 4 18446744073709551616], 11,
   gC ++ [(3, .cells true 0 [iP 1, iP 2, iP 2, iP 1, iP 1, iP 1, iP 2, iP 2, iP 1]),
    (4, .cells true 0 [iP 1, iP 2, iP 1, iP 1, iP 1, iP 2]),
    (5, .cells true 0 [iP 1, iP 2, iP 2]),
    (6, .cells true 0 [iP 0, iP 3, iP 2]),
    (7, .cells true 0 [iP 0, iN 0, iP 2, iP 10, iP 0, iP 1, iP 2, iP 6, iP 1, iP 1, iP 1, iP 4]),
    (8, .map [⟨.agg ⟨[iP 0, iP 0]⟩, .bool true, 0⟩, ⟨.agg ⟨[iP 1, iP 0]⟩, .bool false, 1⟩, ⟨.agg ⟨[iP 2, iP 0]⟩, .bool false, 2⟩, ⟨.agg ⟨[iP 3, iP 0]⟩, .bool false, 3⟩, ⟨.agg ⟨[iP 0, iP 1]⟩, .bool true, 4⟩, ⟨.agg ⟨[iP 1, iP 1]⟩, .bool true, 5⟩, ⟨.agg ⟨[iP 2, iP 1]⟩, .bool false, 6⟩, ⟨.agg ⟨[iP 3, iP 1]⟩, .bool true, 7⟩, ⟨.agg ⟨[iP 0, iP 2]⟩, .bool true, 8⟩, ⟨.agg ⟨[iP 1, iP 2]⟩, .bool true, 9⟩, ⟨.agg ⟨[iP 2, iP 2]⟩, .bool false, 10⟩, ⟨.agg ⟨[iP 3, iP 2]⟩, .bool true, 11⟩] 12),
    (9, .cells true 3 [iP 3, iP 1]),
    (10, .cells true 3 [iP 0, iP 0, iP 1, iP 1, iP 3, iP 1, iP 3, iP 2])],
   [],
   .bool false⟩
theorem fb190_h : fb190.holds EE := ent0 _ (by kernel_rfl) (by kernel_rfl)
-- (decani/founder.chest).isBetter, 1472 steps
noncomputable def fb194 : Ent :=
  ⟨47, [.agg ⟨[iP 4, iP 28, .slice (some ⟨3, 0, none⟩) 3 3, .slice (some ⟨4, 0, none⟩) 2 2, .bool false, .slice (some ⟨5, 0, none⟩) 1 1, .bool true, .slice none 0 0, .slice (some ⟨6, 0, none⟩) 3 3, .map (some 7), iN 0]⟩, .slice (some ⟨8, 0, none⟩) 2 18446744073709551616, .slice (some ⟨9, 0, none⟩) 2 18446744073709551616], 10,
   gC ++ [(3, .cells true 0 [iP 1, iP 2, iP 2, iP 1, iP 1, iP 1, iP 2, iP 2, iP 1]),
    (4, .cells true 0 [iP 1, iP 2, iP 1, iP 1, iP 1, iP 2]),
    (5, .cells true 0 [iP 1, iP 2, iP 2]),
    (6, .cells true 0 [iP 0, iN 0, iP 2, iP 10, iP 0, iP 1, iP 2, iP 6, iP 1, iP 1, iP 1, iP 4]),
    (7, .map [⟨.agg ⟨[iP 0, iP 0]⟩, .bool true, 0⟩, ⟨.agg ⟨[iP 1, iP 0]⟩, .bool false, 1⟩, ⟨.agg ⟨[iP 2, iP 0]⟩, .bool false, 2⟩, ⟨.agg ⟨[iP 3, iP 0]⟩, .bool false, 3⟩, ⟨.agg ⟨[iP 0, iP 1]⟩, .bool true, 4⟩, ⟨.agg ⟨[iP 1, iP 1]⟩, .bool false, 5⟩, ⟨.agg ⟨[iP 2, iP 1]⟩, .bool false, 6⟩, ⟨.agg ⟨[iP 3, iP 1]⟩, .bool true, 7⟩, ⟨.agg ⟨[iP 0, iP 2]⟩, .bool true, 8⟩, ⟨.agg ⟨[iP 1, iP 2]⟩, .bool false, 9⟩, ⟨.agg ⟨[iP 2, iP 2]⟩, .bool false, 10⟩, ⟨.agg ⟨[iP 3, iP 2]⟩, .bool true, 11⟩] 12),
    (8, .cells true 3 [iP 0, iP 1, iP 3, iP 2]),
    (9, .cells true 3 [iP 0, iP 0, iP 3, iP 1])],
   [],
   .bool false⟩
theorem fb194_h : fb194.holds EE := ent0 _ (by kernel_rfl) (by kernel_rfl)
-- (decani/founder.chest).isBetter, 1472 steps
noncomputable def fb198 : Ent :=
  ⟨47, [.agg ⟨[iP 4, iP 28, .slice (some ⟨3, 0, none⟩) 3 3, .slice (some ⟨4, 0, none⟩) 2 2, .bool false, .slice (some ⟨5, 0, none⟩) 1 1, .bool true, .slice (some ⟨6, 0, none⟩) 1 1, .slice (some ⟨7, 0, none⟩) 3 3, .map (some 8), iP 2]⟩, .slice (some ⟨9, 0, none⟩) 1 18446744073709551616, .slice (some ⟨10, 0, none⟩) 3 18446744073709551616], 11,
   gC ++ [(3, .cells true 0 [iP 1, iP 2, iP 2, iP 1, iP 1, iP 1, iP 2, iP 2, iP 1]),
    (4, .cells true 0 [iP 1, iP 2, iP 1, iP 1, iP 1, iP 2]),
    (5, .cells true 0 [iP 1, iP 2, iP 2]),
    (6, .cells true 0 [iP 0, iP 3, iP 2]),
    (7, .cells true 0 [iP 0, iN 0, iP 2, iP 10, iP 0, iP 1, iP 2, iP 6, iP 1, iP 1, iP 1, iP 4]),
    (8, .map [⟨.agg ⟨[iP 0, iP 0]⟩, .bool true, 0⟩, ⟨.agg ⟨[iP 1, iP 0]⟩, .bool false, 1⟩, ⟨.agg ⟨[iP 2, iP 0]⟩, .bool false, 2⟩, ⟨.agg ⟨[iP 3, iP 0]⟩, .bool false, 3⟩, ⟨.agg ⟨[iP 0, iP 1]⟩, .bool true, 4⟩, ⟨.agg ⟨[iP 1, iP 1]⟩, .bool true, 5⟩, ⟨.agg ⟨[iP 2, iP 1]⟩, .bool false, 6⟩, ⟨.agg ⟨[iP 3, iP 1]⟩, .bool true, 7⟩, ⟨.agg ⟨[iP 0, iP 2]⟩, .bool true, 8⟩, ⟨.agg ⟨[iP 1, iP 2]⟩, .bool true, 9⟩, ⟨.agg ⟨[iP 2, iP 2]⟩, .bool false, 10⟩, ⟨.agg ⟨[iP 3, iP 2]⟩, .bool true, 11⟩] 12),
    (9, .cells true 3 [iP 0, iP 1]),
    (10, .cells true 3 [iP 0, iP 0, iP 1, iP 1, iP 3, iP 1])],
   [],
   .bool false⟩
theorem fb198_h : fb198.holds EE := ent0 _ (by kernel_rfl) (by kernel_rfl)
-- (decani/founder.chest).isBetter, 1472 steps
noncomputable def fb202 : Ent :=
  ⟨47, [.agg ⟨[iP 4, iP 28, .slice (some ⟨3, 0, none⟩) 3 3, .slice (some ⟨4, 0, none⟩) 2 2, .bool false, .slice (some ⟨5, 0, none⟩) 1 1, .bool true, .slice none 0 0, .slice (some ⟨6, 0, none⟩) 3 3, .map (some 7), iP 1]⟩, .slice (some ⟨8, 0, none⟩) 2 18446744073709551616, .slice (some ⟨9, 0, none⟩) 2 18446744073709551616], 10,
   gC ++ [(3, .cells true 0 [iP 1, iP 2, iP 2, iP 1, iP 1, iP 1, iP 2, iP 2, iP 1]),
    (4, .cells true 0 [iP 1, iP 2, iP 1, iP 1, iP 1, iP 2]),
    (5, .cells true 0 [iP 1, iP 2, iP 2]),
    (6, .cells true 0 [iP 0, iN 0, iP 2, iP 10, iP 0, iP 1, iP 2, iP 6, iP 1, iP 1, iP 1, iP 4]),
    (7, .map [⟨.agg ⟨[iP 0, iP 0]⟩, .bool true, 0⟩, ⟨.agg ⟨[iP 1, iP 0]⟩, .bool false, 1⟩, ⟨.agg ⟨[iP 2, iP 0]⟩, .bool false, 2⟩, ⟨.agg ⟨[iP 3, iP 0]⟩, .bool false, 3⟩, ⟨.agg ⟨[iP 0, iP 1]⟩, .bool true, 4⟩, ⟨.agg ⟨[iP 1, iP 1]⟩, .bool false, 5⟩, ⟨.agg ⟨[iP 2, iP 1]⟩, .bool false, 6⟩, ⟨.agg ⟨[iP 3, iP 1]⟩, .bool true, 7⟩, ⟨.agg ⟨[iP 0, iP 2]⟩, .bool true, 8⟩, ⟨.agg ⟨[iP 1, iP 2]⟩, .bool false, 9⟩, ⟨.agg ⟨[iP 2, iP 2]⟩, .bool false, 10⟩, ⟨.agg ⟨[iP 3, iP 2]⟩, .bool true, 11⟩] 12),
    (8, .cells true 3 [iP 0, iP 1, iP 3, iP 1]),
    (9, .cells true 3 [iP 0, iP 0, iP 3, iP 1])],
   [],
   .bool false⟩
theorem fb202_h : fb202.holds EE := ent0 _ (by kernel_rfl) (by kernel_rfl)
-- (decani/founder.chest).isBetter, 1472 steps
noncomputable def fb206 : Ent :=
  ⟨47, [.agg ⟨[iP 4, iP 28, .slice (some ⟨3, 0, none⟩) 3 3, .slice (some ⟨4, 0, none⟩) 2 2, .bool false, .slice (some ⟨5, 0, none⟩) 1 1, .bool true, .slice none 0 0, .slice (some ⟨6, 0, none⟩) 3 3, .map (some 7), iP 2]⟩, .slice (some ⟨8, 0, none⟩) 2 18446744073709551616, .slice (some ⟨9, 0, none⟩) 2 18446744073709551616], 10,
   gC ++ [(3, .cells true 0 [iP 1, iP 2, iP 2, iP 1, iP 1, iP 1, iP 2, iP 2, iP 1]),
    (4, .cells true 0 [iP 1, iP 2, iP 1, iP 1, iP 1, iP 2]),
    (5, .cells true 0 [iP 1, iP 2, iP 2]),
    (6, .cells true 0 [iP 0, iN 0, iP 2, iP 10, iP 0, iP 1, iP 2, iP 6, iP 1, iP 1, iP 1, iP 4]),
    (7, .map [⟨.agg ⟨[iP 0, iP 0]⟩, .bool true, 0⟩, ⟨.agg ⟨[iP 1, iP 0]⟩, .bool false, 1⟩, ⟨.agg ⟨[iP 2, iP 0]⟩, .bool false, 2⟩, ⟨.agg ⟨[iP 3, iP 0]⟩, .bool false, 3⟩, ⟨.agg ⟨[iP 0, iP 1]⟩, .bool true, 4⟩, ⟨.agg ⟨[iP 1, iP 1]⟩, .bool false, 5⟩, ⟨.agg ⟨[iP 2, iP 1]⟩, .bool false, 6⟩, ⟨.agg ⟨[iP 3, iP 1]⟩, .bool true, 7⟩, ⟨.agg ⟨[iP 0, iP 2]⟩, .bool true, 8⟩, ⟨.agg ⟨[iP 1, iP 2]⟩, .bool false, 9⟩, ⟨.agg ⟨[iP 2, iP 2]⟩, .bool false, 10⟩, ⟨.agg ⟨[iP 3, iP 2]⟩, .bool true, 11⟩] 12),
    (8, .cells true 3 [iP 0, iP 1, iP 3, iP 2]),
    (9, .cells true 3 [iP 0, iP 0, iP 3, iP 1])],
   [],
   .bool false⟩
theorem fb206_h : fb206.holds EE := ent0 _ (by kernel_rfl) (by kernel_rfl)
-- (decani/founder.chest).isBetter, 1443 steps
noncomputable def fb210 : Ent :=
  ⟨47, [.agg ⟨[iP 4, iP 28, .slice (some ⟨3, 0, none⟩) 3 3, .slice (some ⟨4, 0, none⟩) 2 2, .bool false, .slice (some ⟨5, 0, none⟩) 1 1, .bool true, .slice (some ⟨6, 0, none⟩) 1 1, .slice (some ⟨7, 0, none⟩) 3 3, .map (some 8), iN 0]⟩, .slice (some ⟨9, 0, none⟩) 1 18446744073709551616, .slice (some ⟨10, 0, none⟩) 3 18446744073709551616], 11,
   gC ++ [(3, .cells true 0 [iP 1, iP 2, iP 2, iP 1, iP 1, iP 1, iP 2, iP 2, iP 1]),
    (4, .cells true 0 [iP 1, iP 2, iP 1, iP 1, iP 1, iP 2]),
    (5, .cells true 0 [iP 1, iP 2, iP 2]),
    (6, .cells true 0 [iP 0, iP 3, iP 2]),
    (7, .cells true 0 [iP 0, iN 0, iP 2, iP 10, iP 0, iP 1, iP 2, iP 6, iP 1, iP 1, iP 1, iP 4]),
    (8, .map [⟨.agg ⟨[iP 0, iP 0]⟩, .bool true, 0⟩, ⟨.agg ⟨[iP 1, iP 0]⟩, .bool false, 1⟩, ⟨.agg ⟨[iP 2, iP 0]⟩, .bool false, 2⟩, ⟨.agg ⟨[iP 3, iP 0]⟩, .bool false, 3⟩, ⟨.agg ⟨[iP 0, iP 1]⟩, .bool true, 4⟩, ⟨.agg ⟨[iP 1, iP 1]⟩, .bool true, 5⟩, ⟨.agg ⟨[iP 2, iP 1]⟩, .bool false, 6⟩, ⟨.agg ⟨[iP 3, iP 1]⟩, .bool true, 7⟩, ⟨.agg ⟨[iP 0, iP 2]⟩, .bool true, 8⟩, ⟨.agg ⟨[iP 1, iP 2]⟩, .bool true, 9⟩, ⟨.agg ⟨[iP 2, iP 2]⟩, .bool false, 10⟩, ⟨.agg ⟨[iP 3, iP 2]⟩, .bool true, 11⟩] 12),
    (9, .cells true 3 [iP 1, iP 1]),
    (10, .cells true 3 [iP 0, iP 0, iP 1, iP 1, iP 3, iP 1])],
   [],
   .bool false⟩
theorem fb210_h : fb210.holds EE := ent0 _ (by kernel_rfl) (by kernel_rfl)
-- (decani/founder.chest).isBetter, 1443 steps
noncomputable def fb214 : Ent :=
  ⟨47, [.agg ⟨[iP 4, iP 28, .slice (some ⟨3, 0, none⟩) 3 3, .slice (some ⟨4, 0, none⟩) 2 2, .bool false, .slice (some ⟨5, 0, none⟩) 1 1, .bool true, .slice (some ⟨6, 0, none⟩) 1 1, .slice (some ⟨7, 0, none⟩) 3 3, .map (some 8), iP 2]⟩, .slice (some ⟨9, 0, none⟩) 1 18446744073709551616, .slice (some ⟨10, 0, none⟩) 3 18446744073709551616], 11,
   gC ++ [(3, .cells true 0 [iP 1, iP 2, iP 2, iP 1, iP 1, iP 1, iP 2, iP 2, iP 1]),
    (4, .cells true 0 [iP 1, iP 2, iP 1, iP 1, iP 1, iP 2]),
    (5, .cells true 0 [iP 1, iP 2, iP 2]),
    (6, .cells true 0 [iP 0, iP 3, iP 2]),
    (7, .cells true 0 [iP 0, iN 0, iP 2, iP 10, iP 0, iP 1, iP 2, iP 6, iP 1, iP 1, iP 1, iP 4]),
    (8, .map [⟨.agg ⟨[iP 0, iP 0]⟩, .bool true, 0⟩, ⟨.agg ⟨[iP 1, iP 0]⟩, .bool false, 1⟩, ⟨.agg ⟨[iP 2, iP 0]⟩, .bool false, 2⟩, ⟨.agg ⟨[iP 3, iP 0]⟩, .bool false, 3⟩, ⟨.agg ⟨[iP 0, iP 1]⟩, .bool true, 4⟩, ⟨.agg ⟨[iP 1, iP 1]⟩, .bool true, 5⟩, ⟨.agg ⟨[iP 2, iP 1]⟩, .bool false, 6⟩, ⟨.agg ⟨[iP 3, iP 1]⟩, .bool true, 7⟩, ⟨.agg ⟨[iP 0, iP 2]⟩, .bool true, 8⟩, ⟨.agg ⟨[iP 1, iP 2]⟩, .bool true, 9⟩, ⟨.agg ⟨[iP 2, iP 2]⟩, .bool false, 10⟩, ⟨.agg ⟨[iP 3, iP 2]⟩, .bool true, 11⟩] 12),
    (9, .cells true 3 [iP 1, iP 1]),
    (10, .cells true 3 [iP 0, iP 0, iP 1, iP 1, iP 3, iP 1])],
   [],
   .bool false⟩
theorem fb214_h : fb214.holds EE := ent0 _ (by kernel_rfl) (by kernel_rfl)
-- (decani/founder.chest).isBetter, 1443 steps
noncomputable def fb218 : Ent :=
  ⟨47, [.agg ⟨[iP 4, iP 28, .slice (some ⟨3, 0, none⟩) 3 3, .slice (some ⟨4, 0, none⟩) 2 2, .bool false, .slice (some ⟨5, 0, none⟩) 1 1, .bool true, .slice none 0 0, .slice (some ⟨6, 0, none⟩) 3 3, .map (some 7), iP 0]⟩, .slice (some ⟨8, 0, none⟩) 1 18446744073709551616, .slice (some ⟨9, 0, none⟩) 3 18446744073709551616], 10,
   gC ++ [(3, .cells true 0 [iP 1, iP 2, iP 2, iP 1, iP 1, iP 1, iP 2, iP 2, iP 1]),
    (4, .cells true 0 [iP 1, iP 2, iP 1, iP 1, iP 1, iP 2]),
    (5, .cells true 0 [iP 1, iP 2, iP 2]),
    (6, .cells true 0 [iP 0, iN 0, iP 2, iP 10, iP 0, iP 1, iP 2, iP 6, iP 1, iP 1, iP 1, iP 4]),
    (7, .map [⟨.agg ⟨[iP 0, iP 0]⟩, .bool true, 0⟩, ⟨.agg ⟨[iP 1, iP 0]⟩, .bool false, 1⟩, ⟨.agg ⟨[iP 2, iP 0]⟩, .bool false, 2⟩, ⟨.agg ⟨[iP 3, iP 0]⟩, .bool false, 3⟩, ⟨.agg ⟨[iP 0, iP 1]⟩, .bool true, 4⟩, ⟨.agg ⟨[iP 1, iP 1]⟩, .bool false, 5⟩, ⟨.agg ⟨[iP 2, iP 1]⟩, .bool false, 6⟩, ⟨.agg ⟨[iP 3, iP 1]⟩, .bool true, 7⟩, ⟨.agg ⟨[iP 0, iP 2]⟩, .bool true, 8⟩, ⟨.agg ⟨[iP 1, iP 2]⟩, .bool false, 9⟩, ⟨.agg ⟨[iP 2, iP 2]⟩, .bool false, 10⟩, ⟨.agg ⟨[iP 3, iP 2]⟩, .bool true, 11⟩] 12),
    (8, .cells true 3 [iP 3, iP 1]),
    (9, .cells true 3 [iP 0, iP 0, iP 0, iP 1, iP 3, iP 1])],
   [],
   .bool false⟩
theorem fb218_h : fb218.holds EE := ent0 _ (by kernel_rfl) (by kernel_rfl)
-- (decani/founder.chest).isBetter, 1442 steps
noncomputable def fb222 : Ent :=
  ⟨47, [.agg ⟨[iP 4, iP 28, .slice (some ⟨3, 0, none⟩) 3 3, .slice (some ⟨4, 0, none⟩) 2 2, .bool false, .slice (some ⟨5, 0, none⟩) 1 1, .bool true, .slice none 0 0, .slice (some ⟨6, 0, none⟩) 3 3, .map (some 7), iN 0]⟩, .slice (some ⟨8, 0, none⟩) 1 18446744073709551616, .slice (some ⟨9, 0, none⟩) 2 18446744073709551616], 10,
   gC ++ [(3, .cells true 0 [iP 1, iP 2, iP 2, iP 1, iP 1, iP 1, iP 2, iP 2, iP 1]),
    (4, .cells true 0 [iP 1, iP 2, iP 1, iP 1, iP 1, iP 2]),
    (5, .cells true 0 [iP 1, iP 2, iP 2]),
    (6, .cells true 0 [iP 0, iN 0, iP 2, iP 10, iP 0, iP 1, iP 2, iP 6, iP 1, iP 1, iP 1, iP 4]),
    (7, .map [⟨.agg ⟨[iP 0, iP 0]⟩, .bool true, 0⟩, ⟨.agg ⟨[iP 1, iP 0]⟩, .bool false, 1⟩, ⟨.agg ⟨[iP 2, iP 0]⟩, .bool false, 2⟩, ⟨.agg ⟨[iP 3, iP 0]⟩, .bool false, 3⟩, ⟨.agg ⟨[iP 0, iP 1]⟩, .bool true, 4⟩, ⟨.agg ⟨[iP 1, iP 1]⟩, .bool false, 5⟩, ⟨.agg ⟨[iP 2, iP 1]⟩, .bool false, 6⟩, ⟨.agg ⟨[iP 3, iP 1]⟩, .bool true, 7⟩, ⟨.agg ⟨[iP 0, iP 2]⟩, .bool true, 8⟩, ⟨.agg ⟨[iP 1, iP 2]⟩, .bool false, 9⟩, ⟨.agg ⟨[iP 2, iP 2]⟩, .bool false, 10⟩, ⟨.agg ⟨[iP 3, iP 2]⟩, .bool true, 11⟩] 12),
    (8, .cells true 3 [iP 0, iP 1]),
    (9, .cells true 3 [iP 0, iP 0, iP 3, iP 1])],
   [],
   .bool false⟩
theorem fb222_h : fb222.holds EE := ent0 _ (by kernel_rfl) (by kernel_rfl)
-- (decani/founder.chest).isBetter, 1442 steps
noncomputable def fb226 : Ent :=
  ⟨47, [.agg ⟨[iP 4, iP 28, .slice (some ⟨3, 0, none⟩) 3 3, .slice (some ⟨4, 0, none⟩) 2 2, .bool false, .slice (some ⟨5, 0, none⟩) 1 1, .bool true, .slice none 0 0, .slice (some ⟨6, 0, none⟩) 3 3, .map (some 7), iP 2]⟩, .slice (some ⟨8, 0, none⟩) 1 18446744073709551616, .slice (some ⟨9, 0, none⟩) 2 18446744073709551616], 10,
   gC ++ [(3, .cells true 0 [iP 1, iP 2, iP 2, iP 1, iP 1, iP 1, iP 2, iP 2, iP 1]),
    (4, .cells true 0 [iP 1, iP 2, iP 1, iP 1, iP 1, iP 2]),
    (5, .cells true 0 [iP 1, iP 2, iP 2]),
    (6, .cells true 0 [iP 0, iN 0, iP 2, iP 10, iP 0, iP 1, iP 2, iP 6, iP 1, iP 1, iP 1, iP 4]),
    (7, .map [⟨.agg ⟨[iP 0, iP 0]⟩, .bool true, 0⟩, ⟨.agg ⟨[iP 1, iP 0]⟩, .bool false, 1⟩, ⟨.agg ⟨[iP 2, iP 0]⟩, .bool false, 2⟩, ⟨.agg ⟨[iP 3, iP 0]⟩, .bool false, 3⟩, ⟨.agg ⟨[iP 0, iP 1]⟩, .bool true, 4⟩, ⟨.agg ⟨[iP 1, iP 1]⟩, .bool false, 5⟩, ⟨.agg ⟨[iP 2, iP 1]⟩, .bool false, 6⟩, ⟨.agg ⟨[iP 3, iP 1]⟩, .bool true, 7⟩, ⟨.agg ⟨[iP 0, iP 2]⟩, .bool true, 8⟩, ⟨.agg ⟨[iP 1, iP 2]⟩, .bool false, 9⟩, ⟨.agg ⟨[iP 2, iP 2]⟩, .bool false, 10⟩, ⟨.agg ⟨[iP 3, iP 2]⟩, .bool true, 11⟩] 12),
    (8, .cells true 3 [iP 0, iP 1]),
    (9, .cells true 3 [iP 0, iP 0, iP 3, iP 1])],
   [],
   .bool false⟩
theorem fb226_h : fb226.holds EE := ent0 _ (by kernel_rfl) (by kernel_rfl)
-- (decani/founder.chest).isBetter, 1413 steps
noncomputable def fb230 : Ent :=
  ⟨47, [.agg ⟨[iP 4, iP 28, .slice (some ⟨3, 0, none⟩) 3 3, .slice (some ⟨4, 0, none⟩) 2 2, .bool false, .slice (some ⟨5, 0, none⟩) 1 1, .bool true, .slice none 0 0, .slice (some ⟨6, 0, none⟩) 3 3, .map (some 7), iP 1]⟩, .slice (some ⟨8, 0, none⟩) 1 18446744073709551616, .slice (some ⟨9, 0, none⟩) 2 18446744073709551616], 10,
   gC ++ [(3, .cells true 0 [iP 1, iP 2, iP 2, iP 1, iP 1, iP 1, iP 2, iP 2, iP 1]),
    (4, .cells true 0 [iP 1, iP 2, iP 1, iP 1, iP 1, iP 2]),
    (5, .cells true 0 [iP 1, iP 2, iP 2]),
    (6, .cells true 0 [iP 0, iN 0, iP 2, iP 10, iP 0, iP 1, iP 2, iP 6, iP 1, iP 1, iP 1, iP 4]),
    (7, .map [⟨.agg ⟨[iP 0, iP 0]⟩, .bool true, 0⟩, ⟨.agg ⟨[iP 1, iP 0]⟩, .bool false, 1⟩, ⟨.agg ⟨[iP 2, iP 0]⟩, .bool false, 2⟩, ⟨.agg ⟨[iP 3, iP 0]⟩, .bool false, 3⟩, ⟨.agg ⟨[iP 0, iP 1]⟩, .bool true, 4⟩, ⟨.agg ⟨[iP 1, iP 1]⟩, .bool false, 5⟩, ⟨.agg ⟨[iP 2, iP 1]⟩, .bool false, 6⟩, ⟨.agg ⟨[iP 3, iP 1]⟩, .bool true, 7⟩, ⟨.agg ⟨[iP 0, iP 2]⟩, .bool true, 8⟩, ⟨.agg ⟨[iP 1, iP 2]⟩, .bool false, 9⟩, ⟨.agg ⟨[iP 2, iP 2]⟩, .bool false, 10⟩, ⟨.agg ⟨[iP 3, iP 2]⟩, .bool true, 11⟩] 12),
    (8, .cells true 3 [iP 3, iP 1]),
    (9, .cells true 3 [iP 0, iP 0, iP 3, iP 1])],
   [],
   .bool false⟩
theorem fb230_h : fb230.holds EE := ent0 _ (by kernel_rfl) (by kernel_rfl)
-- (decani/founder.chest).isBetter, 1210 steps
noncomputable def fb234 : Ent :=
  ⟨47, [.agg ⟨[iP 4, iP 28, .slice (some ⟨3, 0, none⟩) 3 3, .slice (some ⟨4, 0, none⟩) 2 2, .bool false, .slice (some ⟨5, 0, none⟩) 1 1, .bool true, .slice none 0 0, .slice (some ⟨6, 0, none⟩) 1 1, .map (some 7), iN 0]⟩, .slice (some ⟨8, 0, none⟩) 1 18446744073709551616, .slice (some ⟨9, 0, none⟩) 4 18446744073709551616], 10,
   gC ++ [(3, .cells true 0 [iP 1, iP 2, iP 2, iP 1, iP 1, iP 1, iP 2, iP 2, iP 1]),
    (4, .cells true 0 [iP 1, iP 2, iP 1, iP 1, iP 1, iP 2]),
    (5, .cells true 0 [iP 1, iP 2, iP 2]),
    (6, .cells true 0 [iP 0, iP 3, iP 4, iP 1]),
    (7, .map [⟨.agg ⟨[iP 0, iP 0]⟩, .bool true, 0⟩, ⟨.agg ⟨[iP 1, iP 0]⟩, .bool true, 1⟩, ⟨.agg ⟨[iP 2, iP 0]⟩, .bool true, 2⟩, ⟨.agg ⟨[iP 3, iP 0]⟩, .bool true, 3⟩] 4),
    (8, .cells true 3 [iP 0, iP 0]),
    (9, .cells true 3 [iP 0, iP 0, iP 1, iP 0, iP 2, iP 0, iP 3, iP 0])],
   [],
   .bool false⟩
theorem fb234_h : fb234.holds EE := ent0 _ (by kernel_rfl) (by kernel_rfl)
-- (decani/founder.chest).isBetter, 1210 steps
noncomputable def fb236 : Ent :=
  ⟨47, [.agg ⟨[iP 4, iP 28, .slice (some ⟨3, 0, none⟩) 3 3, .slice (some ⟨4, 0, none⟩) 2 2, .bool false, .slice (some ⟨5, 0, none⟩) 1 1, .bool true, .slice none 0 0, .slice (some ⟨6, 0, none⟩) 1 1, .map (some 7), iP 1]⟩, .slice (some ⟨8, 0, none⟩) 1 18446744073709551616, .slice (some ⟨9, 0, none⟩) 4 18446744073709551616], 10,
   gC ++ [(3, .cells true 0 [iP 1, iP 2, iP 2, iP 1, iP 1, iP 1, iP 2, iP 2, iP 1]),
    (4, .cells true 0 [iP 1, iP 2, iP 1, iP 1, iP 1, iP 2]),
    (5, .cells true 0 [iP 1, iP 2, iP 2]),
    (6, .cells true 0 [iP 0, iP 3, iP 4, iP 1]),
    (7, .map [⟨.agg ⟨[iP 0, iP 0]⟩, .bool true, 0⟩, ⟨.agg ⟨[iP 1, iP 0]⟩, .bool true, 1⟩, ⟨.agg ⟨[iP 2, iP 0]⟩, .bool true, 2⟩, ⟨.agg ⟨[iP 3, iP 0]⟩, .bool true, 3⟩] 4),
    (8, .cells true 3 [iP 0, iP 0]),
    (9, .cells true 3 [iP 0, iP 0, iP 1, iP 0, iP 2, iP 0, iP 3, iP 0])],
   [],
   .bool false⟩
theorem fb236_h : fb236.holds EE := ent0 _ (by kernel_rfl) (by kernel_rfl)
-- (decani/founder.chest).isBetter, 1206 steps
noncomputable def fb240 : Ent :=
  ⟨47, [.agg ⟨[iP 4, iP 28, .slice (some ⟨3, 0, none⟩) 3 3, .slice (some ⟨4, 0, none⟩) 2 2, .bool false, .slice (some ⟨5, 0, none⟩) 1 1, .bool true, .slice none 0 0, .slice (some ⟨6, 0, none⟩) 1 1, .map (some 7), iP 0]⟩, .slice (some ⟨8, 0, none⟩) 3 18446744073709551616, .slice (some ⟨9, 0, none⟩) 4 18446744073709551616], 10,
   gC ++ [(3, .cells true 0 [iP 1, iP 2, iP 2, iP 1, iP 1, iP 1, iP 2, iP 2, iP 1]),
    (4, .cells true 0 [iP 1, iP 2, iP 1, iP 1, iP 1, iP 2]),
    (5, .cells true 0 [iP 1, iP 2, iP 2]),
    (6, .cells true 0 [iP 0, iP 3, iP 4, iP 1]),
    (7, .map [⟨.agg ⟨[iP 0, iP 0]⟩, .bool true, 0⟩, ⟨.agg ⟨[iP 1, iP 0]⟩, .bool true, 1⟩, ⟨.agg ⟨[iP 2, iP 0]⟩, .bool true, 2⟩, ⟨.agg ⟨[iP 3, iP 0]⟩, .bool true, 3⟩] 4),
    (8, .cells true 3 [iP 1, iP 0, iP 2, iP 0, iP 3, iP 0]),
    (9, .cells true 3 [iP 0, iP 0, iP 1, iP 0, iP 2, iP 0, iP 3, iP 0])],
   [],
   .bool false⟩
theorem fb240_h : fb240.holds EE := ent0 _ (by kernel_rfl) (by kernel_rfl)
-- (decani/founder.chest).isBetter, 1176 steps
noncomputable def fb244 : Ent :=
  ⟨47, [.agg ⟨[iP 4, iP 28, .slice (some ⟨3, 0, none⟩) 3 3, .slice (some ⟨4, 0, none⟩) 2 2, .bool false, .slice (some ⟨5, 0, none⟩) 1 1, .bool true, .slice none 0 0, .slice (some ⟨6, 0, none⟩) 1 1, .map (some 7), iN 0]⟩, .slice (some ⟨8, 0, none⟩) 2 18446744073709551616, .slice (some ⟨9, 0, none⟩) 4 18446744073709551616], 10,
   gC ++ [(3, .cells true 0 [iP 1, iP 2, iP 2, iP 1, iP 1, iP 1, iP 2, iP 2, iP 1]),
    (4, .cells true 0 [iP 1, iP 2, iP 1, iP 1, iP 1, iP 2]),
    (5, .cells true 0 [iP 1, iP 2, iP 2]),
    (6, .cells true 0 [iP 0, iP 3, iP 4, iP 1]),
    (7, .map [⟨.agg ⟨[iP 0, iP 0]⟩, .bool true, 0⟩, ⟨.agg ⟨[iP 1, iP 0]⟩, .bool true, 1⟩, ⟨.agg ⟨[iP 2, iP 0]⟩, .bool true, 2⟩, ⟨.agg ⟨[iP 3, iP 0]⟩, .bool true, 3⟩] 4),
    (8, .cells true 3 [iP 1, iP 0, iP 2, iP 0]),
    (9, .cells true 3 [iP 0, iP 0, iP 1, iP 0, iP 2, iP 0, iP 3, iP 0])],
   [],
   .bool false⟩
theorem fb244_h : fb244.holds EE := ent0 _ (by kernel_rfl) (by kernel_rfl)
-- (decani/founder.chest).isBetter, 1176 steps
noncomputable def fb248 : Ent :=
  ⟨47, [.agg ⟨[iP 4, iP 28, .slice (some ⟨3, 0, none⟩) 3 3, .slice (some ⟨4, 0, none⟩) 2 2, .bool false, .slice (some ⟨5, 0, none⟩) 1 1, .bool true, .slice none 0 0, .slice (some ⟨6, 0, none⟩) 1 1, .map (some 7), iP 0]⟩, .slice (some ⟨8, 0, none⟩) 2 18446744073709551616, .slice (some ⟨9, 0, none⟩) 4 18446744073709551616], 10,
   gC ++ [(3, .cells true 0 [iP 1, iP 2, iP 2, iP 1, iP 1, iP 1, iP 2, iP 2, iP 1]),
    (4, .cells true 0 [iP 1, iP 2, iP 1, iP 1, iP 1, iP 2]),
    (5, .cells true 0 [iP 1, iP 2, iP 2]),
    (6, .cells true 0 [iP 0, iP 3, iP 4, iP 1]),
    (7, .map [⟨.agg ⟨[iP 0, iP 0]⟩, .bool true, 0⟩, ⟨.agg ⟨[iP 1, iP 0]⟩, .bool true, 1⟩, ⟨.agg ⟨[iP 2, iP 0]⟩, .bool true, 2⟩, ⟨.agg ⟨[iP 3, iP 0]⟩, .bool true, 3⟩] 4),
    (8, .cells true 3 [iP 1, iP 0, iP 3, iP 0]),
    (9, .cells true 3 [iP 0, iP 0, iP 1, iP 0, iP 2, iP 0, iP 3, iP 0])],
   [],
   .bool false⟩
theorem fb248_h : fb248.holds EE := ent0 _ (by kernel_rfl) (by kernel_rfl)
-- (decani/founder.chest).isBetter, 1176 steps
noncomputable def fb252 : Ent :=
  ⟨47, [.agg ⟨[iP 4, iP 28, .slice (some ⟨3, 0, none⟩) 3 3, .slice (some ⟨4, 0, none⟩) 2 2, .bool false, .slice (some ⟨5, 0, none⟩) 1 1, .bool true, .slice none 0 0, .slice (some ⟨6, 0, none⟩) 1 1, .map (some 7), iP 1]⟩, .slice (some ⟨8, 0, none⟩) 2 18446744073709551616, .slice (some ⟨9, 0, none⟩) 4 18446744073709551616], 10,
   gC ++ [(3, .cells true 0 [iP 1, iP 2, iP 2, iP 1, iP 1, iP 1, iP 2, iP 2, iP 1]),
    (4, .cells true 0 [iP 1, iP 2, iP 1, iP 1, iP 1, iP 2]),
    (5, .cells true 0 [iP 1, iP 2, iP 2]),
    (6, .cells true 0 [iP 0, iP 3, iP 4, iP 1]),
    (7, .map [⟨.agg ⟨[iP 0, iP 0]⟩, .bool true, 0⟩, ⟨.agg ⟨[iP 1, iP 0]⟩, .bool true, 1⟩, ⟨.agg ⟨[iP 2, iP 0]⟩, .bool true, 2⟩, ⟨.agg ⟨[iP 3, iP 0]⟩, .bool true, 3⟩] 4),
    (8, .cells true 3 [iP 2, iP 0, iP 3, iP 0]),
    (9, .cells true 3 [iP 0, iP 0, iP 1, iP 0, iP 2, iP 0, iP 3, iP 0])],
   [],
   .bool false⟩
theorem fb252_h : fb252.holds EE := ent0 _ (by kernel_rfl) (by kernel_rfl)
-- (decani/founder.chest).isBetter, 1176 steps
noncomputable def fb256 : Ent :=
  ⟨47, [.agg ⟨[iP 4, iP 28, .slice (some ⟨3, 0, none⟩) 3 3, .slice (some ⟨4, 0, none⟩) 2 2, .bool false, .slice (some ⟨5, 0, none⟩) 1 1, .bool true, .slice none 0 0, .slice (some ⟨6, 0, none⟩) 1 1, .map (some 7), iP 3]⟩, .slice (some ⟨8, 0, none⟩) 2 18446744073709551616, .slice (some ⟨9, 0, none⟩) 4 18446744073709551616], 10,
   gC ++ [(3, .cells true 0 [iP 1, iP 2, iP 2, iP 1, iP 1, iP 1, iP 2, iP 2, iP 1]),
    (4, .cells true 0 [iP 1, iP 2, iP 1, iP 1, iP 1, iP 2]),
    (5, .cells true 0 [iP 1, iP 2, iP 2]),
    (6, .cells true 0 [iP 0, iP 3, iP 4, iP 1]),
    (7, .map [⟨.agg ⟨[iP 0, iP 0]⟩, .bool true, 0⟩, ⟨.agg ⟨[iP 1, iP 0]⟩, .bool true, 1⟩, ⟨.agg ⟨[iP 2, iP 0]⟩, .bool true, 2⟩, ⟨.agg ⟨[iP 3, iP 0]⟩, .bool true, 3⟩] 4),
    (8, .cells true 3 [iP 1, iP 0, iP 2, iP 0]),
    (9, .cells true 3 [iP 0, iP 0, iP 1, iP 0, iP 2, iP 0, iP 3, iP 0])],
   [],
   .bool false⟩
theorem fb256_h : fb256.holds EE := ent0 _ (by kernel_rfl) (by kernel_rfl)
-- (decani/founder.chest).isBetter, 1174 steps
noncomputable def fb260 : Ent :=
  ⟨47, [.agg ⟨[iP 4, iP 28, .slice (some ⟨3, 0, none⟩) 3 3, .slice (some ⟨4, 0, none⟩) 2 2, .bool false, .slice (some ⟨5, 0, none⟩) 1 1, .bool true, .slice (some ⟨6, 0, none⟩) 1 1, .slice (some ⟨7, 0, none⟩) 3 3, .map (some 8), iP 1]⟩, .slice (some ⟨9, 0, none⟩) 4 18446744073709551616, .slice none 0 0], 10,
   gC ++ [(3, .cells true 0 [iP 1, iP 2, iP 2, iP 1, iP 1, iP 1, iP 2, iP 2, iP 1]),
    (4, .cells true 0 [iP 1, iP 2, iP 1, iP 1, iP 1, iP 2]),
    (5, .cells true 0 [iP 1, iP 2, iP 2]),
    (6, .cells true 0 [iP 0, iP 3, iP 2]),
    (7, .cells true 0 [iP 0, iN 0, iP 2, iP 10, iP 0, iP 1, iP 2, iP 6, iP 1, iP 1, iP 1, iP 4]),
    (8, .map [⟨.agg ⟨[iP 0, iP 0]⟩, .bool true, 0⟩, ⟨.agg ⟨[iP 1, iP 0]⟩, .bool false, 1⟩, ⟨.agg ⟨[iP 2, iP 0]⟩, .bool false, 2⟩, ⟨.agg ⟨[iP 3, iP 0]⟩, .bool false, 3⟩, ⟨.agg ⟨[iP 0, iP 1]⟩, .bool true, 4⟩, ⟨.agg ⟨[iP 1, iP 1]⟩, .bool true, 5⟩, ⟨.agg ⟨[iP 2, iP 1]⟩, .bool false, 6⟩, ⟨.agg ⟨[iP 3, iP 1]⟩, .bool true, 7⟩, ⟨.agg ⟨[iP 0, iP 2]⟩, .bool true, 8⟩, ⟨.agg ⟨[iP 1, iP 2]⟩, .bool true, 9⟩, ⟨.agg ⟨[iP 2, iP 2]⟩, .bool false, 10⟩, ⟨.agg ⟨[iP 3, iP 2]⟩, .bool true, 11⟩] 12),
    (9, .cells true 3 [iP 0, iP 0, iP 1, iP 1, iP 1, iP 2, iP 3, iP 1])],
   [],
   .bool true⟩
theorem fb260_h : fb260.holds EE := ent0 _ (by kernel_rfl) (by kernel_rfl)
-- (decani/founder.chest).isBetter, 1173 steps
noncomputable def fb264 : Ent :=
  ⟨47, [.agg ⟨[iP 4, iP 28, .slice (some ⟨3, 0, none⟩) 3 3, .slice (some ⟨4, 0, none⟩) 2 2, .bool false, .slice (some ⟨5, 0, none⟩) 1 1, .bool true, .slice (some ⟨6, 0, none⟩) 1 1, .slice (some ⟨7, 0, none⟩) 3 3, .map (some 8), iP 3]⟩, .slice none 0 0, .slice (some ⟨9, 0, none⟩) 4 18446744073709551616], 10,
   gC ++ [(3, .cells true 0 [iP 1, iP 2, iP 2, iP 1, iP 1, iP 1, iP 2, iP 2, iP 1]),
    (4, .cells true 0 [iP 1, iP 2, iP 1, iP 1, iP 1, iP 2]),
    (5, .cells true 0 [iP 1, iP 2, iP 2]),
    (6, .cells true 0 [iP 0, iP 3, iP 2]),
    (7, .cells true 0 [iP 0, iN 0, iP 2, iP 10, iP 0, iP 1, iP 2, iP 6, iP 1, iP 1, iP 1, iP 4]),
    (8, .map [⟨.agg ⟨[iP 0, iP 0]⟩, .bool true, 0⟩, ⟨.agg ⟨[iP 1, iP 0]⟩, .bool false, 1⟩, ⟨.agg ⟨[iP 2, iP 0]⟩, .bool false, 2⟩, ⟨.agg ⟨[iP 3, iP 0]⟩, .bool false, 3⟩, ⟨.agg ⟨[iP 0, iP 1]⟩, .bool true, 4⟩, ⟨.agg ⟨[iP 1, iP 1]⟩, .bool true, 5⟩, ⟨.agg ⟨[iP 2, iP 1]⟩, .bool false, 6⟩, ⟨.agg ⟨[iP 3, iP 1]⟩, .bool true, 7⟩, ⟨.agg ⟨[iP 0, iP 2]⟩, .bool true, 8⟩, ⟨.agg ⟨[iP 1, iP 2]⟩, .bool true, 9⟩, ⟨.agg ⟨[iP 2, iP 2]⟩, .bool false, 10⟩, ⟨.agg ⟨[iP 3, iP 2]⟩, .bool true, 11⟩] 12),
    (9, .cells true 3 [iP 0, iP 0, iP 1, iP 1, iP 3, iP 1, iP 3, iP 2])],
   [],
   .bool false⟩
theorem fb264_h : fb264.holds EE := ent0 _ (by kernel_rfl) (by kernel_rfl)
-- (decani/founder.chest).isBetter, 1146 steps
noncomputable def fb269 : Ent :=
  ⟨47, [.agg ⟨[iP 4, iP 28, .slice (some ⟨3, 0, none⟩) 3 3, .slice (some ⟨4, 0, none⟩) 2 2, .bool false, .slice (some ⟨5, 0, none⟩) 1 1, .bool true, .slice none 0 0, .slice (some ⟨6, 0, none⟩) 1 1, .map (some 7), iP 0]⟩, .slice (some ⟨8, 0, none⟩) 1 18446744073709551616, .slice (some ⟨9, 0, none⟩) 4 18446744073709551616], 10,
   gC ++ [(3, .cells true 0 [iP 1, iP 2, iP 2, iP 1, iP 1, iP 1, iP 2, iP 2, iP 1]),
    (4, .cells true 0 [iP 1, iP 2, iP 1, iP 1, iP 1, iP 2]),
    (5, .cells true 0 [iP 1, iP 2, iP 2]),
    (6, .cells true 0 [iP 0, iP 3, iP 4, iP 1]),
    (7, .map [⟨.agg ⟨[iP 0, iP 0]⟩, .bool true, 0⟩, ⟨.agg ⟨[iP 1, iP 0]⟩, .bool true, 1⟩, ⟨.agg ⟨[iP 2, iP 0]⟩, .bool true, 2⟩, ⟨.agg ⟨[iP 3, iP 0]⟩, .bool true, 3⟩] 4),
    (8, .cells true 3 [iP 2, iP 0]),
    (9, .cells true 3 [iP 0, iP 0, iP 1, iP 0, iP 2, iP 0, iP 3, iP 0])],
   [],
   .bool false⟩
theorem fb269_h : fb269.holds EE := ent0 _ (by kernel_rfl) (by kernel_rfl)
-- (decani/founder.chest).isBetter, 1146 steps
noncomputable def fb273 : Ent :=
  ⟨47, [.agg ⟨[iP 4, iP 28, .slice (some ⟨3, 0, none⟩) 3 3, .slice (some ⟨4, 0, none⟩) 2 2, .bool false, .slice (some ⟨5, 0, none⟩) 1 1, .bool true, .slice none 0 0, .slice (some ⟨6, 0, none⟩) 1 1, .map (some 7), iP 1]⟩, .slice (some ⟨8, 0, none⟩) 1 18446744073709551616, .slice (some ⟨9, 0, none⟩) 4 18446744073709551616], 10,
   gC ++ [(3, .cells true 0 [iP 1, iP 2, iP 2, iP 1, iP 1, iP 1, iP 2, iP 2, iP 1]),
    (4, .cells true 0 [iP 1, iP 2, iP 1, iP 1, iP 1, iP 2]),
    (5, .cells true 0 [iP 1, iP 2, iP 2]),
    (6, .cells true 0 [iP 0, iP 3, iP 4, iP 1]),
    (7, .map [⟨.agg ⟨[iP 0, iP 0]⟩, .bool true, 0⟩, ⟨.agg ⟨[iP 1, iP 0]⟩, .bool true, 1⟩, ⟨.agg ⟨[iP 2, iP 0]⟩, .bool true, 2⟩, ⟨.agg ⟨[iP 3, iP 0]⟩, .bool true, 3⟩] 4),
    (8, .cells true 3 [iP 3, iP 0]),
    (9, .cells true 3 [iP 0, iP 0, iP 1, iP 0, iP 2, iP 0, iP 3, iP 0])],
   [],
   .bool false⟩
theorem fb273_h : fb273.holds EE := ent0 _ (by kernel_rfl) (by kernel_rfl)
-- (decani/founder.chest).isBetter, 1146 steps
noncomputable def fb277 : Ent :=
  ⟨47, [.agg ⟨[iP 4, iP 28, .slice (some ⟨3, 0, none⟩) 3 3, .slice (some ⟨4, 0, none⟩) 2 2, .bool false, .slice (some ⟨5, 0, none⟩) 1 1, .bool true, .slice none 0 0, .slice (some ⟨6, 0, none⟩) 1 1, .map (some 7), iP 3]⟩, .slice (some ⟨8, 0, none⟩) 1 18446744073709551616, .slice (some ⟨9, 0, none⟩) 4 18446744073709551616], 10,
   gC ++ [(3, .cells true 0 [iP 1, iP 2, iP 2, iP 1, iP 1, iP 1, iP 2, iP 2, iP 1]),
    (4, .cells true 0 [iP 1, iP 2, iP 1, iP 1, iP 1, iP 2]),
    (5, .cells true 0 [iP 1, iP 2, iP 2]),
    (6, .cells true 0 [iP 0, iP 3, iP 4, iP 1]),
    (7, .map [⟨.agg ⟨[iP 0, iP 0]⟩, .bool true, 0⟩, ⟨.agg ⟨[iP 1, iP 0]⟩, .bool true, 1⟩, ⟨.agg ⟨[iP 2, iP 0]⟩, .bool true, 2⟩, ⟨.agg ⟨[iP 3, iP 0]⟩, .bool true, 3⟩] 4),
    (8, .cells true 3 [iP 1, iP 0]),
    (9, .cells true 3 [iP 0, iP 0, iP 1, iP 0, iP 2, iP 0, iP 3, iP 0])],
   [],
   .bool false⟩
theorem fb277_h : fb277.holds EE := ent0 _ (by kernel_rfl) (by kernel_rfl)
-- (decani/founder.chest).isBetter, 1144 steps
noncomputable def fb281 : Ent :=
  ⟨47, [.agg ⟨[iP 4, iP 28, .slice (some ⟨3, 0, none⟩) 3 3, .slice (some ⟨4, 0, none⟩) 2 2, .bool false, .slice (some ⟨5, 0, none⟩) 1 1, .bool true, .slice (some ⟨6, 0, none⟩) 1 1, .slice (some ⟨7, 0, none⟩) 3 3, .map (some 8), iP 2]⟩, .slice (some ⟨9, 0, none⟩) 3 18446744073709551616, .slice none 0 0], 10,
   gC ++ [(3, .cells true 0 [iP 1, iP 2, iP 2, iP 1, iP 1, iP 1, iP 2, iP 2, iP 1]),
    (4, .cells true 0 [iP 1, iP 2, iP 1, iP 1, iP 1, iP 2]),
    (5, .cells true 0 [iP 1, iP 2, iP 2]),
    (6, .cells true 0 [iP 0, iP 3, iP 2]),
    (7, .cells true 0 [iP 0, iN 0, iP 2, iP 10, iP 0, iP 1, iP 2, iP 6, iP 1, iP 1, iP 1, iP 4]),
    (8, .map [⟨.agg ⟨[iP 0, iP 0]⟩, .bool true, 0⟩, ⟨.agg ⟨[iP 1, iP 0]⟩, .bool false, 1⟩, ⟨.agg ⟨[iP 2, iP 0]⟩, .bool false, 2⟩, ⟨.agg ⟨[iP 3, iP 0]⟩, .bool false, 3⟩, ⟨.agg ⟨[iP 0, iP 1]⟩, .bool true, 4⟩, ⟨.agg ⟨[iP 1, iP 1]⟩, .bool true, 5⟩, ⟨.agg ⟨[iP 2, iP 1]⟩, .bool false, 6⟩, ⟨.agg ⟨[iP 3, iP 1]⟩, .bool true, 7⟩, ⟨.agg ⟨[iP 0, iP 2]⟩, .bool true, 8⟩, ⟨.agg ⟨[iP 1, iP 2]⟩, .bool true, 9⟩, ⟨.agg ⟨[iP 2, iP 2]⟩, .bool false, 10⟩, ⟨.agg ⟨[iP 3, iP 2]⟩, .bool true, 11⟩] 12),
    (9, .cells true 3 [iP 0, iP 0, iP 1, iP 1, iP 3, iP 1])],
   [],
   .bool true⟩
theorem fb281_h : fb281.holds EE := ent0 _ (by kernel_rfl) (by kernel_rfl)
-- (decani/founder.chest).isBetter, 1143 steps
noncomputable def fb285 : Ent :=
  ⟨47, [.agg ⟨[iP 4, iP 28, .slice (some ⟨3, 0, none⟩) 3 3, .slice (some ⟨4, 0, none⟩) 2 2, .bool false, .slice (some ⟨5, 0, none⟩) 1 1, .bool true, .slice (some ⟨6, 0, none⟩) 1 1, .slice (some ⟨7, 0, none⟩) 3 3, .map (some 8), iP 2]⟩, .slice none 0 0, .slice (some ⟨9, 0, none⟩) 3 18446744073709551616], 10,
   gC ++ [(3, .cells true 0 [iP 1, iP 2, iP 2, iP 1, iP 1, iP 1, iP 2, iP 2, iP 1]),
    (4, .cells true 0 [iP 1, iP 2, iP 1, iP 1, iP 1, iP 2]),
    (5, .cells true 0 [iP 1, iP 2, iP 2]),
    (6, .cells true 0 [iP 0, iP 3, iP 2]),
    (7, .cells true 0 [iP 0, iN 0, iP 2, iP 10, iP 0, iP 1, iP 2, iP 6, iP 1, iP 1, iP 1, iP 4]),
    (8, .map [⟨.agg ⟨[iP 0, iP 0]⟩, .bool true, 0⟩, ⟨.agg ⟨[iP 1, iP 0]⟩, .bool false, 1⟩, ⟨.agg ⟨[iP 2, iP 0]⟩, .bool false, 2⟩, ⟨.agg ⟨[iP 3, iP 0]⟩, .bool false, 3⟩, ⟨.agg ⟨[iP 0, iP 1]⟩, .bool true, 4⟩, ⟨.agg ⟨[iP 1, iP 1]⟩, .bool true, 5⟩, ⟨.agg ⟨[iP 2, iP 1]⟩, .bool false, 6⟩, ⟨.agg ⟨[iP 3, iP 1]⟩, .bool true, 7⟩, ⟨.agg ⟨[iP 0, iP 2]⟩, .bool true, 8⟩, ⟨.agg ⟨[iP 1, iP 2]⟩, .bool true, 9⟩, ⟨.agg ⟨[iP 2, iP 2]⟩, .bool false, 10⟩, ⟨.agg ⟨[iP 3, iP 2]⟩, .bool true, 11⟩] 12),
    (9, .cells true 3 [iP 0, iP 0, iP 1, iP 1, iP 3, iP 1])],
   [],
   .bool false⟩
theorem fb285_h : fb285.holds EE := ent0 _ (by kernel_rfl) (by kernel_rfl)
-- (decani/founder.chest).isBetter, 1114 steps
noncomputable def fb289 : Ent :=
  ⟨47, [.agg ⟨[iP 4, iP 28, .slice (some ⟨3, 0, none⟩) 3 3, .slice (some ⟨4, 0, none⟩) 2 2, .bool false, .slice (some ⟨5, 0, none⟩) 1 1, .bool true, .slice none 0 0, .slice (some ⟨6, 0, none⟩) 3 3, .map (some 7), iP 1]⟩, .slice (some ⟨8, 0, none⟩) 2 18446744073709551616, .slice none 0 0], 9,
   gC ++ [(3, .cells true 0 [iP 1, iP 2, iP 2, iP 1, iP 1, iP 1, iP 2, iP 2, iP 1]),
    (4, .cells true 0 [iP 1, iP 2, iP 1, iP 1, iP 1, iP 2]),
    (5, .cells true 0 [iP 1, iP 2, iP 2]),
    (6, .cells true 0 [iP 0, iN 0, iP 2, iP 10, iP 0, iP 1, iP 2, iP 6, iP 1, iP 1, iP 1, iP 4]),
    (7, .map [⟨.agg ⟨[iP 0, iP 0]⟩, .bool true, 0⟩, ⟨.agg ⟨[iP 1, iP 0]⟩, .bool false, 1⟩, ⟨.agg ⟨[iP 2, iP 0]⟩, .bool false, 2⟩, ⟨.agg ⟨[iP 3, iP 0]⟩, .bool false, 3⟩, ⟨.agg ⟨[iP 0, iP 1]⟩, .bool true, 4⟩, ⟨.agg ⟨[iP 1, iP 1]⟩, .bool false, 5⟩, ⟨.agg ⟨[iP 2, iP 1]⟩, .bool false, 6⟩, ⟨.agg ⟨[iP 3, iP 1]⟩, .bool true, 7⟩, ⟨.agg ⟨[iP 0, iP 2]⟩, .bool true, 8⟩, ⟨.agg ⟨[iP 1, iP 2]⟩, .bool false, 9⟩, ⟨.agg ⟨[iP 2, iP 2]⟩, .bool false, 10⟩, ⟨.agg ⟨[iP 3, iP 2]⟩, .bool true, 11⟩] 12),
    (8, .cells true 3 [iP 0, iP 0, iP 3, iP 1])],
   [],
   .bool true⟩
theorem fb289_h : fb289.holds EE := ent0 _ (by kernel_rfl) (by kernel_rfl)
-- (decani/founder.chest).isBetter, 1113 steps
noncomputable def fb293 : Ent :=
  ⟨47, [.agg ⟨[iP 4, iP 28, .slice (some ⟨3, 0, none⟩) 3 3, .slice (some ⟨4, 0, none⟩) 2 2, .bool false, .slice (some ⟨5, 0, none⟩) 1 1, .bool true, .slice none 0 0, .slice (some ⟨6, 0, none⟩) 3 3, .map (some 7), iP 2]⟩, .slice none 0 0, .slice (some ⟨8, 0, none⟩) 2 18446744073709551616], 9,
   gC ++ [(3, .cells true 0 [iP 1, iP 2, iP 2, iP 1, iP 1, iP 1, iP 2, iP 2, iP 1]),
    (4, .cells true 0 [iP 1, iP 2, iP 1, iP 1, iP 1, iP 2]),
    (5, .cells true 0 [iP 1, iP 2, iP 2]),
    (6, .cells true 0 [iP 0, iN 0, iP 2, iP 10, iP 0, iP 1, iP 2, iP 6, iP 1, iP 1, iP 1, iP 4]),
    (7, .map [⟨.agg ⟨[iP 0, iP 0]⟩, .bool true, 0⟩, ⟨.agg ⟨[iP 1, iP 0]⟩, .bool false, 1⟩, ⟨.agg ⟨[iP 2, iP 0]⟩, .bool false, 2⟩, ⟨.agg ⟨[iP 3, iP 0]⟩, .bool false, 3⟩, ⟨.agg ⟨[iP 0, iP 1]⟩, .bool true, 4⟩, ⟨.agg ⟨[iP 1, iP 1]⟩, .bool false, 5⟩, ⟨.agg ⟨[iP 2, iP 1]⟩, .bool false, 6⟩, ⟨.agg ⟨[iP 3, iP 1]⟩, .bool true, 7⟩, ⟨.agg ⟨[iP 0, iP 2]⟩, .bool true, 8⟩, ⟨.agg ⟨[iP 1, iP 2]⟩, .bool false, 9⟩, ⟨.agg ⟨[iP 2, iP 2]⟩, .bool false, 10⟩, ⟨.agg ⟨[iP 3, iP 2]⟩, .bool true, 11⟩] 12),
    (8, .cells true 3 [iP 0, iP 0, iP 3, iP 1])],
   [],
   .bool false⟩
theorem fb293_h : fb293.holds EE := ent0 _ (by kernel_rfl) (by kernel_rfl)
-- (decani/founder.chest).isBetter, 851 steps
noncomputable def fb299 : Ent :=
  ⟨47, [.agg ⟨[iP 4, iP 28, .slice (some ⟨3, 0, none⟩) 3 3, .slice (some ⟨4, 0, none⟩) 2 2, .bool false, .slice (some ⟨5, 0, none⟩) 1 1, .bool true, .slice none 0 0, .slice (some ⟨6, 0, none⟩) 1 1, .map (some 7), iN 0]⟩, .slice none 0 0, .slice (some ⟨8, 0, none⟩) 4 18446744073709551616], 9,
   gC ++ [(3, .cells true 0 [iP 1, iP 2, iP 2, iP 1, iP 1, iP 1, iP 2, iP 2, iP 1]),
    (4, .cells true 0 [iP 1, iP 2, iP 1, iP 1, iP 1, iP 2]),
    (5, .cells true 0 [iP 1, iP 2, iP 2]),
    (6, .cells true 0 [iP 0, iP 3, iP 4, iP 1]),
    (7, .map [⟨.agg ⟨[iP 0, iP 0]⟩, .bool true, 0⟩, ⟨.agg ⟨[iP 1, iP 0]⟩, .bool true, 1⟩, ⟨.agg ⟨[iP 2, iP 0]⟩, .bool true, 2⟩, ⟨.agg ⟨[iP 3, iP 0]⟩, .bool true, 3⟩] 4),
    (8, .cells true 3 [iP 0, iP 0, iP 1, iP 0, iP 2, iP 0, iP 3, iP 0])],
   [],
   .bool false⟩
theorem fb299_h : fb299.holds EE := ent0 _ (by kernel_rfl) (by kernel_rfl)
-- (decani/founder.chest).isBetter, 851 steps
noncomputable def fb303 : Ent :=
  ⟨47, [.agg ⟨[iP 4, iP 28, .slice (some ⟨3, 0, none⟩) 3 3, .slice (some ⟨4, 0, none⟩) 2 2, .bool false, .slice (some ⟨5, 0, none⟩) 1 1, .bool true, .slice none 0 0, .slice (some ⟨6, 0, none⟩) 1 1, .map (some 7), iP 3]⟩, .slice none 0 0, .slice (some ⟨8, 0, none⟩) 4 18446744073709551616], 9,
   gC ++ [(3, .cells true 0 [iP 1, iP 2, iP 2, iP 1, iP 1, iP 1, iP 2, iP 2, iP 1]),
    (4, .cells true 0 [iP 1, iP 2, iP 1, iP 1, iP 1, iP 2]),
    (5, .cells true 0 [iP 1, iP 2, iP 2]),
    (6, .cells true 0 [iP 0, iP 3, iP 4, iP 1]),
    (7, .map [⟨.agg ⟨[iP 0, iP 0]⟩, .bool true, 0⟩, ⟨.agg ⟨[iP 1, iP 0]⟩, .bool true, 1⟩, ⟨.agg ⟨[iP 2, iP 0]⟩, .bool true, 2⟩, ⟨.agg ⟨[iP 3, iP 0]⟩, .bool true, 3⟩] 4),
    (8, .cells true 3 [iP 0, iP 0, iP 1, iP 0, iP 2, iP 0, iP 3, iP 0])],
   [],
   .bool false⟩
theorem fb303_h : fb303.holds EE := ent0 _ (by kernel_rfl) (by kernel_rfl)
end Go.Proofs.YtlnbhokokhecdaaGreatDoor
