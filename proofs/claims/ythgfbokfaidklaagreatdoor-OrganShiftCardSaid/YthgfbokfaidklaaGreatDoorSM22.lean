/- Known calls, part 22: what single calls hand back, at small heaps, by the kernel's own run of the evaluator. No conditions. -/
import Derived.Test.YthgfbokfaidklaaGreatDoorSZ
set_option linter.all false
namespace Go.Proofs.YthgfbokfaidklaaGreatDoor
open Go.Ai
set_option maxRecDepth 1000000
-- decani/organ.newLoft, 16696 steps
noncomputable def sm22 : Ent :=
  ⟨55, [.agg ⟨[iP 3, .slice (some ⟨3, 0, none⟩) 4 18446744073709551616, .slice (some ⟨4, 0, none⟩) 1 1, .slice (some ⟨5, 0, none⟩) 2 2, iP 4, .slice none 0 0]⟩], 6,
   gC ++ [(3, .cells true 5 [iP 0, iP 1, iP 0, iP 2, iP 1, iP 2, iP 1, iP 1, iP 0, iP 2, iP 4, iP 1, iP 0, iP 1, iP 10, iP 1]),
    (4, .cells true 0 [iP 0, iP 10, iP 1]),
    (5, .cells true 0 [iP 5, iP 6, iP 20, iP 21, iP 1, iP 2, iP 2, iP 3, iP 1, iP 3, iP 5, iP 8, iP 8, iP 18, iP 18, iP 0, iP 1, iP 1, iP 1, iP 0, iP 6, iP 7])],
   [.map [⟨.agg ⟨[iP 3, iP 0]⟩, iN 266, 0⟩, ⟨.agg ⟨[iP 0, iP 3]⟩, iN 286, 1⟩, ⟨.agg ⟨[iP 3, iP 1]⟩, iN 264, 2⟩, ⟨.agg ⟨[iP 1, iP 3]⟩, iN 295, 3⟩, ⟨.agg ⟨[iP 3, iP 2]⟩, iN 282, 4⟩, ⟨.agg ⟨[iP 2, iP 3]⟩, iN 310, 5⟩, ⟨.agg ⟨[iP 0, iP 1]⟩, iN 155, 6⟩, ⟨.agg ⟨[iP 1, iP 0]⟩, iN 166, 7⟩, ⟨.agg ⟨[iP 1, iP 2]⟩, iN 182, 8⟩, ⟨.agg ⟨[iP 2, iP 1]⟩, iN 179, 9⟩, ⟨.agg ⟨[iP 0, iP 2]⟩, iN 173, 10⟩, ⟨.agg ⟨[iP 2, iP 0]⟩, iN 181, 11⟩, ⟨.agg ⟨[iP 0, iP 0]⟩, iN 157, 12⟩, ⟨.agg ⟨[iP 1, iP 1]⟩, iN 164, 13⟩, ⟨.agg ⟨[iP 2, iP 2]⟩, iN 197, 14⟩, ⟨.agg ⟨[iP 3, iP 3]⟩, iN 395, 15⟩] 16],
   .agg ⟨[iP 3, .slice (some ⟨3, 0, none⟩) 4 18446744073709551616, .slice (some ⟨4, 0, none⟩) 1 1, .slice (some ⟨5, 0, none⟩) 2 2, iP 4, .slice none 0 0, .map (some 6)]⟩⟩
theorem sm22_h : sm22.holds EE := ent0 _ (by kernel_rfl) (by kernel_rfl)
-- decani/organ.newLoft, 16476 steps
noncomputable def sm23 : Ent :=
  ⟨55, [.agg ⟨[iP 3, .slice (some ⟨3, 0, none⟩) 3 3, .slice (some ⟨4, 0, none⟩) 1 1, .slice (some ⟨5, 0, none⟩) 2 2, iP 4, .slice none 0 0]⟩], 6,
   gC ++ [(3, .cells true 0 [iP 0, iP 1, iP 0, iP 2, iP 1, iP 2, iP 1, iP 1, iP 0, iP 2, iP 4, iP 1]),
    (4, .cells true 0 [iP 0, iP 10, iP 1]),
    (5, .cells true 0 [iP 5, iP 6, iP 20, iP 21, iP 1, iP 2, iP 2, iP 3, iP 1, iP 3, iP 5, iP 8, iP 8, iP 18, iP 18, iP 0, iP 1, iP 1, iP 1, iP 0, iP 6, iP 7])],
   [.map [⟨.agg ⟨[iP 3, iP 0]⟩, iP 11, 0⟩, ⟨.agg ⟨[iP 0, iP 3]⟩, iN 8, 1⟩, ⟨.agg ⟨[iP 3, iP 1]⟩, iP 13, 2⟩, ⟨.agg ⟨[iP 1, iP 3]⟩, iN 9, 3⟩, ⟨.agg ⟨[iP 3, iP 2]⟩, iP 15, 4⟩, ⟨.agg ⟨[iP 2, iP 3]⟩, iN 11, 5⟩, ⟨.agg ⟨[iP 0, iP 1]⟩, iP 2, 6⟩, ⟨.agg ⟨[iP 1, iP 0]⟩, iN 0, 7⟩, ⟨.agg ⟨[iP 1, iP 2]⟩, iP 2, 8⟩, ⟨.agg ⟨[iP 2, iP 1]⟩, iN 0, 9⟩, ⟨.agg ⟨[iP 0, iP 2]⟩, iP 4, 10⟩, ⟨.agg ⟨[iP 2, iP 0]⟩, iN 2, 11⟩, ⟨.agg ⟨[iP 0, iP 0]⟩, iP 0, 12⟩, ⟨.agg ⟨[iP 1, iP 1]⟩, iP 0, 13⟩, ⟨.agg ⟨[iP 2, iP 2]⟩, iP 0, 14⟩, ⟨.agg ⟨[iP 3, iP 3]⟩, iP 0, 15⟩] 16],
   .agg ⟨[iP 3, .slice (some ⟨3, 0, none⟩) 3 3, .slice (some ⟨4, 0, none⟩) 1 1, .slice (some ⟨5, 0, none⟩) 2 2, iP 4, .slice none 0 0, .map (some 6)]⟩⟩
theorem sm23_h : sm23.holds EE := ent0 _ (by kernel_rfl) (by kernel_rfl)
-- decani/organ.newLoft, 16245 steps
noncomputable def sm29 : Ent :=
  ⟨55, [.agg ⟨[iP 3, .slice (some ⟨3, 0, none⟩) 2 18446744073709551616, .slice (some ⟨4, 0, none⟩) 1 1, .slice (some ⟨5, 0, none⟩) 2 2, iP 4, .slice none 0 0]⟩], 6,
   gC ++ [(3, .cells true 5 [iP 1, iP 2, iP 1, iP 1, iP 0, iP 2, iP 4, iP 1]),
    (4, .cells true 0 [iP 0, iP 10, iP 1]),
    (5, .cells true 0 [iP 5, iP 6, iP 20, iP 21, iP 1, iP 2, iP 2, iP 3, iP 1, iP 3, iP 5, iP 8, iP 8, iP 18, iP 18, iP 0, iP 1, iP 1, iP 1, iP 0, iP 6, iP 7])],
   [.map [⟨.agg ⟨[iP 3, iP 0]⟩, iP 11, 0⟩, ⟨.agg ⟨[iP 0, iP 3]⟩, iN 8, 1⟩, ⟨.agg ⟨[iP 3, iP 1]⟩, iP 16, 2⟩, ⟨.agg ⟨[iP 1, iP 3]⟩, iN 9, 3⟩, ⟨.agg ⟨[iP 3, iP 2]⟩, iP 16, 4⟩, ⟨.agg ⟨[iP 2, iP 3]⟩, iN 11, 5⟩, ⟨.agg ⟨[iP 1, iP 2]⟩, iP 2, 6⟩, ⟨.agg ⟨[iP 2, iP 1]⟩, iP 0, 7⟩, ⟨.agg ⟨[iP 0, iP 2]⟩, iP 5, 8⟩, ⟨.agg ⟨[iP 2, iP 0]⟩, iN 2, 9⟩, ⟨.agg ⟨[iP 0, iP 0]⟩, iP 0, 10⟩, ⟨.agg ⟨[iP 0, iP 1]⟩, iP 5, 11⟩, ⟨.agg ⟨[iP 1, iP 0]⟩, iN 0, 12⟩, ⟨.agg ⟨[iP 1, iP 1]⟩, iP 0, 13⟩, ⟨.agg ⟨[iP 2, iP 2]⟩, iP 0, 14⟩, ⟨.agg ⟨[iP 3, iP 3]⟩, iP 0, 15⟩] 16],
   .agg ⟨[iP 3, .slice (some ⟨3, 0, none⟩) 2 18446744073709551616, .slice (some ⟨4, 0, none⟩) 1 1, .slice (some ⟨5, 0, none⟩) 2 2, iP 4, .slice none 0 0, .map (some 6)]⟩⟩
theorem sm29_h : sm29.holds EE := ent0 _ (by kernel_rfl) (by kernel_rfl)
end Go.Proofs.YthgfbokfaidklaaGreatDoor
