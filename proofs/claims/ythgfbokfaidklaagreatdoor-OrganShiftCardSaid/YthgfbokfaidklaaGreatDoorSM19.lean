/- Known calls, part 19: what single calls hand back, at small heaps, by the kernel's own run of the evaluator. No conditions. -/
import Derived.Test.YthgfbokfaidklaaGreatDoorSZ
set_option linter.all false
namespace Go.Proofs.YthgfbokfaidklaaGreatDoor
open Go.Ai
set_option maxRecDepth 1000000
-- decani/voice.Sings, 32009 steps
noncomputable def sm19 : Ent :=
  ⟨14, [.agg ⟨[.slice (some ⟨3, 0, none⟩) 2 2, iP 4, .slice none 0 0]⟩, iP 0, iP 0, iP 4], 4,
   gC ++ [(3, .cells true 0 [iP 5, iP 6, iP 20, iP 21, iP 1, iP 2, iP 2, iP 3, iP 1, iP 3, iP 5, iP 8, iP 8, iP 18, iP 18, iP 0, iP 1, iP 1, iP 1, iP 0, iP 6, iP 7])],
   [],
   .tuple ⟨[iP 0, iP 0]⟩⟩
theorem sm19_h : sm19.holds EE := ent0 _ (by kernel_rfl) (by kernel_rfl)
-- decani/organ.newLoft, 16245 steps
noncomputable def sm28 : Ent :=
  ⟨55, [.agg ⟨[iP 3, .slice (some ⟨3, 0, none⟩) 2 18446744073709551616, .slice (some ⟨4, 0, none⟩) 1 1, .slice (some ⟨5, 0, none⟩) 2 2, iP 4, .slice none 0 0]⟩], 6,
   gC ++ [(3, .cells true 5 [iP 1, iP 2, iP 1, iP 1, iP 0, iP 1, iP 10, iP 1]),
    (4, .cells true 0 [iP 0, iP 10, iP 1]),
    (5, .cells true 0 [iP 5, iP 6, iP 20, iP 21, iP 1, iP 2, iP 2, iP 3, iP 1, iP 3, iP 5, iP 8, iP 8, iP 18, iP 18, iP 0, iP 1, iP 1, iP 1, iP 0, iP 6, iP 7])],
   [.map [⟨.agg ⟨[iP 3, iP 0]⟩, iP 11, 0⟩, ⟨.agg ⟨[iP 0, iP 3]⟩, iN 8, 1⟩, ⟨.agg ⟨[iP 3, iP 1]⟩, iP 22, 2⟩, ⟨.agg ⟨[iP 1, iP 3]⟩, iN 17, 3⟩, ⟨.agg ⟨[iP 3, iP 2]⟩, iP 24, 4⟩, ⟨.agg ⟨[iP 2, iP 3]⟩, iN 17, 5⟩, ⟨.agg ⟨[iP 1, iP 2]⟩, iP 2, 6⟩, ⟨.agg ⟨[iP 2, iP 1]⟩, iP 0, 7⟩, ⟨.agg ⟨[iP 0, iP 1]⟩, iP 11, 8⟩, ⟨.agg ⟨[iP 1, iP 0]⟩, iN 8, 9⟩, ⟨.agg ⟨[iP 0, iP 0]⟩, iP 0, 10⟩, ⟨.agg ⟨[iP 0, iP 2]⟩, iP 13, 11⟩, ⟨.agg ⟨[iP 1, iP 1]⟩, iP 0, 12⟩, ⟨.agg ⟨[iP 2, iP 0]⟩, iN 8, 13⟩, ⟨.agg ⟨[iP 2, iP 2]⟩, iP 0, 14⟩, ⟨.agg ⟨[iP 3, iP 3]⟩, iP 0, 15⟩] 16],
   .agg ⟨[iP 3, .slice (some ⟨3, 0, none⟩) 2 18446744073709551616, .slice (some ⟨4, 0, none⟩) 1 1, .slice (some ⟨5, 0, none⟩) 2 2, iP 4, .slice none 0 0, .map (some 6)]⟩⟩
theorem sm28_h : sm28.holds EE := ent0 _ (by kernel_rfl) (by kernel_rfl)
end Go.Proofs.YthgfbokfaidklaaGreatDoor
