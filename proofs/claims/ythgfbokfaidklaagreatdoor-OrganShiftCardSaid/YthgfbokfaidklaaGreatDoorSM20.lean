/- Known calls, part 20: what single calls hand back, at small heaps, by the kernel's own run of the evaluator. No conditions. -/
import Derived.Test.YthgfbokfaidklaaGreatDoorSZ
set_option linter.all false
namespace Go.Proofs.YthgfbokfaidklaaGreatDoor
open Go.Ai
set_option maxRecDepth 1000000
-- decani/voice.Sings, 21662 steps
noncomputable def sm20 : Ent :=
  ⟨14, [.agg ⟨[.slice (some ⟨3, 0, none⟩) 2 2, iP 4, .slice none 0 0]⟩, iP 0, iP 0, iP 5], 4,
   gC ++ [(3, .cells true 0 [iP 5, iP 6, iP 20, iP 21, iP 1, iP 2, iP 2, iP 3, iP 1, iP 3, iP 5, iP 8, iP 8, iP 18, iP 18, iP 0, iP 1, iP 1, iP 1, iP 0, iP 6, iP 7])],
   [],
   .tuple ⟨[iP 1, iP 0]⟩⟩
theorem sm20_h : sm20.holds EE := ent0 _ (by kernel_rfl) (by kernel_rfl)
-- decani/organ.newLoft, 16468 steps
noncomputable def sm25 : Ent :=
  ⟨55, [.agg ⟨[iP 3, .slice (some ⟨3, 0, none⟩) 3 18446744073709551616, .slice (some ⟨4, 0, none⟩) 1 1, .slice (some ⟨5, 0, none⟩) 2 2, iP 4, .slice none 0 0]⟩], 6,
   gC ++ [(3, .cells true 5 [iP 0, iP 1, iP 0, iP 2, iP 1, iP 2, iP 1, iP 1, iP 0, iP 1, iP 10, iP 1]),
    (4, .cells true 0 [iP 0, iP 10, iP 1]),
    (5, .cells true 0 [iP 5, iP 6, iP 20, iP 21, iP 1, iP 2, iP 2, iP 3, iP 1, iP 3, iP 5, iP 8, iP 8, iP 18, iP 18, iP 0, iP 1, iP 1, iP 1, iP 0, iP 6, iP 7])],
   [.map [⟨.agg ⟨[iP 3, iP 0]⟩, iN 217, 0⟩, ⟨.agg ⟨[iP 0, iP 3]⟩, iN 237, 1⟩, ⟨.agg ⟨[iP 3, iP 1]⟩, iN 215, 2⟩, ⟨.agg ⟨[iP 1, iP 3]⟩, iN 246, 3⟩, ⟨.agg ⟨[iP 3, iP 2]⟩, iN 227, 4⟩, ⟨.agg ⟨[iP 2, iP 3]⟩, iN 260, 5⟩, ⟨.agg ⟨[iP 0, iP 1]⟩, iN 127, 6⟩, ⟨.agg ⟨[iP 1, iP 0]⟩, iN 138, 7⟩, ⟨.agg ⟨[iP 1, iP 2]⟩, iN 148, 8⟩, ⟨.agg ⟨[iP 2, iP 1]⟩, iN 150, 9⟩, ⟨.agg ⟨[iP 0, iP 0]⟩, iN 129, 10⟩, ⟨.agg ⟨[iP 0, iP 2]⟩, iN 139, 11⟩, ⟨.agg ⟨[iP 1, iP 1]⟩, iN 136, 12⟩, ⟨.agg ⟨[iP 2, iP 0]⟩, iN 152, 13⟩, ⟨.agg ⟨[iP 2, iP 2]⟩, iN 162, 14⟩, ⟨.agg ⟨[iP 3, iP 3]⟩, iN 325, 15⟩] 16],
   .agg ⟨[iP 3, .slice (some ⟨3, 0, none⟩) 3 18446744073709551616, .slice (some ⟨4, 0, none⟩) 1 1, .slice (some ⟨5, 0, none⟩) 2 2, iP 4, .slice none 0 0, .map (some 6)]⟩⟩
theorem sm25_h : sm25.holds EE := ent0 _ (by kernel_rfl) (by kernel_rfl)
-- decani/voice.Sings, 6613 steps
noncomputable def sm48 : Ent :=
  ⟨14, [.agg ⟨[.slice (some ⟨3, 0, none⟩) 2 2, iP 4, .slice none 0 0]⟩, iP 1, iP 0, iP 8], 4,
   gC ++ [(3, .cells true 0 [iP 5, iP 6, iP 20, iP 21, iP 1, iP 2, iP 2, iP 3, iP 1, iP 3, iP 5, iP 8, iP 8, iP 18, iP 18, iP 0, iP 1, iP 1, iP 1, iP 0, iP 6, iP 7])],
   [],
   .tuple ⟨[iP 2, iP 0]⟩⟩
theorem sm48_h : sm48.holds EE := ent0 _ (by kernel_rfl) (by kernel_rfl)
end Go.Proofs.YthgfbokfaidklaaGreatDoor
