/- Known calls, part 0: what single calls hand back, at small heaps, by the kernel's own run of the evaluator. No conditions. -/
import Derived.Test.YtlnbhokokhecdaaGreatDoorFZ
set_option linter.all false
namespace Go.Proofs.YtlnbhokokhecdaaGreatDoor
open Go.Ai
set_option maxRecDepth 1000000
-- decani/office.Chief, 19220 steps
noncomputable def fd0 : Ent :=
  ⟨71, [.agg ⟨[iP 4, iP 28, .slice (some ⟨3, 0, none⟩) 3 3, .slice (some ⟨4, 0, none⟩) 2 2, .bool false, .slice (some ⟨5, 0, none⟩) 1 1, .bool true, .slice (some ⟨6, 0, none⟩) 1 1]⟩, iP 0, iP 0], 7,
   gC ++ [(3, .cells true 0 [iP 1, iP 2, iP 2, iP 1, iP 1, iP 1, iP 2, iP 2, iP 1]),
    (4, .cells true 0 [iP 1, iP 2, iP 1, iP 1, iP 1, iP 2]),
    (5, .cells true 0 [iP 1, iP 2, iP 2]),
    (6, .cells true 0 [iP 0, iP 3, iP 2])],
   [.cells true 2 [iN 0]],
   .tuple ⟨[.slice (some ⟨7, 0, none⟩) 1 18446744073709551616, iP 0]⟩⟩
theorem fd0_h : fd0.holds EE := ent0 _ (by kernel_rfl) (by kernel_rfl)
-- decani/office.Chief, 19220 steps
noncomputable def fd2 : Ent :=
  ⟨71, [.agg ⟨[iP 4, iP 28, .slice (some ⟨3, 0, none⟩) 3 3, .slice (some ⟨4, 0, none⟩) 2 2, .bool false, .slice (some ⟨5, 0, none⟩) 1 1, .bool true, .slice (some ⟨6, 0, none⟩) 1 1]⟩, iP 0, iP 2], 7,
   gC ++ [(3, .cells true 0 [iP 1, iP 2, iP 2, iP 1, iP 1, iP 1, iP 2, iP 2, iP 1]),
    (4, .cells true 0 [iP 1, iP 2, iP 1, iP 1, iP 1, iP 2]),
    (5, .cells true 0 [iP 1, iP 2, iP 2]),
    (6, .cells true 0 [iP 0, iP 3, iP 2])],
   [.cells true 2 [iP 0]],
   .tuple ⟨[.slice (some ⟨7, 0, none⟩) 1 18446744073709551616, iP 0]⟩⟩
theorem fd2_h : fd2.holds EE := ent0 _ (by kernel_rfl) (by kernel_rfl)
-- decani/office.Chief, 19220 steps
noncomputable def fd4 : Ent :=
  ⟨71, [.agg ⟨[iP 4, iP 28, .slice (some ⟨3, 0, none⟩) 3 3, .slice (some ⟨4, 0, none⟩) 2 2, .bool false, .slice (some ⟨5, 0, none⟩) 1 1, .bool true, .slice (some ⟨6, 0, none⟩) 1 1]⟩, iP 1, iP 0], 7,
   gC ++ [(3, .cells true 0 [iP 1, iP 2, iP 2, iP 1, iP 1, iP 1, iP 2, iP 2, iP 1]),
    (4, .cells true 0 [iP 1, iP 2, iP 1, iP 1, iP 1, iP 2]),
    (5, .cells true 0 [iP 1, iP 2, iP 2]),
    (6, .cells true 0 [iP 0, iP 3, iP 2])],
   [.cells true 2 [iN 0]],
   .tuple ⟨[.slice (some ⟨7, 0, none⟩) 1 18446744073709551616, iP 0]⟩⟩
theorem fd4_h : fd4.holds EE := ent0 _ (by kernel_rfl) (by kernel_rfl)
-- decani/office.Chief, 19220 steps
noncomputable def fd6 : Ent :=
  ⟨71, [.agg ⟨[iP 4, iP 28, .slice (some ⟨3, 0, none⟩) 3 3, .slice (some ⟨4, 0, none⟩) 2 2, .bool false, .slice (some ⟨5, 0, none⟩) 1 1, .bool true, .slice (some ⟨6, 0, none⟩) 1 1]⟩, iP 1, iP 2], 7,
   gC ++ [(3, .cells true 0 [iP 1, iP 2, iP 2, iP 1, iP 1, iP 1, iP 2, iP 2, iP 1]),
    (4, .cells true 0 [iP 1, iP 2, iP 1, iP 1, iP 1, iP 2]),
    (5, .cells true 0 [iP 1, iP 2, iP 2]),
    (6, .cells true 0 [iP 0, iP 3, iP 2])],
   [.cells true 2 [iP 0]],
   .tuple ⟨[.slice (some ⟨7, 0, none⟩) 1 18446744073709551616, iP 0]⟩⟩
theorem fd6_h : fd6.holds EE := ent0 _ (by kernel_rfl) (by kernel_rfl)
-- decani/office.Chief, 16833 steps
noncomputable def fd8 : Ent :=
  ⟨71, [.agg ⟨[iP 4, iP 28, .slice (some ⟨3, 0, none⟩) 3 3, .slice (some ⟨4, 0, none⟩) 2 2, .bool false, .slice (some ⟨5, 0, none⟩) 1 1, .bool true, .slice none 0 0]⟩, iP 0, iP 2], 6,
   gC ++ [(3, .cells true 0 [iP 1, iP 2, iP 2, iP 1, iP 1, iP 1, iP 2, iP 2, iP 1]),
    (4, .cells true 0 [iP 1, iP 2, iP 1, iP 1, iP 1, iP 2]),
    (5, .cells true 0 [iP 1, iP 2, iP 2])],
   [.cells true 2 [iP 0, iP 1]],
   .tuple ⟨[.slice (some ⟨6, 0, none⟩) 2 18446744073709551616, iP 0]⟩⟩
theorem fd8_h : fd8.holds EE := ent0 _ (by kernel_rfl) (by kernel_rfl)
-- decani/office.Chief, 16800 steps
noncomputable def fd10 : Ent :=
  ⟨71, [.agg ⟨[iP 4, iP 28, .slice (some ⟨3, 0, none⟩) 3 3, .slice (some ⟨4, 0, none⟩) 2 2, .bool false, .slice (some ⟨5, 0, none⟩) 1 1, .bool true, .slice none 0 0]⟩, iP 0, iP 0], 6,
   gC ++ [(3, .cells true 0 [iP 1, iP 2, iP 2, iP 1, iP 1, iP 1, iP 2, iP 2, iP 1]),
    (4, .cells true 0 [iP 1, iP 2, iP 1, iP 1, iP 1, iP 2]),
    (5, .cells true 0 [iP 1, iP 2, iP 2])],
   [.cells true 2 [iN 0, iP 0]],
   .tuple ⟨[.slice (some ⟨6, 0, none⟩) 1 18446744073709551616, iP 0]⟩⟩
theorem fd10_h : fd10.holds EE := ent0 _ (by kernel_rfl) (by kernel_rfl)
-- decani/office.Chief, 16800 steps
noncomputable def fd12 : Ent :=
  ⟨71, [.agg ⟨[iP 4, iP 28, .slice (some ⟨3, 0, none⟩) 3 3, .slice (some ⟨4, 0, none⟩) 2 2, .bool false, .slice (some ⟨5, 0, none⟩) 1 1, .bool true, .slice none 0 0]⟩, iP 1, iP 3], 6,
   gC ++ [(3, .cells true 0 [iP 1, iP 2, iP 2, iP 1, iP 1, iP 1, iP 2, iP 2, iP 1]),
    (4, .cells true 0 [iP 1, iP 2, iP 1, iP 1, iP 1, iP 2]),
    (5, .cells true 0 [iP 1, iP 2, iP 2])],
   [.cells true 2 [iN 0, iP 0]],
   .tuple ⟨[.slice (some ⟨6, 0, none⟩) 1 18446744073709551616, iP 0]⟩⟩
theorem fd12_h : fd12.holds EE := ent0 _ (by kernel_rfl) (by kernel_rfl)
-- decani/office.Chief, 16784 steps
noncomputable def fd15 : Ent :=
  ⟨71, [.agg ⟨[iP 4, iP 28, .slice (some ⟨3, 0, none⟩) 3 3, .slice (some ⟨4, 0, none⟩) 2 2, .bool false, .slice (some ⟨5, 0, none⟩) 1 1, .bool true, .slice none 0 0]⟩, iP 1, iP 1], 6,
   gC ++ [(3, .cells true 0 [iP 1, iP 2, iP 2, iP 1, iP 1, iP 1, iP 2, iP 2, iP 1]),
    (4, .cells true 0 [iP 1, iP 2, iP 1, iP 1, iP 1, iP 2]),
    (5, .cells true 0 [iP 1, iP 2, iP 2])],
   [.cells true 2 [iP 0, iP 1]],
   .tuple ⟨[.slice (some ⟨6, 0, none⟩) 2 18446744073709551616, iP 0]⟩⟩
theorem fd15_h : fd15.holds EE := ent0 _ (by kernel_rfl) (by kernel_rfl)
end Go.Proofs.YtlnbhokokhecdaaGreatDoor
