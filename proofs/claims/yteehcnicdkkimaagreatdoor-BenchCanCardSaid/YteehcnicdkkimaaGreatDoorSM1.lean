/- Known calls, part 1: what single calls hand back, at small heaps, by the kernel's own run of the evaluator. No conditions. -/
import Derived.Test.YteehcnicdkkimaaGreatDoorSZ
set_option linter.all false
namespace Go.Proofs.YteehcnicdkkimaaGreatDoor
open Go.Ai
set_option maxRecDepth 1000000
-- decani/voice.Sings, 35757 steps
noncomputable def sm1 : Ent :=
  ⟨14, [.agg ⟨[.slice (some ⟨3, 0, none⟩) 2 2, iP 4, .slice none 0 0]⟩, iP 0, iP 0, iP 6], 4,
   gC ++ [(3, .cells true 0 [iP 5, iP 6, iP 20, iP 21, iP 1, iP 2, iP 2, iP 3, iP 1, iP 3, iP 5, iP 8, iP 8, iP 18, iP 18, iP 0, iP 1, iP 1, iP 1, iP 0, iP 6, iP 7])],
   [],
   .tuple ⟨[iP 2, iP 0]⟩⟩
theorem sm1_h : sm1.holds EE := ent0 _ (by kernel_rfl) (by kernel_rfl)
-- decani/voice.Sings, 35757 steps
noncomputable def sm4 : Ent :=
  ⟨14, [.agg ⟨[.slice (some ⟨3, 0, none⟩) 2 2, iP 4, .slice none 0 0]⟩, iP 0, iP 0, iP 18], 4,
   gC ++ [(3, .cells true 0 [iP 5, iP 6, iP 20, iP 21, iP 1, iP 2, iP 2, iP 3, iP 1, iP 3, iP 5, iP 8, iP 8, iP 18, iP 18, iP 0, iP 1, iP 1, iP 1, iP 0, iP 6, iP 7])],
   [],
   .tuple ⟨[iP 2, iP 0]⟩⟩
theorem sm4_h : sm4.holds EE := ent0 _ (by kernel_rfl) (by kernel_rfl)
-- (decani/bench.stalls).first, 1451 steps
noncomputable def sm25 : Ent :=
  ⟨58, [.agg ⟨[.slice (some ⟨3, 0, none⟩) 2 2, iP 4, .slice none 0 0, .slice (some ⟨4, 0, none⟩) 3 3, iP 1, .map (some 8), .func (.func 89) ⟨[]⟩ ⟨[]⟩]⟩, .slice (some ⟨13, 0, none⟩) 1 18446744073709551616], 14,
   gC ++ [(3, .cells true 0 [iP 5, iP 6, iP 20, iP 21, iP 1, iP 2, iP 2, iP 3, iP 1, iP 3, iP 5, iP 8, iP 8, iP 18, iP 18, iP 0, iP 1, iP 1, iP 1, iP 0, iP 6, iP 7]),
    (4, .cells true 0 [iP 0, .slice (some ⟨5, 0, none⟩) 2 2, iP 3, .slice (some ⟨6, 0, none⟩) 1 1, iP 3, .slice (some ⟨7, 0, none⟩) 1 1]),
    (5, .cells true 0 [iP 6, iP 20, iP 1, iP 8, iP 18, iP 1]),
    (6, .cells true 0 [iP 8, iP 18, iP 1]),
    (7, .cells true 0 [iP 10, iP 18, iP 1]),
    (8, .map [⟨.agg ⟨[iP 0, iP 0]⟩, .slice (some ⟨9, 0, none⟩) 1 18446744073709551616, 0⟩, ⟨.agg ⟨[iP 0, iP 1]⟩, .slice (some ⟨10, 0, none⟩) 2 18446744073709551616, 1⟩, ⟨.agg ⟨[iP 1, iP 0]⟩, .slice (some ⟨11, 0, none⟩) 1 18446744073709551616, 2⟩, ⟨.agg ⟨[iP 2, iP 0]⟩, .slice (some ⟨12, 0, none⟩) 1 18446744073709551616, 3⟩] 4),
    (9, .cells true 2 [iP 0]),
    (10, .cells true 2 [iP 0, iP 1]),
    (11, .cells true 2 [iP 1]),
    (12, .cells true 2 [iP 1]),
    (13, .cells true 3 [iP 2, iP 0])],
   [.cells true 4 [iP 2, iP 0, iP 1]],
   .tuple ⟨[.slice (some ⟨14, 0, none⟩) 1 18446744073709551616, .bool true]⟩⟩
theorem sm25_h : sm25.holds EE := ent0 _ (by kernel_rfl) (by kernel_rfl)
-- (decani/bench.stalls).first, 1451 steps
noncomputable def sm28 : Ent :=
  ⟨58, [.agg ⟨[.slice (some ⟨3, 0, none⟩) 2 2, iP 4, .slice none 0 0, .slice (some ⟨4, 0, none⟩) 3 3, iP 1, .map (some 8), .func (.func 89) ⟨[]⟩ ⟨[]⟩]⟩, .slice (some ⟨12, 0, none⟩) 1 18446744073709551616], 13,
   gC ++ [(3, .cells true 0 [iP 5, iP 6, iP 20, iP 21, iP 1, iP 2, iP 2, iP 3, iP 1, iP 3, iP 5, iP 8, iP 8, iP 18, iP 18, iP 0, iP 1, iP 1, iP 1, iP 0, iP 6, iP 7]),
    (4, .cells true 0 [iP 0, .slice (some ⟨5, 0, none⟩) 2 2, iP 3, .slice (some ⟨6, 0, none⟩) 1 1, iP 3, .slice (some ⟨7, 0, none⟩) 1 1]),
    (5, .cells true 0 [iP 6, iP 24, iP 1, iP 8, iP 18, iP 1]),
    (6, .cells true 0 [iP 8, iP 18, iP 1]),
    (7, .cells true 0 [iP 10, iP 18, iP 1]),
    (8, .map [⟨.agg ⟨[iP 0, iP 1]⟩, .slice (some ⟨9, 0, none⟩) 2 18446744073709551616, 0⟩, ⟨.agg ⟨[iP 1, iP 0]⟩, .slice (some ⟨10, 0, none⟩) 1 18446744073709551616, 1⟩, ⟨.agg ⟨[iP 2, iP 0]⟩, .slice (some ⟨11, 0, none⟩) 1 18446744073709551616, 2⟩] 3),
    (9, .cells true 2 [iP 0, iP 1]),
    (10, .cells true 2 [iP 1]),
    (11, .cells true 2 [iP 1]),
    (12, .cells true 3 [iP 1, iP 0])],
   [.cells true 4 [iP 1, iP 0, iP 1]],
   .tuple ⟨[.slice (some ⟨13, 0, none⟩) 1 18446744073709551616, .bool true]⟩⟩
theorem sm28_h : sm28.holds EE := ent0 _ (by kernel_rfl) (by kernel_rfl)
-- (decani/bench.stalls).first, 1371 steps
noncomputable def sm32 : Ent :=
  ⟨58, [.agg ⟨[.slice (some ⟨3, 0, none⟩) 2 2, iP 4, .slice none 0 0, .slice (some ⟨4, 0, none⟩) 3 3, iP 1, .map (some 8), .func (.func 111) ⟨[]⟩ ⟨[.pointer (some ⟨12, 0, none⟩)]⟩]⟩, .slice (some ⟨13, 0, none⟩) 1 18446744073709551616], 14,
   gC ++ [(3, .cells true 0 [iP 5, iP 6, iP 20, iP 21, iP 1, iP 2, iP 2, iP 3, iP 1, iP 3, iP 5, iP 8, iP 8, iP 18, iP 18, iP 0, iP 1, iP 1, iP 1, iP 0, iP 6, iP 7]),
    (4, .cells true 0 [iP 0, .slice (some ⟨5, 0, none⟩) 2 2, iP 3, .slice (some ⟨6, 0, none⟩) 1 1, iP 3, .slice (some ⟨7, 0, none⟩) 1 1]),
    (5, .cells true 0 [iP 6, iP 24, iP 1, iP 8, iP 18, iP 1]),
    (6, .cells true 0 [iP 8, iP 18, iP 1]),
    (7, .cells true 0 [iP 10, iP 18, iP 1]),
    (8, .map [⟨.agg ⟨[iP 0, iP 1]⟩, .slice (some ⟨9, 0, none⟩) 2 18446744073709551616, 0⟩, ⟨.agg ⟨[iP 1, iP 0]⟩, .slice (some ⟨10, 0, none⟩) 1 18446744073709551616, 1⟩, ⟨.agg ⟨[iP 2, iP 0]⟩, .slice (some ⟨11, 0, none⟩) 1 18446744073709551616, 2⟩] 3),
    (9, .cells true 2 [iP 0, iP 1]),
    (10, .cells true 2 [iP 1]),
    (11, .cells true 2 [iP 1]),
    (12, .cells true 0 [iP 0]),
    (13, .cells true 3 [iP 1, iP 0])],
   [.cells true 4 [iP 1, iP 0, iP 1]],
   .tuple ⟨[.slice (some ⟨14, 0, none⟩) 1 18446744073709551616, .bool true]⟩⟩
theorem sm32_h : sm32.holds EE := ent0 _ (by kernel_rfl) (by kernel_rfl)
-- (decani/bench.stalls).first, 1174 steps
noncomputable def sm38 : Ent :=
  ⟨58, [.agg ⟨[.slice (some ⟨3, 0, none⟩) 2 2, iP 4, .slice none 0 0, .slice (some ⟨4, 0, none⟩) 3 3, iP 1, .map (some 8), .func (.func 111) ⟨[]⟩ ⟨[.pointer (some ⟨12, 0, none⟩)]⟩]⟩, .slice (some ⟨13, 0, none⟩) 3 18446744073709551616], 14,
   gC ++ [(3, .cells true 0 [iP 5, iP 6, iP 20, iP 21, iP 1, iP 2, iP 2, iP 3, iP 1, iP 3, iP 5, iP 8, iP 8, iP 18, iP 18, iP 0, iP 1, iP 1, iP 1, iP 0, iP 6, iP 7]),
    (4, .cells true 0 [iP 0, .slice (some ⟨5, 0, none⟩) 2 2, iP 3, .slice (some ⟨6, 0, none⟩) 1 1, iP 3, .slice (some ⟨7, 0, none⟩) 1 1]),
    (5, .cells true 0 [iP 6, iP 24, iP 1, iP 8, iP 18, iP 1]),
    (6, .cells true 0 [iP 8, iP 18, iP 1]),
    (7, .cells true 0 [iP 10, iP 18, iP 1]),
    (8, .map [⟨.agg ⟨[iP 0, iP 1]⟩, .slice (some ⟨9, 0, none⟩) 2 18446744073709551616, 0⟩, ⟨.agg ⟨[iP 1, iP 0]⟩, .slice (some ⟨10, 0, none⟩) 1 18446744073709551616, 1⟩, ⟨.agg ⟨[iP 2, iP 0]⟩, .slice (some ⟨11, 0, none⟩) 1 18446744073709551616, 2⟩] 3),
    (9, .cells true 2 [iP 0, iP 1]),
    (10, .cells true 2 [iP 1]),
    (11, .cells true 2 [iP 1]),
    (12, .cells true 0 [iP 0]),
    (13, .cells true 3 [iP 0, iP 0, iP 0, iP 1, iP 1, iP 0])],
   [],
   .tuple ⟨[.slice none 0 0, .bool false]⟩⟩
theorem sm38_h : sm38.holds EE := ent0 _ (by kernel_rfl) (by kernel_rfl)
-- (decani/bench.stalls).first, 959 steps
noncomputable def sm42 : Ent :=
  ⟨58, [.agg ⟨[.slice (some ⟨3, 0, none⟩) 2 2, iP 4, .slice none 0 0, .slice (some ⟨4, 0, none⟩) 3 3, iP 1, .map (some 8), .func (.func 111) ⟨[]⟩ ⟨[.pointer (some ⟨12, 0, none⟩)]⟩]⟩, .slice (some ⟨13, 0, none⟩) 2 18446744073709551616], 14,
   gC ++ [(3, .cells true 0 [iP 5, iP 6, iP 20, iP 21, iP 1, iP 2, iP 2, iP 3, iP 1, iP 3, iP 5, iP 8, iP 8, iP 18, iP 18, iP 0, iP 1, iP 1, iP 1, iP 0, iP 6, iP 7]),
    (4, .cells true 0 [iP 0, .slice (some ⟨5, 0, none⟩) 2 2, iP 3, .slice (some ⟨6, 0, none⟩) 1 1, iP 3, .slice (some ⟨7, 0, none⟩) 1 1]),
    (5, .cells true 0 [iP 6, iP 24, iP 1, iP 8, iP 18, iP 1]),
    (6, .cells true 0 [iP 8, iP 18, iP 1]),
    (7, .cells true 0 [iP 10, iP 18, iP 1]),
    (8, .map [⟨.agg ⟨[iP 0, iP 1]⟩, .slice (some ⟨9, 0, none⟩) 2 18446744073709551616, 0⟩, ⟨.agg ⟨[iP 1, iP 0]⟩, .slice (some ⟨10, 0, none⟩) 1 18446744073709551616, 1⟩, ⟨.agg ⟨[iP 2, iP 0]⟩, .slice (some ⟨11, 0, none⟩) 1 18446744073709551616, 2⟩] 3),
    (9, .cells true 2 [iP 0, iP 1]),
    (10, .cells true 2 [iP 1]),
    (11, .cells true 2 [iP 1]),
    (12, .cells true 0 [iP 1]),
    (13, .cells true 3 [iP 1, iP 0, iP 2, iP 0])],
   [],
   .tuple ⟨[.slice none 0 0, .bool false]⟩⟩
theorem sm42_h : sm42.holds EE := ent0 _ (by kernel_rfl) (by kernel_rfl)
-- (decani/bench.stalls).first, 734 steps
noncomputable def sm45 : Ent :=
  ⟨58, [.agg ⟨[.slice (some ⟨3, 0, none⟩) 2 2, iP 4, .slice none 0 0, .slice (some ⟨4, 0, none⟩) 3 3, iP 1, .map (some 8), .func (.func 89) ⟨[]⟩ ⟨[]⟩]⟩, .slice (some ⟨12, 0, none⟩) 1 1], 13,
   gC ++ [(3, .cells true 0 [iP 5, iP 6, iP 20, iP 21, iP 1, iP 2, iP 2, iP 3, iP 1, iP 3, iP 5, iP 8, iP 8, iP 18, iP 18, iP 0, iP 1, iP 1, iP 1, iP 0, iP 6, iP 7]),
    (4, .cells true 0 [iP 0, .slice (some ⟨5, 0, none⟩) 2 2, iP 3, .slice (some ⟨6, 0, none⟩) 1 1, iP 3, .slice (some ⟨7, 0, none⟩) 1 1]),
    (5, .cells true 0 [iP 6, iP 24, iP 1, iP 8, iP 18, iP 1]),
    (6, .cells true 0 [iP 8, iP 18, iP 1]),
    (7, .cells true 0 [iP 10, iP 18, iP 1]),
    (8, .map [⟨.agg ⟨[iP 0, iP 1]⟩, .slice (some ⟨9, 0, none⟩) 2 18446744073709551616, 0⟩, ⟨.agg ⟨[iP 1, iP 0]⟩, .slice (some ⟨10, 0, none⟩) 1 18446744073709551616, 1⟩, ⟨.agg ⟨[iP 2, iP 0]⟩, .slice (some ⟨11, 0, none⟩) 1 18446744073709551616, 2⟩] 3),
    (9, .cells true 2 [iP 0, iP 1]),
    (10, .cells true 2 [iP 1]),
    (11, .cells true 2 [iP 1]),
    (12, .cells true 3 [iP 0, iP 0, iP 0, iP 1])],
   [],
   .tuple ⟨[.slice none 0 0, .bool false]⟩⟩
theorem sm45_h : sm45.holds EE := ent0 _ (by kernel_rfl) (by kernel_rfl)
-- (decani/bench.stalls).first, 150 steps
noncomputable def sm48 : Ent :=
  ⟨58, [.agg ⟨[.slice (some ⟨3, 0, none⟩) 2 2, iP 4, .slice none 0 0, .slice (some ⟨4, 0, none⟩) 3 3, iP 1, .map (some 8), .func (.func 89) ⟨[]⟩ ⟨[]⟩]⟩, .slice none 0 0], 13,
   gC ++ [(3, .cells true 0 [iP 5, iP 6, iP 20, iP 21, iP 1, iP 2, iP 2, iP 3, iP 1, iP 3, iP 5, iP 8, iP 8, iP 18, iP 18, iP 0, iP 1, iP 1, iP 1, iP 0, iP 6, iP 7]),
    (4, .cells true 0 [iP 0, .slice (some ⟨5, 0, none⟩) 2 2, iP 3, .slice (some ⟨6, 0, none⟩) 1 1, iP 3, .slice (some ⟨7, 0, none⟩) 1 1]),
    (5, .cells true 0 [iP 6, iP 20, iP 1, iP 8, iP 18, iP 1]),
    (6, .cells true 0 [iP 8, iP 18, iP 1]),
    (7, .cells true 0 [iP 10, iP 18, iP 1]),
    (8, .map [⟨.agg ⟨[iP 0, iP 0]⟩, .slice (some ⟨9, 0, none⟩) 1 18446744073709551616, 0⟩, ⟨.agg ⟨[iP 0, iP 1]⟩, .slice (some ⟨10, 0, none⟩) 2 18446744073709551616, 1⟩, ⟨.agg ⟨[iP 1, iP 0]⟩, .slice (some ⟨11, 0, none⟩) 1 18446744073709551616, 2⟩, ⟨.agg ⟨[iP 2, iP 0]⟩, .slice (some ⟨12, 0, none⟩) 1 18446744073709551616, 3⟩] 4),
    (9, .cells true 2 [iP 0]),
    (10, .cells true 2 [iP 0, iP 1]),
    (11, .cells true 2 [iP 1]),
    (12, .cells true 2 [iP 1])],
   [],
   .tuple ⟨[.slice none 0 0, .bool true]⟩⟩
theorem sm48_h : sm48.holds EE := ent0 _ (by kernel_rfl) (by kernel_rfl)
end Go.Proofs.YteehcnicdkkimaaGreatDoor
