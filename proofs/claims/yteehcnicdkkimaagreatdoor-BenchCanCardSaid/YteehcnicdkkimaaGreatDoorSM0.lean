/- Known calls, part 0: what single calls hand back, at small heaps, by the kernel's own run of the evaluator. No conditions. -/
import Derived.Test.YteehcnicdkkimaaGreatDoorSZ
set_option linter.all false
namespace Go.Proofs.YteehcnicdkkimaaGreatDoor
open Go.Ai
set_option maxRecDepth 1000000
-- decani/voice.Sings, 36860 steps
noncomputable def sm0 : Ent :=
  ⟨14, [.agg ⟨[.slice (some ⟨3, 0, none⟩) 2 2, iP 4, .slice none 0 0]⟩, iP 0, iP 0, iP 24], 4,
   gC ++ [(3, .cells true 0 [iP 5, iP 6, iP 20, iP 21, iP 1, iP 2, iP 2, iP 3, iP 1, iP 3, iP 5, iP 8, iP 8, iP 18, iP 18, iP 0, iP 1, iP 1, iP 1, iP 0, iP 6, iP 7])],
   [],
   .tuple ⟨[iP 0, iP 0]⟩⟩
theorem sm0_h : sm0.holds EE := ent0 _ (by kernel_rfl) (by kernel_rfl)
-- (decani/bench.stalls).first, 6965 steps
noncomputable def sm7 : Ent :=
  ⟨58, [.agg ⟨[.slice (some ⟨3, 0, none⟩) 2 2, iP 4, .slice none 0 0, .slice (some ⟨4, 0, none⟩) 3 3, iP 1, .map (some 8), .func (.func 89) ⟨[]⟩ ⟨[]⟩]⟩, .slice (some ⟨13, 0, none⟩) 4 18446744073709551616], 14,
   gC ++ [(3, .cells true 0 [iP 5, iP 6, iP 20, iP 21, iP 1, iP 2, iP 2, iP 3, iP 1, iP 3, iP 5, iP 8, iP 8, iP 18, iP 18, iP 0, iP 1, iP 1, iP 1, iP 0, iP 6, iP 7]),
    (4, .cells true 0 [iP 0, .slice (some ⟨5, 0, none⟩) 2 2, iP 3, .slice (some ⟨6, 0, none⟩) 1 1, iP 3, .slice (some ⟨7, 0, none⟩) 1 1]),
    (5, .cells true 0 [iP 6, iP 20, iP 1, iP 8, iP 18, iP 1]),
    (6, .cells true 0 [iP 8, iP 18, iP 1]),
    (7, .cells true 0 [iP 10, iP 18, iP 1]),
    (8, .map [⟨.agg ⟨[iP 0, iP 0]⟩, .slice (some ⟨9, 0, none⟩) 1 18446744073709551616, 0⟩, ⟨.agg ⟨[iP 0, iP 1]⟩, .slice (some ⟨10, 0, none⟩) 2 18446744073709551616, 1⟩, ⟨.agg ⟨[iP 1, iP 0]⟩, .slice (some ⟨11, 0, none⟩) 1 18446744073709551616, 2⟩, ⟨.agg ⟨[iP 2, iP 0]⟩, .slice (some ⟨12, 0, none⟩) 1 18446744073709551616, 3⟩] 4),
    (9, .cells true 2 [iP 0]),
    (10, .cells true 2 [iP 0, iP 1]),
    (11, .cells true 2 [iP 1]),
    (12, .cells true 2 [iP 1]),
    (13, .cells true 3 [iP 0, iP 0, iP 0, iP 1, iP 1, iP 0, iP 2, iP 0])],
   [],
   .tuple ⟨[.slice none 0 0, .bool false]⟩⟩
theorem sm7_h : sm7.holds EE := ent0 _ (by kernel_rfl) (by kernel_rfl)
-- decani/voice.Sings, 6625 steps
noncomputable def sm10 : Ent :=
  ⟨14, [.agg ⟨[.slice (some ⟨3, 0, none⟩) 2 2, iP 4, .slice none 0 0]⟩, iP 1, iP 3, iP 18], 4,
   gC ++ [(3, .cells true 0 [iP 5, iP 6, iP 20, iP 21, iP 1, iP 2, iP 2, iP 3, iP 1, iP 3, iP 5, iP 8, iP 8, iP 18, iP 18, iP 0, iP 1, iP 1, iP 1, iP 0, iP 6, iP 7])],
   [],
   .tuple ⟨[iP 2, iP 0]⟩⟩
theorem sm10_h : sm10.holds EE := ent0 _ (by kernel_rfl) (by kernel_rfl)
-- decani/voice.Sings, 6613 steps
noncomputable def sm13 : Ent :=
  ⟨14, [.agg ⟨[.slice (some ⟨3, 0, none⟩) 2 2, iP 4, .slice none 0 0]⟩, iP 1, iP 0, iP 18], 4,
   gC ++ [(3, .cells true 0 [iP 5, iP 6, iP 20, iP 21, iP 1, iP 2, iP 2, iP 3, iP 1, iP 3, iP 5, iP 8, iP 8, iP 18, iP 18, iP 0, iP 1, iP 1, iP 1, iP 0, iP 6, iP 7])],
   [],
   .tuple ⟨[iP 2, iP 0]⟩⟩
theorem sm13_h : sm13.holds EE := ent0 _ (by kernel_rfl) (by kernel_rfl)
-- (decani/bench.stalls).first, 5051 steps
noncomputable def sm16 : Ent :=
  ⟨58, [.agg ⟨[.slice (some ⟨3, 0, none⟩) 2 2, iP 4, .slice none 0 0, .slice (some ⟨4, 0, none⟩) 3 3, iP 1, .map (some 8), .func (.func 89) ⟨[]⟩ ⟨[]⟩]⟩, .slice (some ⟨13, 0, none⟩) 3 18446744073709551616], 14,
   gC ++ [(3, .cells true 0 [iP 5, iP 6, iP 20, iP 21, iP 1, iP 2, iP 2, iP 3, iP 1, iP 3, iP 5, iP 8, iP 8, iP 18, iP 18, iP 0, iP 1, iP 1, iP 1, iP 0, iP 6, iP 7]),
    (4, .cells true 0 [iP 0, .slice (some ⟨5, 0, none⟩) 2 2, iP 3, .slice (some ⟨6, 0, none⟩) 1 1, iP 3, .slice (some ⟨7, 0, none⟩) 1 1]),
    (5, .cells true 0 [iP 6, iP 20, iP 1, iP 8, iP 18, iP 1]),
    (6, .cells true 0 [iP 8, iP 18, iP 1]),
    (7, .cells true 0 [iP 10, iP 18, iP 1]),
    (8, .map [⟨.agg ⟨[iP 0, iP 0]⟩, .slice (some ⟨9, 0, none⟩) 1 18446744073709551616, 0⟩, ⟨.agg ⟨[iP 0, iP 1]⟩, .slice (some ⟨10, 0, none⟩) 2 18446744073709551616, 1⟩, ⟨.agg ⟨[iP 1, iP 0]⟩, .slice (some ⟨11, 0, none⟩) 1 18446744073709551616, 2⟩, ⟨.agg ⟨[iP 2, iP 0]⟩, .slice (some ⟨12, 0, none⟩) 1 18446744073709551616, 3⟩] 4),
    (9, .cells true 2 [iP 0]),
    (10, .cells true 2 [iP 0, iP 1]),
    (11, .cells true 2 [iP 1]),
    (12, .cells true 2 [iP 1]),
    (13, .cells true 3 [iP 0, iP 0, iP 0, iP 1, iP 2, iP 0])],
   [.cells true 4 [iP 0, iP 0, iP 0, iP 0, iP 1, iP 1, iP 2, iP 0, iP 1]],
   .tuple ⟨[.slice (some ⟨14, 0, none⟩) 3 18446744073709551616, .bool true]⟩⟩
theorem sm16_h : sm16.holds EE := ent0 _ (by kernel_rfl) (by kernel_rfl)
-- (decani/bench.stalls).first, 5051 steps
noncomputable def sm17 : Ent :=
  ⟨58, [.agg ⟨[.slice (some ⟨3, 0, none⟩) 2 2, iP 4, .slice none 0 0, .slice (some ⟨4, 0, none⟩) 3 3, iP 1, .map (some 8), .func (.func 89) ⟨[]⟩ ⟨[]⟩]⟩, .slice (some ⟨13, 0, none⟩) 3 18446744073709551616], 14,
   gC ++ [(3, .cells true 0 [iP 5, iP 6, iP 20, iP 21, iP 1, iP 2, iP 2, iP 3, iP 1, iP 3, iP 5, iP 8, iP 8, iP 18, iP 18, iP 0, iP 1, iP 1, iP 1, iP 0, iP 6, iP 7]),
    (4, .cells true 0 [iP 0, .slice (some ⟨5, 0, none⟩) 2 2, iP 3, .slice (some ⟨6, 0, none⟩) 1 1, iP 3, .slice (some ⟨7, 0, none⟩) 1 1]),
    (5, .cells true 0 [iP 6, iP 20, iP 1, iP 8, iP 18, iP 1]),
    (6, .cells true 0 [iP 8, iP 18, iP 1]),
    (7, .cells true 0 [iP 10, iP 18, iP 1]),
    (8, .map [⟨.agg ⟨[iP 0, iP 0]⟩, .slice (some ⟨9, 0, none⟩) 1 18446744073709551616, 0⟩, ⟨.agg ⟨[iP 0, iP 1]⟩, .slice (some ⟨10, 0, none⟩) 2 18446744073709551616, 1⟩, ⟨.agg ⟨[iP 1, iP 0]⟩, .slice (some ⟨11, 0, none⟩) 1 18446744073709551616, 2⟩, ⟨.agg ⟨[iP 2, iP 0]⟩, .slice (some ⟨12, 0, none⟩) 1 18446744073709551616, 3⟩] 4),
    (9, .cells true 2 [iP 0]),
    (10, .cells true 2 [iP 0, iP 1]),
    (11, .cells true 2 [iP 1]),
    (12, .cells true 2 [iP 1]),
    (13, .cells true 3 [iP 0, iP 0, iP 0, iP 1, iP 1, iP 0])],
   [.cells true 4 [iP 0, iP 0, iP 0, iP 0, iP 1, iP 1, iP 1, iP 0, iP 1]],
   .tuple ⟨[.slice (some ⟨14, 0, none⟩) 3 18446744073709551616, .bool true]⟩⟩
theorem sm17_h : sm17.holds EE := ent0 _ (by kernel_rfl) (by kernel_rfl)
-- (decani/bench.stalls).first, 2968 steps
noncomputable def sm22 : Ent :=
  ⟨58, [.agg ⟨[.slice (some ⟨3, 0, none⟩) 2 2, iP 4, .slice none 0 0, .slice (some ⟨4, 0, none⟩) 3 3, iP 1, .map (some 8), .func (.func 89) ⟨[]⟩ ⟨[]⟩]⟩, .slice (some ⟨12, 0, none⟩) 2 18446744073709551616], 13,
   gC ++ [(3, .cells true 0 [iP 5, iP 6, iP 20, iP 21, iP 1, iP 2, iP 2, iP 3, iP 1, iP 3, iP 5, iP 8, iP 8, iP 18, iP 18, iP 0, iP 1, iP 1, iP 1, iP 0, iP 6, iP 7]),
    (4, .cells true 0 [iP 0, .slice (some ⟨5, 0, none⟩) 2 2, iP 3, .slice (some ⟨6, 0, none⟩) 1 1, iP 3, .slice (some ⟨7, 0, none⟩) 1 1]),
    (5, .cells true 0 [iP 6, iP 24, iP 1, iP 8, iP 18, iP 1]),
    (6, .cells true 0 [iP 8, iP 18, iP 1]),
    (7, .cells true 0 [iP 10, iP 18, iP 1]),
    (8, .map [⟨.agg ⟨[iP 0, iP 1]⟩, .slice (some ⟨9, 0, none⟩) 2 18446744073709551616, 0⟩, ⟨.agg ⟨[iP 1, iP 0]⟩, .slice (some ⟨10, 0, none⟩) 1 18446744073709551616, 1⟩, ⟨.agg ⟨[iP 2, iP 0]⟩, .slice (some ⟨11, 0, none⟩) 1 18446744073709551616, 2⟩] 3),
    (9, .cells true 2 [iP 0, iP 1]),
    (10, .cells true 2 [iP 1]),
    (11, .cells true 2 [iP 1]),
    (12, .cells true 3 [iP 1, iP 0, iP 2, iP 0])],
   [],
   .tuple ⟨[.slice none 0 0, .bool false]⟩⟩
theorem sm22_h : sm22.holds EE := ent0 _ (by kernel_rfl) (by kernel_rfl)
-- (decani/bench.stalls).first, 1451 steps
noncomputable def sm26 : Ent :=
  ⟨58, [.agg ⟨[.slice (some ⟨3, 0, none⟩) 2 2, iP 4, .slice none 0 0, .slice (some ⟨4, 0, none⟩) 3 3, iP 1, .map (some 8), .func (.func 89) ⟨[]⟩ ⟨[]⟩]⟩, .slice (some ⟨13, 0, none⟩) 1 18446744073709551616], 14,
   gC ++ [(3, .cells true 0 [iP 5, iP 6, iP 20, iP 21, iP 1, iP 2, iP 2, iP 3, iP 1, iP 3, iP 5, iP 8, iP 8, iP 18, iP 18, iP 0, iP 1, iP 1, iP 1, iP 0, iP 6, iP 7]),
    (4, .cells true 0 [iP 0, .slice (some ⟨5, 0, none⟩) 2 2, iP 3, .slice (some ⟨6, 0, none⟩) 1 1, iP 3, .slice (some ⟨7, 0, none⟩) 1 1]),
    (5, .cells true 0 [iP 6, iP 20, iP 1, iP 8, iP 18, iP 1]),
    (6, .cells true 0 [iP 8, iP 18, iP 1]),
    (7, .cells true 0 [iP 10, iP 18, iP 1]),
    (8, .map [⟨.agg ⟨[iP 0, iP 0]⟩, .slice (some ⟨9, 0, none⟩) 1 18446744073709551616, 0⟩, ⟨.agg ⟨[iP 0, iP 1]⟩, .slice (some ⟨10, 0, none⟩) 2 18446744073709551616, 1⟩, ⟨.agg ⟨[iP 1, iP 0]⟩, .slice (some ⟨11, 0, none⟩) 1 18446744073709551616, 2⟩, ⟨.agg ⟨[iP 2, iP 0]⟩, .slice (some ⟨12, 0, none⟩) 1 18446744073709551616, 3⟩] 4),
    (9, .cells true 2 [iP 0]),
    (10, .cells true 2 [iP 0, iP 1]),
    (11, .cells true 2 [iP 1]),
    (12, .cells true 2 [iP 1]),
    (13, .cells true 3 [iP 1, iP 0])],
   [.cells true 4 [iP 1, iP 0, iP 1]],
   .tuple ⟨[.slice (some ⟨14, 0, none⟩) 1 18446744073709551616, .bool true]⟩⟩
theorem sm26_h : sm26.holds EE := ent0 _ (by kernel_rfl) (by kernel_rfl)
-- (decani/bench.stalls).first, 1419 steps
noncomputable def sm30 : Ent :=
  ⟨58, [.agg ⟨[.slice (some ⟨3, 0, none⟩) 2 2, iP 4, .slice none 0 0, .slice (some ⟨4, 0, none⟩) 3 3, iP 1, .map (some 8), .func (.func 111) ⟨[]⟩ ⟨[.pointer (some ⟨12, 0, none⟩)]⟩]⟩, .slice (some ⟨13, 0, none⟩) 4 18446744073709551616], 14,
   gC ++ [(3, .cells true 0 [iP 5, iP 6, iP 20, iP 21, iP 1, iP 2, iP 2, iP 3, iP 1, iP 3, iP 5, iP 8, iP 8, iP 18, iP 18, iP 0, iP 1, iP 1, iP 1, iP 0, iP 6, iP 7]),
    (4, .cells true 0 [iP 0, .slice (some ⟨5, 0, none⟩) 2 2, iP 3, .slice (some ⟨6, 0, none⟩) 1 1, iP 3, .slice (some ⟨7, 0, none⟩) 1 1]),
    (5, .cells true 0 [iP 6, iP 24, iP 1, iP 8, iP 18, iP 1]),
    (6, .cells true 0 [iP 8, iP 18, iP 1]),
    (7, .cells true 0 [iP 10, iP 18, iP 1]),
    (8, .map [⟨.agg ⟨[iP 0, iP 1]⟩, .slice (some ⟨9, 0, none⟩) 2 18446744073709551616, 0⟩, ⟨.agg ⟨[iP 1, iP 0]⟩, .slice (some ⟨10, 0, none⟩) 1 18446744073709551616, 1⟩, ⟨.agg ⟨[iP 2, iP 0]⟩, .slice (some ⟨11, 0, none⟩) 1 18446744073709551616, 2⟩] 3),
    (9, .cells true 2 [iP 0, iP 1]),
    (10, .cells true 2 [iP 1]),
    (11, .cells true 2 [iP 1]),
    (12, .cells true 0 [iP 1]),
    (13, .cells true 3 [iP 0, iP 0, iP 0, iP 1, iP 1, iP 0, iP 2, iP 0])],
   [],
   .tuple ⟨[.slice none 0 0, .bool false]⟩⟩
theorem sm30_h : sm30.holds EE := ent0 _ (by kernel_rfl) (by kernel_rfl)
-- (decani/bench.stalls).first, 1224 steps
noncomputable def sm34 : Ent :=
  ⟨58, [.agg ⟨[.slice (some ⟨3, 0, none⟩) 2 2, iP 4, .slice none 0 0, .slice (some ⟨4, 0, none⟩) 3 3, iP 1, .map (some 8), .func (.func 89) ⟨[]⟩ ⟨[]⟩]⟩, .slice (some ⟨12, 0, none⟩) 3 18446744073709551616], 13,
   gC ++ [(3, .cells true 0 [iP 5, iP 6, iP 20, iP 21, iP 1, iP 2, iP 2, iP 3, iP 1, iP 3, iP 5, iP 8, iP 8, iP 18, iP 18, iP 0, iP 1, iP 1, iP 1, iP 0, iP 6, iP 7]),
    (4, .cells true 0 [iP 0, .slice (some ⟨5, 0, none⟩) 2 2, iP 3, .slice (some ⟨6, 0, none⟩) 1 1, iP 3, .slice (some ⟨7, 0, none⟩) 1 1]),
    (5, .cells true 0 [iP 6, iP 24, iP 1, iP 8, iP 18, iP 1]),
    (6, .cells true 0 [iP 8, iP 18, iP 1]),
    (7, .cells true 0 [iP 10, iP 18, iP 1]),
    (8, .map [⟨.agg ⟨[iP 0, iP 1]⟩, .slice (some ⟨9, 0, none⟩) 2 18446744073709551616, 0⟩, ⟨.agg ⟨[iP 1, iP 0]⟩, .slice (some ⟨10, 0, none⟩) 1 18446744073709551616, 1⟩, ⟨.agg ⟨[iP 2, iP 0]⟩, .slice (some ⟨11, 0, none⟩) 1 18446744073709551616, 2⟩] 3),
    (9, .cells true 2 [iP 0, iP 1]),
    (10, .cells true 2 [iP 1]),
    (11, .cells true 2 [iP 1]),
    (12, .cells true 3 [iP 0, iP 0, iP 0, iP 1, iP 2, iP 0])],
   [],
   .tuple ⟨[.slice none 0 0, .bool false]⟩⟩
theorem sm34_h : sm34.holds EE := ent0 _ (by kernel_rfl) (by kernel_rfl)
-- (decani/bench.stalls).first, 1174 steps
noncomputable def sm37 : Ent :=
  ⟨58, [.agg ⟨[.slice (some ⟨3, 0, none⟩) 2 2, iP 4, .slice none 0 0, .slice (some ⟨4, 0, none⟩) 3 3, iP 1, .map (some 8), .func (.func 111) ⟨[]⟩ ⟨[.pointer (some ⟨12, 0, none⟩)]⟩]⟩, .slice (some ⟨13, 0, none⟩) 3 18446744073709551616], 14,
   gC ++ [(3, .cells true 0 [iP 5, iP 6, iP 20, iP 21, iP 1, iP 2, iP 2, iP 3, iP 1, iP 3, iP 5, iP 8, iP 8, iP 18, iP 18, iP 0, iP 1, iP 1, iP 1, iP 0, iP 6, iP 7]),
    (4, .cells true 0 [iP 0, .slice (some ⟨5, 0, none⟩) 2 2, iP 3, .slice (some ⟨6, 0, none⟩) 1 1, iP 3, .slice (some ⟨7, 0, none⟩) 1 1]),
    (5, .cells true 0 [iP 6, iP 24, iP 1, iP 8, iP 18, iP 1]),
    (6, .cells true 0 [iP 8, iP 18, iP 1]),
    (7, .cells true 0 [iP 10, iP 18, iP 1]),
    (8, .map [⟨.agg ⟨[iP 0, iP 1]⟩, .slice (some ⟨9, 0, none⟩) 2 18446744073709551616, 0⟩, ⟨.agg ⟨[iP 1, iP 0]⟩, .slice (some ⟨10, 0, none⟩) 1 18446744073709551616, 1⟩, ⟨.agg ⟨[iP 2, iP 0]⟩, .slice (some ⟨11, 0, none⟩) 1 18446744073709551616, 2⟩] 3),
    (9, .cells true 2 [iP 0, iP 1]),
    (10, .cells true 2 [iP 1]),
    (11, .cells true 2 [iP 1]),
    (12, .cells true 0 [iP 0]),
    (13, .cells true 3 [iP 0, iP 0, iP 0, iP 1, iP 2, iP 0])],
   [],
   .tuple ⟨[.slice none 0 0, .bool false]⟩⟩
theorem sm37_h : sm37.holds EE := ent0 _ (by kernel_rfl) (by kernel_rfl)
-- (decani/bench.stalls).first, 979 steps
noncomputable def sm41 : Ent :=
  ⟨58, [.agg ⟨[.slice (some ⟨3, 0, none⟩) 2 2, iP 4, .slice none 0 0, .slice (some ⟨4, 0, none⟩) 3 3, iP 1, .map (some 8), .func (.func 89) ⟨[]⟩ ⟨[]⟩]⟩, .slice (some ⟨12, 0, none⟩) 2 18446744073709551616], 13,
   gC ++ [(3, .cells true 0 [iP 5, iP 6, iP 20, iP 21, iP 1, iP 2, iP 2, iP 3, iP 1, iP 3, iP 5, iP 8, iP 8, iP 18, iP 18, iP 0, iP 1, iP 1, iP 1, iP 0, iP 6, iP 7]),
    (4, .cells true 0 [iP 0, .slice (some ⟨5, 0, none⟩) 2 2, iP 3, .slice (some ⟨6, 0, none⟩) 1 1, iP 3, .slice (some ⟨7, 0, none⟩) 1 1]),
    (5, .cells true 0 [iP 6, iP 24, iP 1, iP 8, iP 18, iP 1]),
    (6, .cells true 0 [iP 8, iP 18, iP 1]),
    (7, .cells true 0 [iP 10, iP 18, iP 1]),
    (8, .map [⟨.agg ⟨[iP 0, iP 1]⟩, .slice (some ⟨9, 0, none⟩) 2 18446744073709551616, 0⟩, ⟨.agg ⟨[iP 1, iP 0]⟩, .slice (some ⟨10, 0, none⟩) 1 18446744073709551616, 1⟩, ⟨.agg ⟨[iP 2, iP 0]⟩, .slice (some ⟨11, 0, none⟩) 1 18446744073709551616, 2⟩] 3),
    (9, .cells true 2 [iP 0, iP 1]),
    (10, .cells true 2 [iP 1]),
    (11, .cells true 2 [iP 1]),
    (12, .cells true 3 [iP 0, iP 0, iP 0, iP 1])],
   [],
   .tuple ⟨[.slice none 0 0, .bool false]⟩⟩
theorem sm41_h : sm41.holds EE := ent0 _ (by kernel_rfl) (by kernel_rfl)
-- (decani/bench.stalls).first, 929 steps
noncomputable def sm44 : Ent :=
  ⟨58, [.agg ⟨[.slice (some ⟨3, 0, none⟩) 2 2, iP 4, .slice none 0 0, .slice (some ⟨4, 0, none⟩) 3 3, iP 1, .map (some 8), .func (.func 111) ⟨[]⟩ ⟨[.pointer (some ⟨12, 0, none⟩)]⟩]⟩, .slice (some ⟨13, 0, none⟩) 2 18446744073709551616], 14,
   gC ++ [(3, .cells true 0 [iP 5, iP 6, iP 20, iP 21, iP 1, iP 2, iP 2, iP 3, iP 1, iP 3, iP 5, iP 8, iP 8, iP 18, iP 18, iP 0, iP 1, iP 1, iP 1, iP 0, iP 6, iP 7]),
    (4, .cells true 0 [iP 0, .slice (some ⟨5, 0, none⟩) 2 2, iP 3, .slice (some ⟨6, 0, none⟩) 1 1, iP 3, .slice (some ⟨7, 0, none⟩) 1 1]),
    (5, .cells true 0 [iP 6, iP 24, iP 1, iP 8, iP 18, iP 1]),
    (6, .cells true 0 [iP 8, iP 18, iP 1]),
    (7, .cells true 0 [iP 10, iP 18, iP 1]),
    (8, .map [⟨.agg ⟨[iP 0, iP 1]⟩, .slice (some ⟨9, 0, none⟩) 2 18446744073709551616, 0⟩, ⟨.agg ⟨[iP 1, iP 0]⟩, .slice (some ⟨10, 0, none⟩) 1 18446744073709551616, 1⟩, ⟨.agg ⟨[iP 2, iP 0]⟩, .slice (some ⟨11, 0, none⟩) 1 18446744073709551616, 2⟩] 3),
    (9, .cells true 2 [iP 0, iP 1]),
    (10, .cells true 2 [iP 1]),
    (11, .cells true 2 [iP 1]),
    (12, .cells true 0 [iP 1]),
    (13, .cells true 3 [iP 0, iP 0, iP 0, iP 1])],
   [],
   .tuple ⟨[.slice none 0 0, .bool false]⟩⟩
theorem sm44_h : sm44.holds EE := ent0 _ (by kernel_rfl) (by kernel_rfl)
-- (decani/bench.stalls).first, 150 steps
noncomputable def sm50 : Ent :=
  ⟨58, [.agg ⟨[.slice (some ⟨3, 0, none⟩) 2 2, iP 4, .slice none 0 0, .slice (some ⟨4, 0, none⟩) 3 3, iP 1, .map (some 8), .func (.func 111) ⟨[]⟩ ⟨[.pointer (some ⟨12, 0, none⟩)]⟩]⟩, .slice none 0 0], 13,
   gC ++ [(3, .cells true 0 [iP 5, iP 6, iP 20, iP 21, iP 1, iP 2, iP 2, iP 3, iP 1, iP 3, iP 5, iP 8, iP 8, iP 18, iP 18, iP 0, iP 1, iP 1, iP 1, iP 0, iP 6, iP 7]),
    (4, .cells true 0 [iP 0, .slice (some ⟨5, 0, none⟩) 2 2, iP 3, .slice (some ⟨6, 0, none⟩) 1 1, iP 3, .slice (some ⟨7, 0, none⟩) 1 1]),
    (5, .cells true 0 [iP 6, iP 24, iP 1, iP 8, iP 18, iP 1]),
    (6, .cells true 0 [iP 8, iP 18, iP 1]),
    (7, .cells true 0 [iP 10, iP 18, iP 1]),
    (8, .map [⟨.agg ⟨[iP 0, iP 1]⟩, .slice (some ⟨9, 0, none⟩) 2 18446744073709551616, 0⟩, ⟨.agg ⟨[iP 1, iP 0]⟩, .slice (some ⟨10, 0, none⟩) 1 18446744073709551616, 1⟩, ⟨.agg ⟨[iP 2, iP 0]⟩, .slice (some ⟨11, 0, none⟩) 1 18446744073709551616, 2⟩] 3),
    (9, .cells true 2 [iP 0, iP 1]),
    (10, .cells true 2 [iP 1]),
    (11, .cells true 2 [iP 1]),
    (12, .cells true 0 [iP 0])],
   [],
   .tuple ⟨[.slice none 0 0, .bool true]⟩⟩
theorem sm50_h : sm50.holds EE := ent0 _ (by kernel_rfl) (by kernel_rfl)
end Go.Proofs.YteehcnicdkkimaaGreatDoor
