/- Known calls, part 3: what single calls hand back, at small heaps, by the kernel's own run of the evaluator. No conditions. -/
import Derived.Test.YteehcnicdkkimaaGreatDoorSZ
set_option linter.all false
namespace Go.Proofs.YteehcnicdkkimaaGreatDoor
open Go.Ai
set_option maxRecDepth 1000000
-- decani/voice.Sings, 35757 steps
noncomputable def sm3 : Ent :=
  ⟨14, [.agg ⟨[.slice (some ⟨3, 0, none⟩) 2 2, iP 4, .slice none 0 0]⟩, iP 0, iP 0, iP 8], 4,
   gC ++ [(3, .cells true 0 [iP 5, iP 6, iP 20, iP 21, iP 1, iP 2, iP 2, iP 3, iP 1, iP 3, iP 5, iP 8, iP 8, iP 18, iP 18, iP 0, iP 1, iP 1, iP 1, iP 0, iP 6, iP 7])],
   [],
   .tuple ⟨[iP 2, iP 0]⟩⟩
theorem sm3_h : sm3.holds EE := ent0 _ (by kernel_rfl) (by kernel_rfl)
-- (decani/bench.stalls).ways, 7030 steps
noncomputable def sm6 : Ent :=
  ⟨55, [.agg ⟨[.slice (some ⟨3, 0, none⟩) 2 2, iP 4, .slice none 0 0, .slice (some ⟨4, 0, none⟩) 3 3, iP 2, .map (some 8), .func (.func 89) ⟨[]⟩ ⟨[]⟩]⟩, .slice (some ⟨13, 0, none⟩) 4 18446744073709551616], 14,
   gC ++ [(3, .cells true 0 [iP 5, iP 6, iP 20, iP 21, iP 1, iP 2, iP 2, iP 3, iP 1, iP 3, iP 5, iP 8, iP 8, iP 18, iP 18, iP 0, iP 1, iP 1, iP 1, iP 0, iP 6, iP 7]),
    (4, .cells true 0 [iP 0, .slice (some ⟨5, 0, none⟩) 2 2, iP 3, .slice (some ⟨6, 0, none⟩) 1 1, iP 3, .slice (some ⟨7, 0, none⟩) 1 1]),
    (5, .cells true 0 [iP 6, iP 20, iP 1, iP 8, iP 18, iP 1]),
    (6, .cells true 0 [iP 8, iP 18, iP 1]),
    (7, .cells true 0 [iP 10, iP 18, iP 1]),
    (8, .map [⟨.agg ⟨[iP 0, iP 0]⟩, .slice (some ⟨9, 0, none⟩) 1 18446744073709551616, 0⟩, ⟨.agg ⟨[iP 0, iP 1]⟩, .slice (some ⟨10, 0, none⟩) 2 18446744073709551616, 1⟩, ⟨.agg ⟨[iP 1, iP 0]⟩, .slice (some ⟨11, 0, none⟩) 1 18446744073709551616, 2⟩, ⟨.agg ⟨[iP 2, iP 0]⟩, .slice (some ⟨12, 0, none⟩) 1 18446744073709551616, 3⟩] 4),
    (9, .cells true 2 [iP 0]),
    (10, .cells true 2 [iP 0, iP 1]),
    (11, .cells true 2 [iP 1]),
    (12, .cells true 2 [iP 1]),
    (13, .cells true 3 [iP 0, iP 0, iP 0, iP 1, iP 1, iP 0, iP 2, iP 0])],
   [],
   iP 1⟩
theorem sm6_h : sm6.holds EE := ent0 _ (by kernel_rfl) (by kernel_rfl)
-- (decani/bench.stalls).first, 6779 steps
noncomputable def sm8 : Ent :=
  ⟨58, [.agg ⟨[.slice (some ⟨3, 0, none⟩) 2 2, iP 4, .slice none 0 0, .slice (some ⟨4, 0, none⟩) 3 3, iP 2, .map (some 8), .func (.func 89) ⟨[]⟩ ⟨[]⟩]⟩, .slice (some ⟨13, 0, none⟩) 4 18446744073709551616], 14,
   gC ++ [(3, .cells true 0 [iP 5, iP 6, iP 20, iP 21, iP 1, iP 2, iP 2, iP 3, iP 1, iP 3, iP 5, iP 8, iP 8, iP 18, iP 18, iP 0, iP 1, iP 1, iP 1, iP 0, iP 6, iP 7]),
    (4, .cells true 0 [iP 0, .slice (some ⟨5, 0, none⟩) 2 2, iP 3, .slice (some ⟨6, 0, none⟩) 1 1, iP 3, .slice (some ⟨7, 0, none⟩) 1 1]),
    (5, .cells true 0 [iP 6, iP 20, iP 1, iP 8, iP 18, iP 1]),
    (6, .cells true 0 [iP 8, iP 18, iP 1]),
    (7, .cells true 0 [iP 10, iP 18, iP 1]),
    (8, .map [⟨.agg ⟨[iP 0, iP 0]⟩, .slice (some ⟨9, 0, none⟩) 1 18446744073709551616, 0⟩, ⟨.agg ⟨[iP 0, iP 1]⟩, .slice (some ⟨10, 0, none⟩) 2 18446744073709551616, 1⟩, ⟨.agg ⟨[iP 1, iP 0]⟩, .slice (some ⟨11, 0, none⟩) 1 18446744073709551616, 2⟩, ⟨.agg ⟨[iP 2, iP 0]⟩, .slice (some ⟨12, 0, none⟩) 1 18446744073709551616, 3⟩] 4),
    (9, .cells true 2 [iP 0]),
    (10, .cells true 2 [iP 0, iP 1]),
    (11, .cells true 2 [iP 1]),
    (12, .cells true 2 [iP 1]),
    (13, .cells true 3 [iP 0, iP 0, iP 0, iP 1, iP 1, iP 0, iP 2, iP 0])],
   [.cells true 4 [iP 0, iP 0, iP 0, iP 0, iP 1, iP 1, iP 1, iP 0, iP 1, iP 2, iP 0, iP 1]],
   .tuple ⟨[.slice (some ⟨14, 0, none⟩) 4 18446744073709551616, .bool true]⟩⟩
theorem sm8_h : sm8.holds EE := ent0 _ (by kernel_rfl) (by kernel_rfl)
-- decani/voice.Sings, 6625 steps
noncomputable def sm11 : Ent :=
  ⟨14, [.agg ⟨[.slice (some ⟨3, 0, none⟩) 2 2, iP 4, .slice none 0 0]⟩, iP 1, iP 3, iP 10], 4,
   gC ++ [(3, .cells true 0 [iP 5, iP 6, iP 20, iP 21, iP 1, iP 2, iP 2, iP 3, iP 1, iP 3, iP 5, iP 8, iP 8, iP 18, iP 18, iP 0, iP 1, iP 1, iP 1, iP 0, iP 6, iP 7])],
   [],
   .tuple ⟨[iP 2, iP 0]⟩⟩
theorem sm11_h : sm11.holds EE := ent0 _ (by kernel_rfl) (by kernel_rfl)
-- decani/voice.Sings, 6068 steps
noncomputable def sm14 : Ent :=
  ⟨14, [.agg ⟨[.slice (some ⟨3, 0, none⟩) 2 2, iP 4, .slice none 0 0]⟩, iP 0, iP 3, iP 8], 4,
   gC ++ [(3, .cells true 0 [iP 5, iP 6, iP 20, iP 21, iP 1, iP 2, iP 2, iP 3, iP 1, iP 3, iP 5, iP 8, iP 8, iP 18, iP 18, iP 0, iP 1, iP 1, iP 1, iP 0, iP 6, iP 7])],
   [],
   .tuple ⟨[iP 1, iP 0]⟩⟩
theorem sm14_h : sm14.holds EE := ent0 _ (by kernel_rfl) (by kernel_rfl)
-- (decani/bench.stalls).first, 3420 steps
noncomputable def sm18 : Ent :=
  ⟨58, [.agg ⟨[.slice (some ⟨3, 0, none⟩) 2 2, iP 4, .slice none 0 0, .slice (some ⟨4, 0, none⟩) 3 3, iP 1, .map (some 8), .func (.func 89) ⟨[]⟩ ⟨[]⟩]⟩, .slice (some ⟨13, 0, none⟩) 2 18446744073709551616], 14,
   gC ++ [(3, .cells true 0 [iP 5, iP 6, iP 20, iP 21, iP 1, iP 2, iP 2, iP 3, iP 1, iP 3, iP 5, iP 8, iP 8, iP 18, iP 18, iP 0, iP 1, iP 1, iP 1, iP 0, iP 6, iP 7]),
    (4, .cells true 0 [iP 0, .slice (some ⟨5, 0, none⟩) 2 2, iP 3, .slice (some ⟨6, 0, none⟩) 1 1, iP 3, .slice (some ⟨7, 0, none⟩) 1 1]),
    (5, .cells true 0 [iP 6, iP 20, iP 1, iP 8, iP 18, iP 1]),
    (6, .cells true 0 [iP 8, iP 18, iP 1]),
    (7, .cells true 0 [iP 10, iP 18, iP 1]),
    (8, .map [⟨.agg ⟨[iP 0, iP 0]⟩, .slice (some ⟨9, 0, none⟩) 1 18446744073709551616, 0⟩, ⟨.agg ⟨[iP 0, iP 1]⟩, .slice (some ⟨10, 0, none⟩) 2 18446744073709551616, 1⟩, ⟨.agg ⟨[iP 1, iP 0]⟩, .slice (some ⟨11, 0, none⟩) 1 18446744073709551616, 2⟩, ⟨.agg ⟨[iP 2, iP 0]⟩, .slice (some ⟨12, 0, none⟩) 1 18446744073709551616, 3⟩] 4),
    (9, .cells true 2 [iP 0]),
    (10, .cells true 2 [iP 0, iP 1]),
    (11, .cells true 2 [iP 1]),
    (12, .cells true 2 [iP 1]),
    (13, .cells true 3 [iP 0, iP 0, iP 0, iP 1])],
   [.cells true 4 [iP 0, iP 0, iP 0, iP 0, iP 1, iP 1]],
   .tuple ⟨[.slice (some ⟨14, 0, none⟩) 2 18446744073709551616, .bool true]⟩⟩
theorem sm18_h : sm18.holds EE := ent0 _ (by kernel_rfl) (by kernel_rfl)
-- decani/voice.Right, 3187 steps
noncomputable def sm20 : Ent :=
  ⟨10, [.agg ⟨[.slice (some ⟨3, 0, none⟩) 2 2, iP 4, .slice none 0 0]⟩], 4,
   gC ++ [(3, .cells true 0 [iP 5, iP 6, iP 20, iP 21, iP 1, iP 2, iP 2, iP 3, iP 1, iP 3, iP 5, iP 8, iP 8, iP 18, iP 18, iP 0, iP 1, iP 1, iP 1, iP 0, iP 6, iP 7])],
   [],
   .tuple ⟨[.bool true, iP 0]⟩⟩
theorem sm20_h : sm20.holds EE := ent0 _ (by kernel_rfl) (by kernel_rfl)
-- (decani/bench.stalls).first, 1469 steps
noncomputable def sm24 : Ent :=
  ⟨58, [.agg ⟨[.slice (some ⟨3, 0, none⟩) 2 2, iP 4, .slice none 0 0, .slice (some ⟨4, 0, none⟩) 3 3, iP 1, .map (some 8), .func (.func 89) ⟨[]⟩ ⟨[]⟩]⟩, .slice (some ⟨12, 0, none⟩) 4 18446744073709551616], 13,
   gC ++ [(3, .cells true 0 [iP 5, iP 6, iP 20, iP 21, iP 1, iP 2, iP 2, iP 3, iP 1, iP 3, iP 5, iP 8, iP 8, iP 18, iP 18, iP 0, iP 1, iP 1, iP 1, iP 0, iP 6, iP 7]),
    (4, .cells true 0 [iP 0, .slice (some ⟨5, 0, none⟩) 2 2, iP 3, .slice (some ⟨6, 0, none⟩) 1 1, iP 3, .slice (some ⟨7, 0, none⟩) 1 1]),
    (5, .cells true 0 [iP 6, iP 24, iP 1, iP 8, iP 18, iP 1]),
    (6, .cells true 0 [iP 8, iP 18, iP 1]),
    (7, .cells true 0 [iP 10, iP 18, iP 1]),
    (8, .map [⟨.agg ⟨[iP 0, iP 1]⟩, .slice (some ⟨9, 0, none⟩) 2 18446744073709551616, 0⟩, ⟨.agg ⟨[iP 1, iP 0]⟩, .slice (some ⟨10, 0, none⟩) 1 18446744073709551616, 1⟩, ⟨.agg ⟨[iP 2, iP 0]⟩, .slice (some ⟨11, 0, none⟩) 1 18446744073709551616, 2⟩] 3),
    (9, .cells true 2 [iP 0, iP 1]),
    (10, .cells true 2 [iP 1]),
    (11, .cells true 2 [iP 1]),
    (12, .cells true 3 [iP 0, iP 0, iP 0, iP 1, iP 1, iP 0, iP 2, iP 0])],
   [],
   .tuple ⟨[.slice none 0 0, .bool false]⟩⟩
theorem sm24_h : sm24.holds EE := ent0 _ (by kernel_rfl) (by kernel_rfl)
-- (decani/bench.stalls).first, 1451 steps
noncomputable def sm27 : Ent :=
  ⟨58, [.agg ⟨[.slice (some ⟨3, 0, none⟩) 2 2, iP 4, .slice none 0 0, .slice (some ⟨4, 0, none⟩) 3 3, iP 1, .map (some 8), .func (.func 89) ⟨[]⟩ ⟨[]⟩]⟩, .slice (some ⟨12, 0, none⟩) 1 18446744073709551616], 13,
   gC ++ [(3, .cells true 0 [iP 5, iP 6, iP 20, iP 21, iP 1, iP 2, iP 2, iP 3, iP 1, iP 3, iP 5, iP 8, iP 8, iP 18, iP 18, iP 0, iP 1, iP 1, iP 1, iP 0, iP 6, iP 7]),
    (4, .cells true 0 [iP 0, .slice (some ⟨5, 0, none⟩) 2 2, iP 3, .slice (some ⟨6, 0, none⟩) 1 1, iP 3, .slice (some ⟨7, 0, none⟩) 1 1]),
    (5, .cells true 0 [iP 6, iP 24, iP 1, iP 8, iP 18, iP 1]),
    (6, .cells true 0 [iP 8, iP 18, iP 1]),
    (7, .cells true 0 [iP 10, iP 18, iP 1]),
    (8, .map [⟨.agg ⟨[iP 0, iP 1]⟩, .slice (some ⟨9, 0, none⟩) 2 18446744073709551616, 0⟩, ⟨.agg ⟨[iP 1, iP 0]⟩, .slice (some ⟨10, 0, none⟩) 1 18446744073709551616, 1⟩, ⟨.agg ⟨[iP 2, iP 0]⟩, .slice (some ⟨11, 0, none⟩) 1 18446744073709551616, 2⟩] 3),
    (9, .cells true 2 [iP 0, iP 1]),
    (10, .cells true 2 [iP 1]),
    (11, .cells true 2 [iP 1]),
    (12, .cells true 3 [iP 2, iP 0])],
   [.cells true 4 [iP 2, iP 0, iP 1]],
   .tuple ⟨[.slice (some ⟨13, 0, none⟩) 1 18446744073709551616, .bool true]⟩⟩
theorem sm27_h : sm27.holds EE := ent0 _ (by kernel_rfl) (by kernel_rfl)
-- (decani/bench.stalls).first, 1371 steps
noncomputable def sm31 : Ent :=
  ⟨58, [.agg ⟨[.slice (some ⟨3, 0, none⟩) 2 2, iP 4, .slice none 0 0, .slice (some ⟨4, 0, none⟩) 3 3, iP 1, .map (some 8), .func (.func 111) ⟨[]⟩ ⟨[.pointer (some ⟨12, 0, none⟩)]⟩]⟩, .slice (some ⟨13, 0, none⟩) 1 18446744073709551616], 14,
   gC ++ [(3, .cells true 0 [iP 5, iP 6, iP 20, iP 21, iP 1, iP 2, iP 2, iP 3, iP 1, iP 3, iP 5, iP 8, iP 8, iP 18, iP 18, iP 0, iP 1, iP 1, iP 1, iP 0, iP 6, iP 7]),
    (4, .cells true 0 [iP 0, .slice (some ⟨5, 0, none⟩) 2 2, iP 3, .slice (some ⟨6, 0, none⟩) 1 1, iP 3, .slice (some ⟨7, 0, none⟩) 1 1]),
    (5, .cells true 0 [iP 6, iP 24, iP 1, iP 8, iP 18, iP 1]),
    (6, .cells true 0 [iP 8, iP 18, iP 1]),
    (7, .cells true 0 [iP 10, iP 18, iP 1]),
    (8, .map [⟨.agg ⟨[iP 0, iP 1]⟩, .slice (some ⟨9, 0, none⟩) 2 18446744073709551616, 0⟩, ⟨.agg ⟨[iP 1, iP 0]⟩, .slice (some ⟨10, 0, none⟩) 1 18446744073709551616, 1⟩, ⟨.agg ⟨[iP 2, iP 0]⟩, .slice (some ⟨11, 0, none⟩) 1 18446744073709551616, 2⟩] 3),
    (9, .cells true 2 [iP 0, iP 1]),
    (10, .cells true 2 [iP 1]),
    (11, .cells true 2 [iP 1]),
    (12, .cells true 0 [iP 0]),
    (13, .cells true 3 [iP 2, iP 0])],
   [.cells true 4 [iP 2, iP 0, iP 1]],
   .tuple ⟨[.slice (some ⟨14, 0, none⟩) 1 18446744073709551616, .bool true]⟩⟩
theorem sm31_h : sm31.holds EE := ent0 _ (by kernel_rfl) (by kernel_rfl)
-- (decani/bench.stalls).first, 1224 steps
noncomputable def sm35 : Ent :=
  ⟨58, [.agg ⟨[.slice (some ⟨3, 0, none⟩) 2 2, iP 4, .slice none 0 0, .slice (some ⟨4, 0, none⟩) 3 3, iP 1, .map (some 8), .func (.func 89) ⟨[]⟩ ⟨[]⟩]⟩, .slice (some ⟨12, 0, none⟩) 3 18446744073709551616], 13,
   gC ++ [(3, .cells true 0 [iP 5, iP 6, iP 20, iP 21, iP 1, iP 2, iP 2, iP 3, iP 1, iP 3, iP 5, iP 8, iP 8, iP 18, iP 18, iP 0, iP 1, iP 1, iP 1, iP 0, iP 6, iP 7]),
    (4, .cells true 0 [iP 0, .slice (some ⟨5, 0, none⟩) 2 2, iP 3, .slice (some ⟨6, 0, none⟩) 1 1, iP 3, .slice (some ⟨7, 0, none⟩) 1 1]),
    (5, .cells true 0 [iP 6, iP 24, iP 1, iP 8, iP 18, iP 1]),
    (6, .cells true 0 [iP 8, iP 18, iP 1]),
    (7, .cells true 0 [iP 10, iP 18, iP 1]),
    (8, .map [⟨.agg ⟨[iP 0, iP 1]⟩, .slice (some ⟨9, 0, none⟩) 2 18446744073709551616, 0⟩, ⟨.agg ⟨[iP 1, iP 0]⟩, .slice (some ⟨10, 0, none⟩) 1 18446744073709551616, 1⟩, ⟨.agg ⟨[iP 2, iP 0]⟩, .slice (some ⟨11, 0, none⟩) 1 18446744073709551616, 2⟩] 3),
    (9, .cells true 2 [iP 0, iP 1]),
    (10, .cells true 2 [iP 1]),
    (11, .cells true 2 [iP 1]),
    (12, .cells true 3 [iP 0, iP 0, iP 0, iP 1, iP 1, iP 0])],
   [],
   .tuple ⟨[.slice none 0 0, .bool false]⟩⟩
theorem sm35_h : sm35.holds EE := ent0 _ (by kernel_rfl) (by kernel_rfl)
-- (decani/bench.stalls).first, 1174 steps
noncomputable def sm39 : Ent :=
  ⟨58, [.agg ⟨[.slice (some ⟨3, 0, none⟩) 2 2, iP 4, .slice none 0 0, .slice (some ⟨4, 0, none⟩) 3 3, iP 1, .map (some 8), .func (.func 111) ⟨[]⟩ ⟨[.pointer (some ⟨12, 0, none⟩)]⟩]⟩, .slice (some ⟨13, 0, none⟩) 3 18446744073709551616], 14,
   gC ++ [(3, .cells true 0 [iP 5, iP 6, iP 20, iP 21, iP 1, iP 2, iP 2, iP 3, iP 1, iP 3, iP 5, iP 8, iP 8, iP 18, iP 18, iP 0, iP 1, iP 1, iP 1, iP 0, iP 6, iP 7]),
    (4, .cells true 0 [iP 0, .slice (some ⟨5, 0, none⟩) 2 2, iP 3, .slice (some ⟨6, 0, none⟩) 1 1, iP 3, .slice (some ⟨7, 0, none⟩) 1 1]),
    (5, .cells true 0 [iP 6, iP 24, iP 1, iP 8, iP 18, iP 1]),
    (6, .cells true 0 [iP 8, iP 18, iP 1]),
    (7, .cells true 0 [iP 10, iP 18, iP 1]),
    (8, .map [⟨.agg ⟨[iP 0, iP 1]⟩, .slice (some ⟨9, 0, none⟩) 2 18446744073709551616, 0⟩, ⟨.agg ⟨[iP 1, iP 0]⟩, .slice (some ⟨10, 0, none⟩) 1 18446744073709551616, 1⟩, ⟨.agg ⟨[iP 2, iP 0]⟩, .slice (some ⟨11, 0, none⟩) 1 18446744073709551616, 2⟩] 3),
    (9, .cells true 2 [iP 0, iP 1]),
    (10, .cells true 2 [iP 1]),
    (11, .cells true 2 [iP 1]),
    (12, .cells true 0 [iP 1]),
    (13, .cells true 3 [iP 0, iP 0, iP 0, iP 1, iP 2, iP 0])],
   [],
   .tuple ⟨[.slice none 0 0, .bool false]⟩⟩
theorem sm39_h : sm39.holds EE := ent0 _ (by kernel_rfl) (by kernel_rfl)
-- (decani/bench.stalls).first, 929 steps
noncomputable def sm43 : Ent :=
  ⟨58, [.agg ⟨[.slice (some ⟨3, 0, none⟩) 2 2, iP 4, .slice none 0 0, .slice (some ⟨4, 0, none⟩) 3 3, iP 1, .map (some 8), .func (.func 111) ⟨[]⟩ ⟨[.pointer (some ⟨12, 0, none⟩)]⟩]⟩, .slice (some ⟨13, 0, none⟩) 2 18446744073709551616], 14,
   gC ++ [(3, .cells true 0 [iP 5, iP 6, iP 20, iP 21, iP 1, iP 2, iP 2, iP 3, iP 1, iP 3, iP 5, iP 8, iP 8, iP 18, iP 18, iP 0, iP 1, iP 1, iP 1, iP 0, iP 6, iP 7]),
    (4, .cells true 0 [iP 0, .slice (some ⟨5, 0, none⟩) 2 2, iP 3, .slice (some ⟨6, 0, none⟩) 1 1, iP 3, .slice (some ⟨7, 0, none⟩) 1 1]),
    (5, .cells true 0 [iP 6, iP 24, iP 1, iP 8, iP 18, iP 1]),
    (6, .cells true 0 [iP 8, iP 18, iP 1]),
    (7, .cells true 0 [iP 10, iP 18, iP 1]),
    (8, .map [⟨.agg ⟨[iP 0, iP 1]⟩, .slice (some ⟨9, 0, none⟩) 2 18446744073709551616, 0⟩, ⟨.agg ⟨[iP 1, iP 0]⟩, .slice (some ⟨10, 0, none⟩) 1 18446744073709551616, 1⟩, ⟨.agg ⟨[iP 2, iP 0]⟩, .slice (some ⟨11, 0, none⟩) 1 18446744073709551616, 2⟩] 3),
    (9, .cells true 2 [iP 0, iP 1]),
    (10, .cells true 2 [iP 1]),
    (11, .cells true 2 [iP 1]),
    (12, .cells true 0 [iP 0]),
    (13, .cells true 3 [iP 0, iP 0, iP 0, iP 1])],
   [],
   .tuple ⟨[.slice none 0 0, .bool false]⟩⟩
theorem sm43_h : sm43.holds EE := ent0 _ (by kernel_rfl) (by kernel_rfl)
-- (decani/bench.stalls).first, 714 steps
noncomputable def sm47 : Ent :=
  ⟨58, [.agg ⟨[.slice (some ⟨3, 0, none⟩) 2 2, iP 4, .slice none 0 0, .slice (some ⟨4, 0, none⟩) 3 3, iP 1, .map (some 8), .func (.func 111) ⟨[]⟩ ⟨[.pointer (some ⟨12, 0, none⟩)]⟩]⟩, .slice (some ⟨13, 0, none⟩) 1 18446744073709551616], 14,
   gC ++ [(3, .cells true 0 [iP 5, iP 6, iP 20, iP 21, iP 1, iP 2, iP 2, iP 3, iP 1, iP 3, iP 5, iP 8, iP 8, iP 18, iP 18, iP 0, iP 1, iP 1, iP 1, iP 0, iP 6, iP 7]),
    (4, .cells true 0 [iP 0, .slice (some ⟨5, 0, none⟩) 2 2, iP 3, .slice (some ⟨6, 0, none⟩) 1 1, iP 3, .slice (some ⟨7, 0, none⟩) 1 1]),
    (5, .cells true 0 [iP 6, iP 24, iP 1, iP 8, iP 18, iP 1]),
    (6, .cells true 0 [iP 8, iP 18, iP 1]),
    (7, .cells true 0 [iP 10, iP 18, iP 1]),
    (8, .map [⟨.agg ⟨[iP 0, iP 1]⟩, .slice (some ⟨9, 0, none⟩) 2 18446744073709551616, 0⟩, ⟨.agg ⟨[iP 1, iP 0]⟩, .slice (some ⟨10, 0, none⟩) 1 18446744073709551616, 1⟩, ⟨.agg ⟨[iP 2, iP 0]⟩, .slice (some ⟨11, 0, none⟩) 1 18446744073709551616, 2⟩] 3),
    (9, .cells true 2 [iP 0, iP 1]),
    (10, .cells true 2 [iP 1]),
    (11, .cells true 2 [iP 1]),
    (12, .cells true 0 [iP 1]),
    (13, .cells true 3 [iP 1, iP 0])],
   [],
   .tuple ⟨[.slice none 0 0, .bool false]⟩⟩
theorem sm47_h : sm47.holds EE := ent0 _ (by kernel_rfl) (by kernel_rfl)
-- (decani/bench.stalls).first, 150 steps
noncomputable def sm51 : Ent :=
  ⟨58, [.agg ⟨[.slice (some ⟨3, 0, none⟩) 2 2, iP 4, .slice none 0 0, .slice (some ⟨4, 0, none⟩) 3 3, iP 1, .map (some 8), .func (.func 111) ⟨[]⟩ ⟨[.pointer (some ⟨12, 0, none⟩)]⟩]⟩, .slice none 0 0], 13,
   gC ++ [(3, .cells true 0 [iP 5, iP 6, iP 20, iP 21, iP 1, iP 2, iP 2, iP 3, iP 1, iP 3, iP 5, iP 8, iP 8, iP 18, iP 18, iP 0, iP 1, iP 1, iP 1, iP 0, iP 6, iP 7]),
    (4, .cells true 0 [iP 0, .slice (some ⟨5, 0, none⟩) 2 2, iP 3, .slice (some ⟨6, 0, none⟩) 1 1, iP 3, .slice (some ⟨7, 0, none⟩) 1 1]),
    (5, .cells true 0 [iP 6, iP 24, iP 1, iP 8, iP 18, iP 1]),
    (6, .cells true 0 [iP 8, iP 18, iP 1]),
    (7, .cells true 0 [iP 10, iP 18, iP 1]),
    (8, .map [⟨.agg ⟨[iP 0, iP 1]⟩, .slice (some ⟨9, 0, none⟩) 2 18446744073709551616, 0⟩, ⟨.agg ⟨[iP 1, iP 0]⟩, .slice (some ⟨10, 0, none⟩) 1 18446744073709551616, 1⟩, ⟨.agg ⟨[iP 2, iP 0]⟩, .slice (some ⟨11, 0, none⟩) 1 18446744073709551616, 2⟩] 3),
    (9, .cells true 2 [iP 0, iP 1]),
    (10, .cells true 2 [iP 1]),
    (11, .cells true 2 [iP 1]),
    (12, .cells true 0 [iP 1])],
   [],
   .tuple ⟨[.slice none 0 0, .bool true]⟩⟩
theorem sm51_h : sm51.holds EE := ent0 _ (by kernel_rfl) (by kernel_rfl)
end Go.Proofs.YteehcnicdkkimaaGreatDoor
