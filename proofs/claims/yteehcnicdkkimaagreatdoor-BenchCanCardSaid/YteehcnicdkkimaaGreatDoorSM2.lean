/- Known calls, part 2: what single calls hand back, at small heaps, by the kernel's own run of the evaluator. No conditions. -/
import Derived.Test.YteehcnicdkkimaaGreatDoorSZ
set_option linter.all false
namespace Go.Proofs.YteehcnicdkkimaaGreatDoor
open Go.Ai
set_option maxRecDepth 1000000
-- decani/voice.Sings, 35757 steps
noncomputable def sm2 : Ent :=
  ⟨14, [.agg ⟨[.slice (some ⟨3, 0, none⟩) 2 2, iP 4, .slice none 0 0]⟩, iP 0, iP 0, iP 20], 4,
   gC ++ [(3, .cells true 0 [iP 5, iP 6, iP 20, iP 21, iP 1, iP 2, iP 2, iP 3, iP 1, iP 3, iP 5, iP 8, iP 8, iP 18, iP 18, iP 0, iP 1, iP 1, iP 1, iP 0, iP 6, iP 7])],
   [],
   .tuple ⟨[iP 2, iP 0]⟩⟩
theorem sm2_h : sm2.holds EE := ent0 _ (by kernel_rfl) (by kernel_rfl)
-- decani/voice.Sings, 7265 steps
noncomputable def sm5 : Ent :=
  ⟨14, [.agg ⟨[.slice (some ⟨3, 0, none⟩) 2 2, iP 4, .slice none 0 0]⟩, iP 1, iP 0, iP 6], 4,
   gC ++ [(3, .cells true 0 [iP 5, iP 6, iP 20, iP 21, iP 1, iP 2, iP 2, iP 3, iP 1, iP 3, iP 5, iP 8, iP 8, iP 18, iP 18, iP 0, iP 1, iP 1, iP 1, iP 0, iP 6, iP 7])],
   [],
   .tuple ⟨[iP 0, iP 0]⟩⟩
theorem sm5_h : sm5.holds EE := ent0 _ (by kernel_rfl) (by kernel_rfl)
-- decani/voice.Sings, 6625 steps
noncomputable def sm9 : Ent :=
  ⟨14, [.agg ⟨[.slice (some ⟨3, 0, none⟩) 2 2, iP 4, .slice none 0 0]⟩, iP 1, iP 3, iP 8], 4,
   gC ++ [(3, .cells true 0 [iP 5, iP 6, iP 20, iP 21, iP 1, iP 2, iP 2, iP 3, iP 1, iP 3, iP 5, iP 8, iP 8, iP 18, iP 18, iP 0, iP 1, iP 1, iP 1, iP 0, iP 6, iP 7])],
   [],
   .tuple ⟨[iP 2, iP 0]⟩⟩
theorem sm9_h : sm9.holds EE := ent0 _ (by kernel_rfl) (by kernel_rfl)
-- decani/voice.Sings, 6613 steps
noncomputable def sm12 : Ent :=
  ⟨14, [.agg ⟨[.slice (some ⟨3, 0, none⟩) 2 2, iP 4, .slice none 0 0]⟩, iP 1, iP 0, iP 8], 4,
   gC ++ [(3, .cells true 0 [iP 5, iP 6, iP 20, iP 21, iP 1, iP 2, iP 2, iP 3, iP 1, iP 3, iP 5, iP 8, iP 8, iP 18, iP 18, iP 0, iP 1, iP 1, iP 1, iP 0, iP 6, iP 7])],
   [],
   .tuple ⟨[iP 2, iP 0]⟩⟩
theorem sm12_h : sm12.holds EE := ent0 _ (by kernel_rfl) (by kernel_rfl)
-- decani/voice.Sings, 6068 steps
noncomputable def sm15 : Ent :=
  ⟨14, [.agg ⟨[.slice (some ⟨3, 0, none⟩) 2 2, iP 4, .slice none 0 0]⟩, iP 0, iP 3, iP 10], 4,
   gC ++ [(3, .cells true 0 [iP 5, iP 6, iP 20, iP 21, iP 1, iP 2, iP 2, iP 3, iP 1, iP 3, iP 5, iP 8, iP 8, iP 18, iP 18, iP 0, iP 1, iP 1, iP 1, iP 0, iP 6, iP 7])],
   [],
   .tuple ⟨[iP 1, iP 0]⟩⟩
theorem sm15_h : sm15.holds EE := ent0 _ (by kernel_rfl) (by kernel_rfl)
-- (decani/bench.stalls).first, 3420 steps
noncomputable def sm19 : Ent :=
  ⟨58, [.agg ⟨[.slice (some ⟨3, 0, none⟩) 2 2, iP 4, .slice none 0 0, .slice (some ⟨4, 0, none⟩) 3 3, iP 1, .map (some 8), .func (.func 89) ⟨[]⟩ ⟨[]⟩]⟩, .slice (some ⟨13, 0, none⟩) 2 2], 14,
   gC ++ [(3, .cells true 0 [iP 5, iP 6, iP 20, iP 21, iP 1, iP 2, iP 2, iP 3, iP 1, iP 3, iP 5, iP 8, iP 8, iP 18, iP 18, iP 0, iP 1, iP 1, iP 1, iP 0, iP 6, iP 7]),
    (4, .cells true 0 [iP 0, .slice (some ⟨5, 0, none⟩) 2 2, iP 3, .slice (some ⟨6, 0, none⟩) 1 1, iP 3, .slice (some ⟨7, 0, none⟩) 1 1]),
    (5, .cells true 0 [iP 6, iP 20, iP 1, iP 8, iP 18, iP 1]),
    (6, .cells true 0 [iP 8, iP 18, iP 1]),
    (7, .cells true 0 [iP 10, iP 18, iP 1]),
    (8, .map [⟨.agg ⟨[iP 0, iP 0]⟩, .slice (some ⟨9, 0, none⟩) 1 18446744073709551616, 0⟩, ⟨.agg ⟨[iP 0, iP 1]⟩, .slice (some ⟨10, 0, none⟩) 2 18446744073709551616, 1⟩, ⟨.agg ⟨[iP 1, iP 0]⟩, .slice (some ⟨11, 0, none⟩) 1 18446744073709551616, 2⟩, ⟨.agg ⟨[iP 2, iP 0]⟩, .slice (some ⟨12, 0, none⟩) 1 18446744073709551616, 3⟩] 4),
    (9, .cells true 2 [iP 0]),
    (10, .cells true 2 [iP 0, iP 1]),
    (11, .cells true 2 [iP 1]),
    (12, .cells true 2 [iP 1]),
    (13, .cells true 3 [iP 0, iP 0, iP 0, iP 1])],
   [.cells true 4 [iP 0, iP 0, iP 0, iP 0, iP 1, iP 1]],
   .tuple ⟨[.slice (some ⟨14, 0, none⟩) 2 18446744073709551616, .bool true]⟩⟩
theorem sm19_h : sm19.holds EE := ent0 _ (by kernel_rfl) (by kernel_rfl)
-- (decani/bench.stalls).first, 2968 steps
noncomputable def sm21 : Ent :=
  ⟨58, [.agg ⟨[.slice (some ⟨3, 0, none⟩) 2 2, iP 4, .slice none 0 0, .slice (some ⟨4, 0, none⟩) 3 3, iP 1, .map (some 8), .func (.func 89) ⟨[]⟩ ⟨[]⟩]⟩, .slice (some ⟨13, 0, none⟩) 2 18446744073709551616], 14,
   gC ++ [(3, .cells true 0 [iP 5, iP 6, iP 20, iP 21, iP 1, iP 2, iP 2, iP 3, iP 1, iP 3, iP 5, iP 8, iP 8, iP 18, iP 18, iP 0, iP 1, iP 1, iP 1, iP 0, iP 6, iP 7]),
    (4, .cells true 0 [iP 0, .slice (some ⟨5, 0, none⟩) 2 2, iP 3, .slice (some ⟨6, 0, none⟩) 1 1, iP 3, .slice (some ⟨7, 0, none⟩) 1 1]),
    (5, .cells true 0 [iP 6, iP 20, iP 1, iP 8, iP 18, iP 1]),
    (6, .cells true 0 [iP 8, iP 18, iP 1]),
    (7, .cells true 0 [iP 10, iP 18, iP 1]),
    (8, .map [⟨.agg ⟨[iP 0, iP 0]⟩, .slice (some ⟨9, 0, none⟩) 1 18446744073709551616, 0⟩, ⟨.agg ⟨[iP 0, iP 1]⟩, .slice (some ⟨10, 0, none⟩) 2 18446744073709551616, 1⟩, ⟨.agg ⟨[iP 1, iP 0]⟩, .slice (some ⟨11, 0, none⟩) 1 18446744073709551616, 2⟩, ⟨.agg ⟨[iP 2, iP 0]⟩, .slice (some ⟨12, 0, none⟩) 1 18446744073709551616, 3⟩] 4),
    (9, .cells true 2 [iP 0]),
    (10, .cells true 2 [iP 0, iP 1]),
    (11, .cells true 2 [iP 1]),
    (12, .cells true 2 [iP 1]),
    (13, .cells true 3 [iP 1, iP 0, iP 2, iP 0])],
   [],
   .tuple ⟨[.slice none 0 0, .bool false]⟩⟩
theorem sm21_h : sm21.holds EE := ent0 _ (by kernel_rfl) (by kernel_rfl)
-- (decani/bench.stalls).first, 2808 steps
noncomputable def sm23 : Ent :=
  ⟨58, [.agg ⟨[.slice (some ⟨3, 0, none⟩) 2 2, iP 4, .slice none 0 0, .slice (some ⟨4, 0, none⟩) 3 3, iP 1, .map (some 8), .func (.func 111) ⟨[]⟩ ⟨[.pointer (some ⟨12, 0, none⟩)]⟩]⟩, .slice (some ⟨13, 0, none⟩) 2 18446744073709551616], 14,
   gC ++ [(3, .cells true 0 [iP 5, iP 6, iP 20, iP 21, iP 1, iP 2, iP 2, iP 3, iP 1, iP 3, iP 5, iP 8, iP 8, iP 18, iP 18, iP 0, iP 1, iP 1, iP 1, iP 0, iP 6, iP 7]),
    (4, .cells true 0 [iP 0, .slice (some ⟨5, 0, none⟩) 2 2, iP 3, .slice (some ⟨6, 0, none⟩) 1 1, iP 3, .slice (some ⟨7, 0, none⟩) 1 1]),
    (5, .cells true 0 [iP 6, iP 24, iP 1, iP 8, iP 18, iP 1]),
    (6, .cells true 0 [iP 8, iP 18, iP 1]),
    (7, .cells true 0 [iP 10, iP 18, iP 1]),
    (8, .map [⟨.agg ⟨[iP 0, iP 1]⟩, .slice (some ⟨9, 0, none⟩) 2 18446744073709551616, 0⟩, ⟨.agg ⟨[iP 1, iP 0]⟩, .slice (some ⟨10, 0, none⟩) 1 18446744073709551616, 1⟩, ⟨.agg ⟨[iP 2, iP 0]⟩, .slice (some ⟨11, 0, none⟩) 1 18446744073709551616, 2⟩] 3),
    (9, .cells true 2 [iP 0, iP 1]),
    (10, .cells true 2 [iP 1]),
    (11, .cells true 2 [iP 1]),
    (12, .cells true 0 [iP 0]),
    (13, .cells true 3 [iP 1, iP 0, iP 2, iP 0])],
   [],
   .tuple ⟨[.slice none 0 0, .bool false]⟩⟩
theorem sm23_h : sm23.holds EE := ent0 _ (by kernel_rfl) (by kernel_rfl)
-- (decani/bench.stalls).first, 1419 steps
noncomputable def sm29 : Ent :=
  ⟨58, [.agg ⟨[.slice (some ⟨3, 0, none⟩) 2 2, iP 4, .slice none 0 0, .slice (some ⟨4, 0, none⟩) 3 3, iP 1, .map (some 8), .func (.func 111) ⟨[]⟩ ⟨[.pointer (some ⟨12, 0, none⟩)]⟩]⟩, .slice (some ⟨13, 0, none⟩) 4 18446744073709551616], 14,
   gC ++ [(3, .cells true 0 [iP 5, iP 6, iP 20, iP 21, iP 1, iP 2, iP 2, iP 3, iP 1, iP 3, iP 5, iP 8, iP 8, iP 18, iP 18, iP 0, iP 1, iP 1, iP 1, iP 0, iP 6, iP 7]),
    (4, .cells true 0 [iP 0, .slice (some ⟨5, 0, none⟩) 2 2, iP 3, .slice (some ⟨6, 0, none⟩) 1 1, iP 3, .slice (some ⟨7, 0, none⟩) 1 1]),
    (5, .cells true 0 [iP 6, iP 24, iP 1, iP 8, iP 18, iP 1]),
    (6, .cells true 0 [iP 8, iP 18, iP 1]),
    (7, .cells true 0 [iP 10, iP 18, iP 1]),
    (8, .map [⟨.agg ⟨[iP 0, iP 1]⟩, .slice (some ⟨9, 0, none⟩) 2 18446744073709551616, 0⟩, ⟨.agg ⟨[iP 1, iP 0]⟩, .slice (some ⟨10, 0, none⟩) 1 18446744073709551616, 1⟩, ⟨.agg ⟨[iP 2, iP 0]⟩, .slice (some ⟨11, 0, none⟩) 1 18446744073709551616, 2⟩] 3),
    (9, .cells true 2 [iP 0, iP 1]),
    (10, .cells true 2 [iP 1]),
    (11, .cells true 2 [iP 1]),
    (12, .cells true 0 [iP 0]),
    (13, .cells true 3 [iP 0, iP 0, iP 0, iP 1, iP 1, iP 0, iP 2, iP 0])],
   [],
   .tuple ⟨[.slice none 0 0, .bool false]⟩⟩
theorem sm29_h : sm29.holds EE := ent0 _ (by kernel_rfl) (by kernel_rfl)
-- (decani/bench.stalls).first, 1258 steps
noncomputable def sm33 : Ent :=
  ⟨58, [.agg ⟨[.slice (some ⟨3, 0, none⟩) 2 2, iP 4, .slice none 0 0, .slice (some ⟨4, 0, none⟩) 3 3, iP 1, .map (some 8), .func (.func 89) ⟨[]⟩ ⟨[]⟩]⟩, .slice (some ⟨13, 0, none⟩) 1 1], 14,
   gC ++ [(3, .cells true 0 [iP 5, iP 6, iP 20, iP 21, iP 1, iP 2, iP 2, iP 3, iP 1, iP 3, iP 5, iP 8, iP 8, iP 18, iP 18, iP 0, iP 1, iP 1, iP 1, iP 0, iP 6, iP 7]),
    (4, .cells true 0 [iP 0, .slice (some ⟨5, 0, none⟩) 2 2, iP 3, .slice (some ⟨6, 0, none⟩) 1 1, iP 3, .slice (some ⟨7, 0, none⟩) 1 1]),
    (5, .cells true 0 [iP 6, iP 20, iP 1, iP 8, iP 18, iP 1]),
    (6, .cells true 0 [iP 8, iP 18, iP 1]),
    (7, .cells true 0 [iP 10, iP 18, iP 1]),
    (8, .map [⟨.agg ⟨[iP 0, iP 0]⟩, .slice (some ⟨9, 0, none⟩) 1 18446744073709551616, 0⟩, ⟨.agg ⟨[iP 0, iP 1]⟩, .slice (some ⟨10, 0, none⟩) 2 18446744073709551616, 1⟩, ⟨.agg ⟨[iP 1, iP 0]⟩, .slice (some ⟨11, 0, none⟩) 1 18446744073709551616, 2⟩, ⟨.agg ⟨[iP 2, iP 0]⟩, .slice (some ⟨12, 0, none⟩) 1 18446744073709551616, 3⟩] 4),
    (9, .cells true 2 [iP 0]),
    (10, .cells true 2 [iP 0, iP 1]),
    (11, .cells true 2 [iP 1]),
    (12, .cells true 2 [iP 1]),
    (13, .cells true 3 [iP 0, iP 0, iP 0, iP 1])],
   [.cells true 4 [iP 0, iP 0, iP 0]],
   .tuple ⟨[.slice (some ⟨14, 0, none⟩) 1 18446744073709551616, .bool true]⟩⟩
theorem sm33_h : sm33.holds EE := ent0 _ (by kernel_rfl) (by kernel_rfl)
-- decani/voice.Check, 1181 steps
noncomputable def sm36 : Ent :=
  ⟨18, [.agg ⟨[.slice (some ⟨3, 0, none⟩) 2 2, iP 4, .slice none 0 0]⟩], 4,
   gC ++ [(3, .cells true 0 [iP 5, iP 6, iP 20, iP 21, iP 1, iP 2, iP 2, iP 3, iP 1, iP 3, iP 5, iP 8, iP 8, iP 18, iP 18, iP 0, iP 1, iP 1, iP 1, iP 0, iP 6, iP 7])],
   [],
   iP 0⟩
theorem sm36_h : sm36.holds EE := ent0 _ (by kernel_rfl) (by kernel_rfl)
-- (decani/bench.stalls).first, 1174 steps
noncomputable def sm40 : Ent :=
  ⟨58, [.agg ⟨[.slice (some ⟨3, 0, none⟩) 2 2, iP 4, .slice none 0 0, .slice (some ⟨4, 0, none⟩) 3 3, iP 1, .map (some 8), .func (.func 111) ⟨[]⟩ ⟨[.pointer (some ⟨12, 0, none⟩)]⟩]⟩, .slice (some ⟨13, 0, none⟩) 3 18446744073709551616], 14,
   gC ++ [(3, .cells true 0 [iP 5, iP 6, iP 20, iP 21, iP 1, iP 2, iP 2, iP 3, iP 1, iP 3, iP 5, iP 8, iP 8, iP 18, iP 18, iP 0, iP 1, iP 1, iP 1, iP 0, iP 6, iP 7]),
    (4, .cells true 0 [iP 0, .slice (some ⟨5, 0, none⟩) 2 2, iP 3, .slice (some ⟨6, 0, none⟩) 1 1, iP 3, .slice (some ⟨7, 0, none⟩) 1 1]),
    (5, .cells true 0 [iP 6, iP 24, iP 1, iP 8, iP 18, iP 1]),
    (6, .cells true 0 [iP 8, iP 18, iP 1]),
    (7, .cells true 0 [iP 10, iP 18, iP 1]),
    (8, .map [⟨.agg ⟨[iP 0, iP 1]⟩, .slice (some ⟨9, 0, none⟩) 2 18446744073709551616, 0⟩, ⟨.agg ⟨[iP 1, iP 0]⟩, .slice (some ⟨10, 0, none⟩) 1 18446744073709551616, 1⟩, ⟨.agg ⟨[iP 2, iP 0]⟩, .slice (some ⟨11, 0, none⟩) 1 18446744073709551616, 2⟩] 3),
    (9, .cells true 2 [iP 0, iP 1]),
    (10, .cells true 2 [iP 1]),
    (11, .cells true 2 [iP 1]),
    (12, .cells true 0 [iP 1]),
    (13, .cells true 3 [iP 0, iP 0, iP 0, iP 1, iP 1, iP 0])],
   [],
   .tuple ⟨[.slice none 0 0, .bool false]⟩⟩
theorem sm40_h : sm40.holds EE := ent0 _ (by kernel_rfl) (by kernel_rfl)
-- (decani/bench.stalls).first, 714 steps
noncomputable def sm46 : Ent :=
  ⟨58, [.agg ⟨[.slice (some ⟨3, 0, none⟩) 2 2, iP 4, .slice none 0 0, .slice (some ⟨4, 0, none⟩) 3 3, iP 1, .map (some 8), .func (.func 111) ⟨[]⟩ ⟨[.pointer (some ⟨12, 0, none⟩)]⟩]⟩, .slice (some ⟨13, 0, none⟩) 1 18446744073709551616], 14,
   gC ++ [(3, .cells true 0 [iP 5, iP 6, iP 20, iP 21, iP 1, iP 2, iP 2, iP 3, iP 1, iP 3, iP 5, iP 8, iP 8, iP 18, iP 18, iP 0, iP 1, iP 1, iP 1, iP 0, iP 6, iP 7]),
    (4, .cells true 0 [iP 0, .slice (some ⟨5, 0, none⟩) 2 2, iP 3, .slice (some ⟨6, 0, none⟩) 1 1, iP 3, .slice (some ⟨7, 0, none⟩) 1 1]),
    (5, .cells true 0 [iP 6, iP 24, iP 1, iP 8, iP 18, iP 1]),
    (6, .cells true 0 [iP 8, iP 18, iP 1]),
    (7, .cells true 0 [iP 10, iP 18, iP 1]),
    (8, .map [⟨.agg ⟨[iP 0, iP 1]⟩, .slice (some ⟨9, 0, none⟩) 2 18446744073709551616, 0⟩, ⟨.agg ⟨[iP 1, iP 0]⟩, .slice (some ⟨10, 0, none⟩) 1 18446744073709551616, 1⟩, ⟨.agg ⟨[iP 2, iP 0]⟩, .slice (some ⟨11, 0, none⟩) 1 18446744073709551616, 2⟩] 3),
    (9, .cells true 2 [iP 0, iP 1]),
    (10, .cells true 2 [iP 1]),
    (11, .cells true 2 [iP 1]),
    (12, .cells true 0 [iP 1]),
    (13, .cells true 3 [iP 2, iP 0])],
   [],
   .tuple ⟨[.slice none 0 0, .bool false]⟩⟩
theorem sm46_h : sm46.holds EE := ent0 _ (by kernel_rfl) (by kernel_rfl)
-- (decani/bench.stalls).first, 150 steps
noncomputable def sm49 : Ent :=
  ⟨58, [.agg ⟨[.slice (some ⟨3, 0, none⟩) 2 2, iP 4, .slice none 0 0, .slice (some ⟨4, 0, none⟩) 3 3, iP 1, .map (some 8), .func (.func 89) ⟨[]⟩ ⟨[]⟩]⟩, .slice none 0 0], 12,
   gC ++ [(3, .cells true 0 [iP 5, iP 6, iP 20, iP 21, iP 1, iP 2, iP 2, iP 3, iP 1, iP 3, iP 5, iP 8, iP 8, iP 18, iP 18, iP 0, iP 1, iP 1, iP 1, iP 0, iP 6, iP 7]),
    (4, .cells true 0 [iP 0, .slice (some ⟨5, 0, none⟩) 2 2, iP 3, .slice (some ⟨6, 0, none⟩) 1 1, iP 3, .slice (some ⟨7, 0, none⟩) 1 1]),
    (5, .cells true 0 [iP 6, iP 24, iP 1, iP 8, iP 18, iP 1]),
    (6, .cells true 0 [iP 8, iP 18, iP 1]),
    (7, .cells true 0 [iP 10, iP 18, iP 1]),
    (8, .map [⟨.agg ⟨[iP 0, iP 1]⟩, .slice (some ⟨9, 0, none⟩) 2 18446744073709551616, 0⟩, ⟨.agg ⟨[iP 1, iP 0]⟩, .slice (some ⟨10, 0, none⟩) 1 18446744073709551616, 1⟩, ⟨.agg ⟨[iP 2, iP 0]⟩, .slice (some ⟨11, 0, none⟩) 1 18446744073709551616, 2⟩] 3),
    (9, .cells true 2 [iP 0, iP 1]),
    (10, .cells true 2 [iP 1]),
    (11, .cells true 2 [iP 1])],
   [],
   .tuple ⟨[.slice none 0 0, .bool true]⟩⟩
theorem sm49_h : sm49.holds EE := ent0 _ (by kernel_rfl) (by kernel_rfl)
end Go.Proofs.YteehcnicdkkimaaGreatDoor
