/- Known calls, part 4: what single calls hand back, at small heaps, by the kernel's own run of the evaluator. No conditions. -/
import Derived.Test.YthbgjljkepfhcabGreatDoorEnv
set_option linter.all false
namespace Go.Proofs.YthbgjljkepfhcabGreatDoor
open Go.Ai
set_option maxRecDepth 1000000
-- decani/voice.Sings, 35757 steps
noncomputable def bm4 : Ent :=
  ⟨82, [.agg ⟨[.slice (some ⟨3, 0, none⟩) 2 2, .int .i64 (.ofNat 4), .slice none 0 0]⟩, .int .i64 (.ofNat 0), .int .i64 (.ofNat 0), .int .i64 (.ofNat 8)], 4,
   [(0, .cells false 0 [.int .i64 (.negSucc 0), .int .i64 (.negSucc 0), .int .i64 (.negSucc 0), .int .i64 (.negSucc 0), .int .i64 (.negSucc 0)]),
    (1, .cells false 0 [.int .i64 (.ofNat 0), .int .i64 (.ofNat 0), .int .i64 (.ofNat 0), .int .i64 (.ofNat 0)]),
    (2, .cells false 0 [.int .i64 (.ofNat 40), .int .i64 (.ofNat 2), .int .i64 (.ofNat 40), .int .i64 (.ofNat 2), .int .i64 (.ofNat 2), .int .i64 (.ofNat 1), .int .i64 (.ofNat 6), .int .i64 (.ofNat 2), .int .i64 (.ofNat 9), .int .i64 (.ofNat 3)]),
    (3, .cells true 0 [.int .i64 (.ofNat 5), .int .i64 (.ofNat 6), .int .i64 (.ofNat 20), .int .i64 (.ofNat 21), .int .i64 (.ofNat 1), .int .i64 (.ofNat 2), .int .i64 (.ofNat 2), .int .i64 (.ofNat 3), .int .i64 (.ofNat 1), .int .i64 (.ofNat 3), .int .i64 (.ofNat 5), .int .i64 (.ofNat 8), .int .i64 (.ofNat 8), .int .i64 (.ofNat 18), .int .i64 (.ofNat 18), .int .i64 (.ofNat 0), .int .i64 (.ofNat 1), .int .i64 (.ofNat 1), .int .i64 (.ofNat 1), .int .i64 (.ofNat 0), .int .i64 (.ofNat 6), .int .i64 (.ofNat 7)])],
   [],
   .tuple ⟨[.int .i64 (.ofNat 2), .int .i64 (.ofNat 0)]⟩⟩
theorem bm4_ok : bm4.okS EE.G = true := by kernel_rfl
theorem bm4_run : evT EE [] 1000000000 (.call bm4.f bm4.args) bm4.heap (keptK bm4) = some (.bool true) := by kernel_rfl
theorem bm4_h : bm4.holds EE := ent_run envOk (fun _ h => by cases h) _ _ bm4_ok bm4_run
-- (decani/bench.stalls).first, 3420 steps
noncomputable def bm20 : Ent :=
  ⟨34, [.agg ⟨[.slice (some ⟨3, 0, none⟩) 2 2, .int .i64 (.ofNat 4), .slice none 0 0, .slice (some ⟨4, 0, none⟩) 3 3, .int .i64 (.ofNat 2), .map (some 8), .func (.func 63) ⟨[]⟩ ⟨[]⟩]⟩, .slice (some ⟨13, 0, none⟩) 2 18446744073709551616], 14,
   [(0, .cells false 0 [.int .i64 (.negSucc 0), .int .i64 (.negSucc 0), .int .i64 (.negSucc 0), .int .i64 (.negSucc 0), .int .i64 (.negSucc 0)]),
    (1, .cells false 0 [.int .i64 (.ofNat 0), .int .i64 (.ofNat 0), .int .i64 (.ofNat 0), .int .i64 (.ofNat 0)]),
    (2, .cells false 0 [.int .i64 (.ofNat 40), .int .i64 (.ofNat 2), .int .i64 (.ofNat 40), .int .i64 (.ofNat 2), .int .i64 (.ofNat 2), .int .i64 (.ofNat 1), .int .i64 (.ofNat 6), .int .i64 (.ofNat 2), .int .i64 (.ofNat 9), .int .i64 (.ofNat 3)]),
    (3, .cells true 0 [.int .i64 (.ofNat 5), .int .i64 (.ofNat 6), .int .i64 (.ofNat 20), .int .i64 (.ofNat 21), .int .i64 (.ofNat 1), .int .i64 (.ofNat 2), .int .i64 (.ofNat 2), .int .i64 (.ofNat 3), .int .i64 (.ofNat 1), .int .i64 (.ofNat 3), .int .i64 (.ofNat 5), .int .i64 (.ofNat 8), .int .i64 (.ofNat 8), .int .i64 (.ofNat 18), .int .i64 (.ofNat 18), .int .i64 (.ofNat 0), .int .i64 (.ofNat 1), .int .i64 (.ofNat 1), .int .i64 (.ofNat 1), .int .i64 (.ofNat 0), .int .i64 (.ofNat 6), .int .i64 (.ofNat 7)]),
    (4, .cells true 0 [.int .i64 (.ofNat 0), .slice (some ⟨5, 0, none⟩) 2 2, .int .i64 (.ofNat 3), .slice (some ⟨6, 0, none⟩) 1 1, .int .i64 (.ofNat 3), .slice (some ⟨7, 0, none⟩) 1 1]),
    (5, .cells true 0 [.int .i64 (.ofNat 6), .int .i64 (.ofNat 20), .int .i64 (.ofNat 1), .int .i64 (.ofNat 8), .int .i64 (.ofNat 18), .int .i64 (.ofNat 1)]),
    (6, .cells true 0 [.int .i64 (.ofNat 8), .int .i64 (.ofNat 18), .int .i64 (.ofNat 1)]),
    (7, .cells true 0 [.int .i64 (.ofNat 10), .int .i64 (.ofNat 18), .int .i64 (.ofNat 1)]),
    (8, .map [⟨.agg ⟨[.int .i64 (.ofNat 0), .int .i64 (.ofNat 0)]⟩, .slice (some ⟨9, 0, none⟩) 1 18446744073709551616, 0⟩, ⟨.agg ⟨[.int .i64 (.ofNat 0), .int .i64 (.ofNat 1)]⟩, .slice (some ⟨10, 0, none⟩) 2 18446744073709551616, 1⟩, ⟨.agg ⟨[.int .i64 (.ofNat 1), .int .i64 (.ofNat 0)]⟩, .slice (some ⟨11, 0, none⟩) 1 18446744073709551616, 2⟩, ⟨.agg ⟨[.int .i64 (.ofNat 2), .int .i64 (.ofNat 0)]⟩, .slice (some ⟨12, 0, none⟩) 1 18446744073709551616, 3⟩] 4),
    (9, .cells true 2 [.int .i64 (.ofNat 0)]),
    (10, .cells true 2 [.int .i64 (.ofNat 0), .int .i64 (.ofNat 1)]),
    (11, .cells true 2 [.int .i64 (.ofNat 1)]),
    (12, .cells true 2 [.int .i64 (.ofNat 1)]),
    (13, .cells true 3 [.int .i64 (.ofNat 0), .int .i64 (.ofNat 0), .int .i64 (.ofNat 0), .int .i64 (.ofNat 1)])],
   [.cells true 4 [.int .i64 (.ofNat 0), .int .i64 (.ofNat 0), .int .i64 (.ofNat 0), .int .i64 (.ofNat 0), .int .i64 (.ofNat 1), .int .i64 (.ofNat 1)]],
   .tuple ⟨[.slice (some ⟨14, 0, none⟩) 2 18446744073709551616, .bool true]⟩⟩
theorem bm20_ok : bm20.okS EE.G = true := by kernel_rfl
theorem bm20_run : evT EE [] 1000000000 (.call bm20.f bm20.args) bm20.heap (keptK bm20) = some (.bool true) := by kernel_rfl
theorem bm20_h : bm20.holds EE := ent_run envOk (fun _ h => by cases h) _ _ bm20_ok bm20_run
-- (decani/bench.stalls).first, 3001 steps
noncomputable def bm24 : Ent :=
  ⟨34, [.agg ⟨[.slice (some ⟨3, 0, none⟩) 2 2, .int .i64 (.ofNat 4), .slice none 0 0, .slice (some ⟨4, 0, none⟩) 3 3, .int .i64 (.ofNat 2), .map (some 8), .func (.func 63) ⟨[]⟩ ⟨[]⟩]⟩, .slice (some ⟨13, 0, none⟩) 2 18446744073709551616], 14,
   [(0, .cells false 0 [.int .i64 (.negSucc 0), .int .i64 (.negSucc 0), .int .i64 (.negSucc 0), .int .i64 (.negSucc 0), .int .i64 (.negSucc 0)]),
    (1, .cells false 0 [.int .i64 (.ofNat 0), .int .i64 (.ofNat 0), .int .i64 (.ofNat 0), .int .i64 (.ofNat 0)]),
    (2, .cells false 0 [.int .i64 (.ofNat 40), .int .i64 (.ofNat 2), .int .i64 (.ofNat 40), .int .i64 (.ofNat 2), .int .i64 (.ofNat 2), .int .i64 (.ofNat 1), .int .i64 (.ofNat 6), .int .i64 (.ofNat 2), .int .i64 (.ofNat 9), .int .i64 (.ofNat 3)]),
    (3, .cells true 0 [.int .i64 (.ofNat 5), .int .i64 (.ofNat 6), .int .i64 (.ofNat 20), .int .i64 (.ofNat 21), .int .i64 (.ofNat 1), .int .i64 (.ofNat 2), .int .i64 (.ofNat 2), .int .i64 (.ofNat 3), .int .i64 (.ofNat 1), .int .i64 (.ofNat 3), .int .i64 (.ofNat 5), .int .i64 (.ofNat 8), .int .i64 (.ofNat 8), .int .i64 (.ofNat 18), .int .i64 (.ofNat 18), .int .i64 (.ofNat 0), .int .i64 (.ofNat 1), .int .i64 (.ofNat 1), .int .i64 (.ofNat 1), .int .i64 (.ofNat 0), .int .i64 (.ofNat 6), .int .i64 (.ofNat 7)]),
    (4, .cells true 0 [.int .i64 (.ofNat 0), .slice (some ⟨5, 0, none⟩) 2 2, .int .i64 (.ofNat 3), .slice (some ⟨6, 0, none⟩) 1 1, .int .i64 (.ofNat 3), .slice (some ⟨7, 0, none⟩) 1 1]),
    (5, .cells true 0 [.int .i64 (.ofNat 6), .int .i64 (.ofNat 20), .int .i64 (.ofNat 1), .int .i64 (.ofNat 8), .int .i64 (.ofNat 18), .int .i64 (.ofNat 1)]),
    (6, .cells true 0 [.int .i64 (.ofNat 8), .int .i64 (.ofNat 18), .int .i64 (.ofNat 1)]),
    (7, .cells true 0 [.int .i64 (.ofNat 10), .int .i64 (.ofNat 18), .int .i64 (.ofNat 1)]),
    (8, .map [⟨.agg ⟨[.int .i64 (.ofNat 0), .int .i64 (.ofNat 0)]⟩, .slice (some ⟨9, 0, none⟩) 1 18446744073709551616, 0⟩, ⟨.agg ⟨[.int .i64 (.ofNat 0), .int .i64 (.ofNat 1)]⟩, .slice (some ⟨10, 0, none⟩) 2 18446744073709551616, 1⟩, ⟨.agg ⟨[.int .i64 (.ofNat 1), .int .i64 (.ofNat 0)]⟩, .slice (some ⟨11, 0, none⟩) 1 18446744073709551616, 2⟩, ⟨.agg ⟨[.int .i64 (.ofNat 2), .int .i64 (.ofNat 0)]⟩, .slice (some ⟨12, 0, none⟩) 1 18446744073709551616, 3⟩] 4),
    (9, .cells true 2 [.int .i64 (.ofNat 0)]),
    (10, .cells true 2 [.int .i64 (.ofNat 0), .int .i64 (.ofNat 1)]),
    (11, .cells true 2 [.int .i64 (.ofNat 1)]),
    (12, .cells true 2 [.int .i64 (.ofNat 1)]),
    (13, .cells true 3 [.int .i64 (.ofNat 1), .int .i64 (.ofNat 0), .int .i64 (.ofNat 2), .int .i64 (.ofNat 0)])],
   [.cells true 4 [.int .i64 (.ofNat 1), .int .i64 (.ofNat 0), .int .i64 (.ofNat 1), .int .i64 (.ofNat 2), .int .i64 (.ofNat 0), .int .i64 (.ofNat 1)]],
   .tuple ⟨[.slice (some ⟨14, 0, none⟩) 2 18446744073709551616, .bool true]⟩⟩
theorem bm24_ok : bm24.okS EE.G = true := by kernel_rfl
theorem bm24_run : evT EE [] 1000000000 (.call bm24.f bm24.args) bm24.heap (keptK bm24) = some (.bool true) := by kernel_rfl
theorem bm24_h : bm24.holds EE := ent_run envOk (fun _ h => by cases h) _ _ bm24_ok bm24_run
-- decani/voice.Check, 1539 steps
noncomputable def bm33 : Ent :=
  ⟨57, [.agg ⟨[.slice (some ⟨3, 0, none⟩) 2 2, .int .i64 (.ofNat 4), .slice (some ⟨4, 0, none⟩) 2 2]⟩], 5,
   [(0, .cells false 0 [.int .i64 (.negSucc 0), .int .i64 (.negSucc 0), .int .i64 (.negSucc 0), .int .i64 (.negSucc 0), .int .i64 (.negSucc 0)]),
    (1, .cells false 0 [.int .i64 (.ofNat 0), .int .i64 (.ofNat 0), .int .i64 (.ofNat 0), .int .i64 (.ofNat 0)]),
    (2, .cells false 0 [.int .i64 (.ofNat 40), .int .i64 (.ofNat 2), .int .i64 (.ofNat 40), .int .i64 (.ofNat 2), .int .i64 (.ofNat 2), .int .i64 (.ofNat 1), .int .i64 (.ofNat 6), .int .i64 (.ofNat 2), .int .i64 (.ofNat 9), .int .i64 (.ofNat 3)]),
    (3, .cells true 0 [.int .i64 (.ofNat 5), .int .i64 (.ofNat 6), .int .i64 (.ofNat 20), .int .i64 (.ofNat 21), .int .i64 (.ofNat 1), .int .i64 (.ofNat 2), .int .i64 (.ofNat 2), .int .i64 (.ofNat 3), .int .i64 (.ofNat 1), .int .i64 (.ofNat 3), .int .i64 (.ofNat 5), .int .i64 (.ofNat 8), .int .i64 (.ofNat 8), .int .i64 (.ofNat 18), .int .i64 (.ofNat 18), .int .i64 (.ofNat 0), .int .i64 (.ofNat 1), .int .i64 (.ofNat 1), .int .i64 (.ofNat 1), .int .i64 (.ofNat 0), .int .i64 (.ofNat 6), .int .i64 (.ofNat 7)]),
    (4, .cells true 0 [.int .i64 (.ofNat 0), .int .i64 (.ofNat 3), .int .i64 (.ofNat 15), .int .i64 (.ofNat 0), .int .i64 (.ofNat 0), .int .i64 (.ofNat 3), .int .i64 (.ofNat 20), .int .i64 (.ofNat 1)])],
   [],
   .int .i64 (.ofNat 0)⟩
theorem bm33_ok : bm33.okS EE.G = true := by kernel_rfl
theorem bm33_run : evT EE [] 1000000000 (.call bm33.f bm33.args) bm33.heap (keptK bm33) = some (.bool true) := by kernel_rfl
theorem bm33_h : bm33.holds EE := ent_run envOk (fun _ h => by cases h) _ _ bm33_ok bm33_run
-- (decani/bench.stalls).first, 1451 steps
noncomputable def bm40 : Ent :=
  ⟨34, [.agg ⟨[.slice (some ⟨3, 0, none⟩) 2 2, .int .i64 (.ofNat 4), .slice none 0 0, .slice (some ⟨4, 0, none⟩) 3 3, .int .i64 (.ofNat 1), .map (some 8), .func (.func 63) ⟨[]⟩ ⟨[]⟩]⟩, .slice (some ⟨13, 0, none⟩) 1 18446744073709551616], 14,
   [(0, .cells false 0 [.int .i64 (.negSucc 0), .int .i64 (.negSucc 0), .int .i64 (.negSucc 0), .int .i64 (.negSucc 0), .int .i64 (.negSucc 0)]),
    (1, .cells false 0 [.int .i64 (.ofNat 0), .int .i64 (.ofNat 0), .int .i64 (.ofNat 0), .int .i64 (.ofNat 0)]),
    (2, .cells false 0 [.int .i64 (.ofNat 40), .int .i64 (.ofNat 2), .int .i64 (.ofNat 40), .int .i64 (.ofNat 2), .int .i64 (.ofNat 2), .int .i64 (.ofNat 1), .int .i64 (.ofNat 6), .int .i64 (.ofNat 2), .int .i64 (.ofNat 9), .int .i64 (.ofNat 3)]),
    (3, .cells true 0 [.int .i64 (.ofNat 5), .int .i64 (.ofNat 6), .int .i64 (.ofNat 20), .int .i64 (.ofNat 21), .int .i64 (.ofNat 1), .int .i64 (.ofNat 2), .int .i64 (.ofNat 2), .int .i64 (.ofNat 3), .int .i64 (.ofNat 1), .int .i64 (.ofNat 3), .int .i64 (.ofNat 5), .int .i64 (.ofNat 8), .int .i64 (.ofNat 8), .int .i64 (.ofNat 18), .int .i64 (.ofNat 18), .int .i64 (.ofNat 0), .int .i64 (.ofNat 1), .int .i64 (.ofNat 1), .int .i64 (.ofNat 1), .int .i64 (.ofNat 0), .int .i64 (.ofNat 6), .int .i64 (.ofNat 7)]),
    (4, .cells true 0 [.int .i64 (.ofNat 0), .slice (some ⟨5, 0, none⟩) 2 2, .int .i64 (.ofNat 3), .slice (some ⟨6, 0, none⟩) 1 1, .int .i64 (.ofNat 3), .slice (some ⟨7, 0, none⟩) 1 1]),
    (5, .cells true 0 [.int .i64 (.ofNat 6), .int .i64 (.ofNat 20), .int .i64 (.ofNat 1), .int .i64 (.ofNat 8), .int .i64 (.ofNat 18), .int .i64 (.ofNat 1)]),
    (6, .cells true 0 [.int .i64 (.ofNat 8), .int .i64 (.ofNat 18), .int .i64 (.ofNat 1)]),
    (7, .cells true 0 [.int .i64 (.ofNat 10), .int .i64 (.ofNat 18), .int .i64 (.ofNat 1)]),
    (8, .map [⟨.agg ⟨[.int .i64 (.ofNat 0), .int .i64 (.ofNat 0)]⟩, .slice (some ⟨9, 0, none⟩) 1 18446744073709551616, 0⟩, ⟨.agg ⟨[.int .i64 (.ofNat 0), .int .i64 (.ofNat 1)]⟩, .slice (some ⟨10, 0, none⟩) 2 18446744073709551616, 1⟩, ⟨.agg ⟨[.int .i64 (.ofNat 1), .int .i64 (.ofNat 0)]⟩, .slice (some ⟨11, 0, none⟩) 1 18446744073709551616, 2⟩, ⟨.agg ⟨[.int .i64 (.ofNat 2), .int .i64 (.ofNat 0)]⟩, .slice (some ⟨12, 0, none⟩) 1 18446744073709551616, 3⟩] 4),
    (9, .cells true 2 [.int .i64 (.ofNat 0)]),
    (10, .cells true 2 [.int .i64 (.ofNat 0), .int .i64 (.ofNat 1)]),
    (11, .cells true 2 [.int .i64 (.ofNat 1)]),
    (12, .cells true 2 [.int .i64 (.ofNat 1)]),
    (13, .cells true 3 [.int .i64 (.ofNat 1), .int .i64 (.ofNat 0)])],
   [.cells true 4 [.int .i64 (.ofNat 1), .int .i64 (.ofNat 0), .int .i64 (.ofNat 1)]],
   .tuple ⟨[.slice (some ⟨14, 0, none⟩) 1 18446744073709551616, .bool true]⟩⟩
theorem bm40_ok : bm40.okS EE.G = true := by kernel_rfl
theorem bm40_run : evT EE [] 1000000000 (.call bm40.f bm40.args) bm40.heap (keptK bm40) = some (.bool true) := by kernel_rfl
theorem bm40_h : bm40.holds EE := ent_run envOk (fun _ h => by cases h) _ _ bm40_ok bm40_run
-- (decani/bench.stalls).first, 1258 steps
noncomputable def bm48 : Ent :=
  ⟨34, [.agg ⟨[.slice (some ⟨3, 0, none⟩) 2 2, .int .i64 (.ofNat 4), .slice none 0 0, .slice (some ⟨4, 0, none⟩) 3 3, .int .i64 (.ofNat 1), .map (some 8), .func (.func 63) ⟨[]⟩ ⟨[]⟩]⟩, .slice (some ⟨13, 0, none⟩) 1 1], 14,
   [(0, .cells false 0 [.int .i64 (.negSucc 0), .int .i64 (.negSucc 0), .int .i64 (.negSucc 0), .int .i64 (.negSucc 0), .int .i64 (.negSucc 0)]),
    (1, .cells false 0 [.int .i64 (.ofNat 0), .int .i64 (.ofNat 0), .int .i64 (.ofNat 0), .int .i64 (.ofNat 0)]),
    (2, .cells false 0 [.int .i64 (.ofNat 40), .int .i64 (.ofNat 2), .int .i64 (.ofNat 40), .int .i64 (.ofNat 2), .int .i64 (.ofNat 2), .int .i64 (.ofNat 1), .int .i64 (.ofNat 6), .int .i64 (.ofNat 2), .int .i64 (.ofNat 9), .int .i64 (.ofNat 3)]),
    (3, .cells true 0 [.int .i64 (.ofNat 5), .int .i64 (.ofNat 6), .int .i64 (.ofNat 20), .int .i64 (.ofNat 21), .int .i64 (.ofNat 1), .int .i64 (.ofNat 2), .int .i64 (.ofNat 2), .int .i64 (.ofNat 3), .int .i64 (.ofNat 1), .int .i64 (.ofNat 3), .int .i64 (.ofNat 5), .int .i64 (.ofNat 8), .int .i64 (.ofNat 8), .int .i64 (.ofNat 18), .int .i64 (.ofNat 18), .int .i64 (.ofNat 0), .int .i64 (.ofNat 1), .int .i64 (.ofNat 1), .int .i64 (.ofNat 1), .int .i64 (.ofNat 0), .int .i64 (.ofNat 6), .int .i64 (.ofNat 7)]),
    (4, .cells true 0 [.int .i64 (.ofNat 0), .slice (some ⟨5, 0, none⟩) 2 2, .int .i64 (.ofNat 3), .slice (some ⟨6, 0, none⟩) 1 1, .int .i64 (.ofNat 3), .slice (some ⟨7, 0, none⟩) 1 1]),
    (5, .cells true 0 [.int .i64 (.ofNat 6), .int .i64 (.ofNat 20), .int .i64 (.ofNat 1), .int .i64 (.ofNat 8), .int .i64 (.ofNat 18), .int .i64 (.ofNat 1)]),
    (6, .cells true 0 [.int .i64 (.ofNat 8), .int .i64 (.ofNat 18), .int .i64 (.ofNat 1)]),
    (7, .cells true 0 [.int .i64 (.ofNat 10), .int .i64 (.ofNat 18), .int .i64 (.ofNat 1)]),
    (8, .map [⟨.agg ⟨[.int .i64 (.ofNat 0), .int .i64 (.ofNat 0)]⟩, .slice (some ⟨9, 0, none⟩) 1 18446744073709551616, 0⟩, ⟨.agg ⟨[.int .i64 (.ofNat 0), .int .i64 (.ofNat 1)]⟩, .slice (some ⟨10, 0, none⟩) 2 18446744073709551616, 1⟩, ⟨.agg ⟨[.int .i64 (.ofNat 1), .int .i64 (.ofNat 0)]⟩, .slice (some ⟨11, 0, none⟩) 1 18446744073709551616, 2⟩, ⟨.agg ⟨[.int .i64 (.ofNat 2), .int .i64 (.ofNat 0)]⟩, .slice (some ⟨12, 0, none⟩) 1 18446744073709551616, 3⟩] 4),
    (9, .cells true 2 [.int .i64 (.ofNat 0)]),
    (10, .cells true 2 [.int .i64 (.ofNat 0), .int .i64 (.ofNat 1)]),
    (11, .cells true 2 [.int .i64 (.ofNat 1)]),
    (12, .cells true 2 [.int .i64 (.ofNat 1)]),
    (13, .cells true 3 [.int .i64 (.ofNat 0), .int .i64 (.ofNat 0), .int .i64 (.ofNat 0), .int .i64 (.ofNat 1)])],
   [.cells true 4 [.int .i64 (.ofNat 0), .int .i64 (.ofNat 0), .int .i64 (.ofNat 0)]],
   .tuple ⟨[.slice (some ⟨14, 0, none⟩) 1 18446744073709551616, .bool true]⟩⟩
theorem bm48_ok : bm48.okS EE.G = true := by kernel_rfl
theorem bm48_run : evT EE [] 1000000000 (.call bm48.f bm48.args) bm48.heap (keptK bm48) = some (.bool true) := by kernel_rfl
theorem bm48_h : bm48.holds EE := ent_run envOk (fun _ h => by cases h) _ _ bm48_ok bm48_run
-- (decani/bench.stalls).first, 1174 steps
noncomputable def bm57 : Ent :=
  ⟨34, [.agg ⟨[.slice (some ⟨3, 0, none⟩) 2 2, .int .i64 (.ofNat 4), .slice none 0 0, .slice (some ⟨4, 0, none⟩) 3 3, .int .i64 (.ofNat 1), .map (some 8), .func (.func 75) ⟨[]⟩ ⟨[.pointer (some ⟨12, 0, none⟩)]⟩]⟩, .slice (some ⟨13, 0, none⟩) 3 18446744073709551616], 14,
   [(0, .cells false 0 [.int .i64 (.negSucc 0), .int .i64 (.negSucc 0), .int .i64 (.negSucc 0), .int .i64 (.negSucc 0), .int .i64 (.negSucc 0)]),
    (1, .cells false 0 [.int .i64 (.ofNat 0), .int .i64 (.ofNat 0), .int .i64 (.ofNat 0), .int .i64 (.ofNat 0)]),
    (2, .cells false 0 [.int .i64 (.ofNat 40), .int .i64 (.ofNat 2), .int .i64 (.ofNat 40), .int .i64 (.ofNat 2), .int .i64 (.ofNat 2), .int .i64 (.ofNat 1), .int .i64 (.ofNat 6), .int .i64 (.ofNat 2), .int .i64 (.ofNat 9), .int .i64 (.ofNat 3)]),
    (3, .cells true 0 [.int .i64 (.ofNat 5), .int .i64 (.ofNat 6), .int .i64 (.ofNat 20), .int .i64 (.ofNat 21), .int .i64 (.ofNat 1), .int .i64 (.ofNat 2), .int .i64 (.ofNat 2), .int .i64 (.ofNat 3), .int .i64 (.ofNat 1), .int .i64 (.ofNat 3), .int .i64 (.ofNat 5), .int .i64 (.ofNat 8), .int .i64 (.ofNat 8), .int .i64 (.ofNat 18), .int .i64 (.ofNat 18), .int .i64 (.ofNat 0), .int .i64 (.ofNat 1), .int .i64 (.ofNat 1), .int .i64 (.ofNat 1), .int .i64 (.ofNat 0), .int .i64 (.ofNat 6), .int .i64 (.ofNat 7)]),
    (4, .cells true 0 [.int .i64 (.ofNat 0), .slice (some ⟨5, 0, none⟩) 2 2, .int .i64 (.ofNat 3), .slice (some ⟨6, 0, none⟩) 1 1, .int .i64 (.ofNat 3), .slice (some ⟨7, 0, none⟩) 1 1]),
    (5, .cells true 0 [.int .i64 (.ofNat 6), .int .i64 (.ofNat 24), .int .i64 (.ofNat 1), .int .i64 (.ofNat 8), .int .i64 (.ofNat 18), .int .i64 (.ofNat 1)]),
    (6, .cells true 0 [.int .i64 (.ofNat 8), .int .i64 (.ofNat 18), .int .i64 (.ofNat 1)]),
    (7, .cells true 0 [.int .i64 (.ofNat 10), .int .i64 (.ofNat 18), .int .i64 (.ofNat 1)]),
    (8, .map [⟨.agg ⟨[.int .i64 (.ofNat 0), .int .i64 (.ofNat 1)]⟩, .slice (some ⟨9, 0, none⟩) 2 18446744073709551616, 0⟩, ⟨.agg ⟨[.int .i64 (.ofNat 1), .int .i64 (.ofNat 0)]⟩, .slice (some ⟨10, 0, none⟩) 1 18446744073709551616, 1⟩, ⟨.agg ⟨[.int .i64 (.ofNat 2), .int .i64 (.ofNat 0)]⟩, .slice (some ⟨11, 0, none⟩) 1 18446744073709551616, 2⟩] 3),
    (9, .cells true 2 [.int .i64 (.ofNat 0), .int .i64 (.ofNat 1)]),
    (10, .cells true 2 [.int .i64 (.ofNat 1)]),
    (11, .cells true 2 [.int .i64 (.ofNat 1)]),
    (12, .cells true 0 [.int .i64 (.ofNat 1)]),
    (13, .cells true 3 [.int .i64 (.ofNat 0), .int .i64 (.ofNat 0), .int .i64 (.ofNat 0), .int .i64 (.ofNat 1), .int .i64 (.ofNat 1), .int .i64 (.ofNat 0)])],
   [],
   .tuple ⟨[.slice none 0 0, .bool false]⟩⟩
theorem bm57_ok : bm57.okS EE.G = true := by kernel_rfl
theorem bm57_run : evT EE [] 1000000000 (.call bm57.f bm57.args) bm57.heap (keptK bm57) = some (.bool true) := by kernel_rfl
theorem bm57_h : bm57.holds EE := ent_run envOk (fun _ h => by cases h) _ _ bm57_ok bm57_run
-- (decani/bench.stalls).first, 714 steps
noncomputable def bm67 : Ent :=
  ⟨34, [.agg ⟨[.slice (some ⟨3, 0, none⟩) 2 2, .int .i64 (.ofNat 4), .slice none 0 0, .slice (some ⟨4, 0, none⟩) 3 3, .int .i64 (.ofNat 1), .map (some 8), .func (.func 75) ⟨[]⟩ ⟨[.pointer (some ⟨12, 0, none⟩)]⟩]⟩, .slice (some ⟨13, 0, none⟩) 1 18446744073709551616], 14,
   [(0, .cells false 0 [.int .i64 (.negSucc 0), .int .i64 (.negSucc 0), .int .i64 (.negSucc 0), .int .i64 (.negSucc 0), .int .i64 (.negSucc 0)]),
    (1, .cells false 0 [.int .i64 (.ofNat 0), .int .i64 (.ofNat 0), .int .i64 (.ofNat 0), .int .i64 (.ofNat 0)]),
    (2, .cells false 0 [.int .i64 (.ofNat 40), .int .i64 (.ofNat 2), .int .i64 (.ofNat 40), .int .i64 (.ofNat 2), .int .i64 (.ofNat 2), .int .i64 (.ofNat 1), .int .i64 (.ofNat 6), .int .i64 (.ofNat 2), .int .i64 (.ofNat 9), .int .i64 (.ofNat 3)]),
    (3, .cells true 0 [.int .i64 (.ofNat 5), .int .i64 (.ofNat 6), .int .i64 (.ofNat 20), .int .i64 (.ofNat 21), .int .i64 (.ofNat 1), .int .i64 (.ofNat 2), .int .i64 (.ofNat 2), .int .i64 (.ofNat 3), .int .i64 (.ofNat 1), .int .i64 (.ofNat 3), .int .i64 (.ofNat 5), .int .i64 (.ofNat 8), .int .i64 (.ofNat 8), .int .i64 (.ofNat 18), .int .i64 (.ofNat 18), .int .i64 (.ofNat 0), .int .i64 (.ofNat 1), .int .i64 (.ofNat 1), .int .i64 (.ofNat 1), .int .i64 (.ofNat 0), .int .i64 (.ofNat 6), .int .i64 (.ofNat 7)]),
    (4, .cells true 0 [.int .i64 (.ofNat 0), .slice (some ⟨5, 0, none⟩) 2 2, .int .i64 (.ofNat 3), .slice (some ⟨6, 0, none⟩) 1 1, .int .i64 (.ofNat 3), .slice (some ⟨7, 0, none⟩) 1 1]),
    (5, .cells true 0 [.int .i64 (.ofNat 6), .int .i64 (.ofNat 24), .int .i64 (.ofNat 1), .int .i64 (.ofNat 8), .int .i64 (.ofNat 18), .int .i64 (.ofNat 1)]),
    (6, .cells true 0 [.int .i64 (.ofNat 8), .int .i64 (.ofNat 18), .int .i64 (.ofNat 1)]),
    (7, .cells true 0 [.int .i64 (.ofNat 10), .int .i64 (.ofNat 18), .int .i64 (.ofNat 1)]),
    (8, .map [⟨.agg ⟨[.int .i64 (.ofNat 0), .int .i64 (.ofNat 1)]⟩, .slice (some ⟨9, 0, none⟩) 2 18446744073709551616, 0⟩, ⟨.agg ⟨[.int .i64 (.ofNat 1), .int .i64 (.ofNat 0)]⟩, .slice (some ⟨10, 0, none⟩) 1 18446744073709551616, 1⟩, ⟨.agg ⟨[.int .i64 (.ofNat 2), .int .i64 (.ofNat 0)]⟩, .slice (some ⟨11, 0, none⟩) 1 18446744073709551616, 2⟩] 3),
    (9, .cells true 2 [.int .i64 (.ofNat 0), .int .i64 (.ofNat 1)]),
    (10, .cells true 2 [.int .i64 (.ofNat 1)]),
    (11, .cells true 2 [.int .i64 (.ofNat 1)]),
    (12, .cells true 0 [.int .i64 (.ofNat 1)]),
    (13, .cells true 3 [.int .i64 (.ofNat 2), .int .i64 (.ofNat 0)])],
   [],
   .tuple ⟨[.slice none 0 0, .bool false]⟩⟩
theorem bm67_ok : bm67.okS EE.G = true := by kernel_rfl
theorem bm67_run : evT EE [] 1000000000 (.call bm67.f bm67.args) bm67.heap (keptK bm67) = some (.bool true) := by kernel_rfl
theorem bm67_h : bm67.holds EE := ent_run envOk (fun _ h => by cases h) _ _ bm67_ok bm67_run
-- decani/voice.Check, 87 steps
noncomputable def bm76 : Ent :=
  ⟨57, [.agg ⟨[.slice (some ⟨3, 0, none⟩) 2 2, .int .i64 (.ofNat 7), .slice none 0 0]⟩], 4,
   [(0, .cells false 0 [.int .i64 (.negSucc 0), .int .i64 (.negSucc 0), .int .i64 (.negSucc 0), .int .i64 (.negSucc 0), .int .i64 (.negSucc 0)]),
    (1, .cells false 0 [.int .i64 (.ofNat 0), .int .i64 (.ofNat 0), .int .i64 (.ofNat 0), .int .i64 (.ofNat 0)]),
    (2, .cells false 0 [.int .i64 (.ofNat 40), .int .i64 (.ofNat 2), .int .i64 (.ofNat 40), .int .i64 (.ofNat 2), .int .i64 (.ofNat 2), .int .i64 (.ofNat 1), .int .i64 (.ofNat 6), .int .i64 (.ofNat 2), .int .i64 (.ofNat 9), .int .i64 (.ofNat 3)]),
    (3, .cells true 0 [.int .i64 (.ofNat 5), .int .i64 (.ofNat 6), .int .i64 (.ofNat 20), .int .i64 (.ofNat 21), .int .i64 (.ofNat 1), .int .i64 (.ofNat 2), .int .i64 (.ofNat 2), .int .i64 (.ofNat 3), .int .i64 (.ofNat 1), .int .i64 (.ofNat 3), .int .i64 (.ofNat 5), .int .i64 (.ofNat 8), .int .i64 (.ofNat 8), .int .i64 (.ofNat 18), .int .i64 (.ofNat 18), .int .i64 (.ofNat 0), .int .i64 (.ofNat 1), .int .i64 (.ofNat 1), .int .i64 (.ofNat 1), .int .i64 (.ofNat 0), .int .i64 (.ofNat 6), .int .i64 (.ofNat 7)])],
   [],
   .int .i64 (.ofNat 20)⟩
theorem bm76_ok : bm76.okS EE.G = true := by kernel_rfl
theorem bm76_run : evT EE [] 1000000000 (.call bm76.f bm76.args) bm76.heap (keptK bm76) = some (.bool true) := by kernel_rfl
theorem bm76_h : bm76.holds EE := ent_run envOk (fun _ h => by cases h) _ _ bm76_ok bm76_run
end Go.Proofs.YthbgjljkepfhcabGreatDoor
