/- Known calls, part 11: what single calls hand back, at small heaps, by the kernel's own run of the evaluator. No conditions. -/
import Derived.Test.YthbgjljkepfhcacGreatDoorEnv
set_option linter.all false
namespace Go.Proofs.YthbgjljkepfhcacGreatDoor
open Go.Ai
set_option maxRecDepth 1000000
-- decani/voice.Sings, 35757 steps
noncomputable def vm11 : Ent :=
  ⟨74, [.agg ⟨[.slice (some ⟨3, 0, none⟩) 2 2, .int .i64 (.ofNat 4), .slice none 0 0]⟩, .int .i64 (.ofNat 0), .int .i64 (.ofNat 0), .int .i64 (.ofNat 19)], 4,
   [(0, .cells false 0 [.int .i64 (.negSucc 60), .int .i64 (.negSucc 60), .int .i64 (.negSucc 60), .int .i64 (.negSucc 60), .int .i64 (.negSucc 60)]),
    (1, .cells false 0 [.int .i64 (.negSucc 0), .int .i64 (.negSucc 0), .int .i64 (.negSucc 0), .int .i64 (.negSucc 0), .int .i64 (.negSucc 0)]),
    (2, .cells false 0 [.int .i64 (.ofNat 40), .int .i64 (.ofNat 2), .int .i64 (.ofNat 40), .int .i64 (.ofNat 2), .int .i64 (.ofNat 2), .int .i64 (.ofNat 1), .int .i64 (.ofNat 6), .int .i64 (.ofNat 2), .int .i64 (.ofNat 9), .int .i64 (.ofNat 3)]),
    (3, .cells true 0 [.int .i64 (.ofNat 5), .int .i64 (.ofNat 6), .int .i64 (.ofNat 20), .int .i64 (.ofNat 21), .int .i64 (.ofNat 1), .int .i64 (.ofNat 2), .int .i64 (.ofNat 2), .int .i64 (.ofNat 3), .int .i64 (.ofNat 1), .int .i64 (.ofNat 3), .int .i64 (.ofNat 5), .int .i64 (.ofNat 8), .int .i64 (.ofNat 8), .int .i64 (.ofNat 18), .int .i64 (.ofNat 18), .int .i64 (.ofNat 0), .int .i64 (.ofNat 1), .int .i64 (.ofNat 1), .int .i64 (.ofNat 1), .int .i64 (.ofNat 0), .int .i64 (.ofNat 6), .int .i64 (.ofNat 7)])],
   [],
   .tuple ⟨[.int .i64 (.ofNat 2), .int .i64 (.ofNat 0)]⟩⟩
theorem vm11_ok : vm11.okS EE.G = true := by kernel_rfl
theorem vm11_run : evT EE [] 1000000000 (.call vm11.f vm11.args) vm11.heap (keptK vm11) = some (.bool true) := by kernel_rfl
theorem vm11_h : vm11.holds EE := ent_run envOk (fun _ h => by cases h) _ _ vm11_ok vm11_run
-- decani/organ.newLoft, 16245 steps
noncomputable def vm42 : Ent :=
  ⟨21, [.agg ⟨[.int .i64 (.ofNat 3), .slice (some ⟨3, 0, none⟩) 2 18446744073709551616, .slice (some ⟨4, 0, none⟩) 1 1, .slice (some ⟨5, 0, none⟩) 2 2, .int .i64 (.ofNat 4), .slice none 0 0]⟩], 6,
   [(0, .cells false 0 [.int .i64 (.negSucc 60), .int .i64 (.negSucc 60), .int .i64 (.negSucc 60), .int .i64 (.negSucc 60), .int .i64 (.negSucc 60)]),
    (1, .cells false 0 [.int .i64 (.negSucc 0), .int .i64 (.negSucc 0), .int .i64 (.negSucc 0), .int .i64 (.negSucc 0), .int .i64 (.negSucc 0)]),
    (2, .cells false 0 [.int .i64 (.ofNat 40), .int .i64 (.ofNat 2), .int .i64 (.ofNat 40), .int .i64 (.ofNat 2), .int .i64 (.ofNat 2), .int .i64 (.ofNat 1), .int .i64 (.ofNat 6), .int .i64 (.ofNat 2), .int .i64 (.ofNat 9), .int .i64 (.ofNat 3)]),
    (3, .cells true 5 [.int .i64 (.ofNat 0), .int .i64 (.ofNat 1), .int .i64 (.ofNat 0), .int .i64 (.ofNat 2), .int .i64 (.ofNat 1), .int .i64 (.ofNat 2), .int .i64 (.ofNat 1), .int .i64 (.ofNat 1)]),
    (4, .cells true 0 [.int .i64 (.ofNat 0), .int .i64 (.ofNat 10), .int .i64 (.ofNat 1)]),
    (5, .cells true 0 [.int .i64 (.ofNat 5), .int .i64 (.ofNat 6), .int .i64 (.ofNat 20), .int .i64 (.ofNat 21), .int .i64 (.ofNat 1), .int .i64 (.ofNat 2), .int .i64 (.ofNat 2), .int .i64 (.ofNat 3), .int .i64 (.ofNat 1), .int .i64 (.ofNat 3), .int .i64 (.ofNat 5), .int .i64 (.ofNat 8), .int .i64 (.ofNat 8), .int .i64 (.ofNat 18), .int .i64 (.ofNat 18), .int .i64 (.ofNat 0), .int .i64 (.ofNat 1), .int .i64 (.ofNat 1), .int .i64 (.ofNat 1), .int .i64 (.ofNat 0), .int .i64 (.ofNat 6), .int .i64 (.ofNat 7)])],
   [.map [⟨.agg ⟨[.int .i64 (.ofNat 3), .int .i64 (.ofNat 0)]⟩, .int .i64 (.ofNat 11), 0⟩, ⟨.agg ⟨[.int .i64 (.ofNat 0), .int .i64 (.ofNat 3)]⟩, .int .i64 (.negSucc 8), 1⟩, ⟨.agg ⟨[.int .i64 (.ofNat 3), .int .i64 (.ofNat 1)]⟩, .int .i64 (.ofNat 13), 2⟩, ⟨.agg ⟨[.int .i64 (.ofNat 1), .int .i64 (.ofNat 3)]⟩, .int .i64 (.negSucc 6), 3⟩, ⟨.agg ⟨[.int .i64 (.ofNat 3), .int .i64 (.ofNat 2)]⟩, .int .i64 (.ofNat 15), 4⟩, ⟨.agg ⟨[.int .i64 (.ofNat 2), .int .i64 (.ofNat 3)]⟩, .int .i64 (.negSucc 6), 5⟩, ⟨.agg ⟨[.int .i64 (.ofNat 0), .int .i64 (.ofNat 1)]⟩, .int .i64 (.ofNat 2), 6⟩, ⟨.agg ⟨[.int .i64 (.ofNat 1), .int .i64 (.ofNat 0)]⟩, .int .i64 (.ofNat 2), 7⟩, ⟨.agg ⟨[.int .i64 (.ofNat 1), .int .i64 (.ofNat 2)]⟩, .int .i64 (.ofNat 2), 8⟩, ⟨.agg ⟨[.int .i64 (.ofNat 2), .int .i64 (.ofNat 1)]⟩, .int .i64 (.ofNat 0), 9⟩, ⟨.agg ⟨[.int .i64 (.ofNat 0), .int .i64 (.ofNat 0)]⟩, .int .i64 (.ofNat 0), 10⟩, ⟨.agg ⟨[.int .i64 (.ofNat 0), .int .i64 (.ofNat 2)]⟩, .int .i64 (.ofNat 4), 11⟩, ⟨.agg ⟨[.int .i64 (.ofNat 1), .int .i64 (.ofNat 1)]⟩, .int .i64 (.ofNat 0), 12⟩, ⟨.agg ⟨[.int .i64 (.ofNat 2), .int .i64 (.ofNat 0)]⟩, .int .i64 (.ofNat 2), 13⟩, ⟨.agg ⟨[.int .i64 (.ofNat 2), .int .i64 (.ofNat 2)]⟩, .int .i64 (.ofNat 0), 14⟩, ⟨.agg ⟨[.int .i64 (.ofNat 3), .int .i64 (.ofNat 3)]⟩, .int .i64 (.ofNat 0), 15⟩] 16],
   .agg ⟨[.int .i64 (.ofNat 3), .slice (some ⟨3, 0, none⟩) 2 18446744073709551616, .slice (some ⟨4, 0, none⟩) 1 1, .slice (some ⟨5, 0, none⟩) 2 2, .int .i64 (.ofNat 4), .slice none 0 0, .map (some 6)]⟩⟩
theorem vm42_ok : vm42.okS EE.G = true := by kernel_rfl
theorem vm42_run : evT EE [] 1000000000 (.call vm42.f vm42.args) vm42.heap (keptK vm42) = some (.bool true) := by kernel_rfl
theorem vm42_h : vm42.holds EE := ent_run envOk (fun _ h => by cases h) _ _ vm42_ok vm42_run
-- decani/voice.Sings, 6613 steps
noncomputable def vm67 : Ent :=
  ⟨74, [.agg ⟨[.slice (some ⟨3, 0, none⟩) 2 2, .int .i64 (.ofNat 4), .slice none 0 0]⟩, .int .i64 (.ofNat 1), .int .i64 (.ofNat 0), .int .i64 (.ofNat 12)], 4,
   [(0, .cells false 0 [.int .i64 (.negSucc 60), .int .i64 (.negSucc 60), .int .i64 (.negSucc 60), .int .i64 (.negSucc 60), .int .i64 (.negSucc 60)]),
    (1, .cells false 0 [.int .i64 (.negSucc 0), .int .i64 (.negSucc 0), .int .i64 (.negSucc 0), .int .i64 (.negSucc 0), .int .i64 (.negSucc 0)]),
    (2, .cells false 0 [.int .i64 (.ofNat 40), .int .i64 (.ofNat 2), .int .i64 (.ofNat 40), .int .i64 (.ofNat 2), .int .i64 (.ofNat 2), .int .i64 (.ofNat 1), .int .i64 (.ofNat 6), .int .i64 (.ofNat 2), .int .i64 (.ofNat 9), .int .i64 (.ofNat 3)]),
    (3, .cells true 0 [.int .i64 (.ofNat 5), .int .i64 (.ofNat 6), .int .i64 (.ofNat 20), .int .i64 (.ofNat 21), .int .i64 (.ofNat 1), .int .i64 (.ofNat 2), .int .i64 (.ofNat 2), .int .i64 (.ofNat 3), .int .i64 (.ofNat 1), .int .i64 (.ofNat 3), .int .i64 (.ofNat 5), .int .i64 (.ofNat 8), .int .i64 (.ofNat 8), .int .i64 (.ofNat 18), .int .i64 (.ofNat 18), .int .i64 (.ofNat 0), .int .i64 (.ofNat 1), .int .i64 (.ofNat 1), .int .i64 (.ofNat 1), .int .i64 (.ofNat 0), .int .i64 (.ofNat 6), .int .i64 (.ofNat 7)])],
   [],
   .tuple ⟨[.int .i64 (.ofNat 2), .int .i64 (.ofNat 0)]⟩⟩
theorem vm67_ok : vm67.okS EE.G = true := by kernel_rfl
theorem vm67_run : evT EE [] 1000000000 (.call vm67.f vm67.args) vm67.heap (keptK vm67) = some (.bool true) := by kernel_rfl
theorem vm67_h : vm67.holds EE := ent_run envOk (fun _ h => by cases h) _ _ vm67_ok vm67_run
end Go.Proofs.YthbgjljkepfhcacGreatDoor
