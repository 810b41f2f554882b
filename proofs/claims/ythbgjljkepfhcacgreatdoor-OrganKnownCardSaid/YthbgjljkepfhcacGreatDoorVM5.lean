/- Known calls, part 5: what single calls hand back, at small heaps, by the kernel's own run of the evaluator. No conditions. -/
import Derived.Test.YthbgjljkepfhcacGreatDoorEnv
set_option linter.all false
namespace Go.Proofs.YthbgjljkepfhcacGreatDoor
open Go.Ai
set_option maxRecDepth 1000000
-- decani/voice.Sings, 35757 steps
noncomputable def vm5 : Ent :=
  ⟨74, [.agg ⟨[.slice (some ⟨3, 0, none⟩) 2 2, .int .i64 (.ofNat 4), .slice none 0 0]⟩, .int .i64 (.ofNat 0), .int .i64 (.ofNat 0), .int .i64 (.ofNat 16)], 4,
   [(0, .cells false 0 [.int .i64 (.negSucc 60), .int .i64 (.negSucc 60), .int .i64 (.negSucc 60), .int .i64 (.negSucc 60), .int .i64 (.negSucc 60)]),
    (1, .cells false 0 [.int .i64 (.negSucc 0), .int .i64 (.negSucc 0), .int .i64 (.negSucc 0), .int .i64 (.negSucc 0), .int .i64 (.negSucc 0)]),
    (2, .cells false 0 [.int .i64 (.ofNat 40), .int .i64 (.ofNat 2), .int .i64 (.ofNat 40), .int .i64 (.ofNat 2), .int .i64 (.ofNat 2), .int .i64 (.ofNat 1), .int .i64 (.ofNat 6), .int .i64 (.ofNat 2), .int .i64 (.ofNat 9), .int .i64 (.ofNat 3)]),
    (3, .cells true 0 [.int .i64 (.ofNat 5), .int .i64 (.ofNat 6), .int .i64 (.ofNat 20), .int .i64 (.ofNat 21), .int .i64 (.ofNat 1), .int .i64 (.ofNat 2), .int .i64 (.ofNat 2), .int .i64 (.ofNat 3), .int .i64 (.ofNat 1), .int .i64 (.ofNat 3), .int .i64 (.ofNat 5), .int .i64 (.ofNat 8), .int .i64 (.ofNat 8), .int .i64 (.ofNat 18), .int .i64 (.ofNat 18), .int .i64 (.ofNat 0), .int .i64 (.ofNat 1), .int .i64 (.ofNat 1), .int .i64 (.ofNat 1), .int .i64 (.ofNat 0), .int .i64 (.ofNat 6), .int .i64 (.ofNat 7)])],
   [],
   .tuple ⟨[.int .i64 (.ofNat 2), .int .i64 (.ofNat 0)]⟩⟩
theorem vm5_ok : vm5.okS EE.G = true := by kernel_rfl
theorem vm5_run : evT EE [] 1000000000 (.call vm5.f vm5.args) vm5.heap (keptK vm5) = some (.bool true) := by kernel_rfl
theorem vm5_h : vm5.holds EE := ent_run envOk (fun _ h => by cases h) _ _ vm5_ok vm5_run
-- decani/organ.newLoft, 16404 steps
noncomputable def vm36 : Ent :=
  ⟨21, [.agg ⟨[.int .i64 (.ofNat 3), .slice (some ⟨3, 0, none⟩) 3 18446744073709551616, .slice (some ⟨4, 0, none⟩) 1 1, .slice (some ⟨5, 0, none⟩) 2 2, .int .i64 (.ofNat 4), .slice none 0 0]⟩], 6,
   [(0, .cells false 0 [.int .i64 (.negSucc 60), .int .i64 (.negSucc 60), .int .i64 (.negSucc 60), .int .i64 (.negSucc 60), .int .i64 (.negSucc 60)]),
    (1, .cells false 0 [.int .i64 (.negSucc 0), .int .i64 (.negSucc 0), .int .i64 (.negSucc 0), .int .i64 (.negSucc 0), .int .i64 (.negSucc 0)]),
    (2, .cells false 0 [.int .i64 (.ofNat 40), .int .i64 (.ofNat 2), .int .i64 (.ofNat 40), .int .i64 (.ofNat 2), .int .i64 (.ofNat 2), .int .i64 (.ofNat 1), .int .i64 (.ofNat 6), .int .i64 (.ofNat 2), .int .i64 (.ofNat 9), .int .i64 (.ofNat 3)]),
    (3, .cells true 5 [.int .i64 (.ofNat 0), .int .i64 (.ofNat 1), .int .i64 (.ofNat 0), .int .i64 (.ofNat 2), .int .i64 (.ofNat 0), .int .i64 (.ofNat 2), .int .i64 (.ofNat 4), .int .i64 (.ofNat 1), .int .i64 (.ofNat 0), .int .i64 (.ofNat 1), .int .i64 (.ofNat 10), .int .i64 (.ofNat 1)]),
    (4, .cells true 0 [.int .i64 (.ofNat 0), .int .i64 (.ofNat 10), .int .i64 (.ofNat 1)]),
    (5, .cells true 0 [.int .i64 (.ofNat 5), .int .i64 (.ofNat 6), .int .i64 (.ofNat 20), .int .i64 (.ofNat 21), .int .i64 (.ofNat 1), .int .i64 (.ofNat 2), .int .i64 (.ofNat 2), .int .i64 (.ofNat 3), .int .i64 (.ofNat 1), .int .i64 (.ofNat 3), .int .i64 (.ofNat 5), .int .i64 (.ofNat 8), .int .i64 (.ofNat 8), .int .i64 (.ofNat 18), .int .i64 (.ofNat 18), .int .i64 (.ofNat 0), .int .i64 (.ofNat 1), .int .i64 (.ofNat 1), .int .i64 (.ofNat 1), .int .i64 (.ofNat 0), .int .i64 (.ofNat 6), .int .i64 (.ofNat 7)])],
   [.map [⟨.agg ⟨[.int .i64 (.ofNat 3), .int .i64 (.ofNat 0)]⟩, .int .i64 (.negSucc 266), 0⟩, ⟨.agg ⟨[.int .i64 (.ofNat 0), .int .i64 (.ofNat 3)]⟩, .int .i64 (.negSucc 286), 1⟩, ⟨.agg ⟨[.int .i64 (.ofNat 3), .int .i64 (.ofNat 1)]⟩, .int .i64 (.negSucc 264), 2⟩, ⟨.agg ⟨[.int .i64 (.ofNat 1), .int .i64 (.ofNat 3)]⟩, .int .i64 (.negSucc 295), 3⟩, ⟨.agg ⟨[.int .i64 (.ofNat 3), .int .i64 (.ofNat 2)]⟩, .int .i64 (.negSucc 282), 4⟩, ⟨.agg ⟨[.int .i64 (.ofNat 2), .int .i64 (.ofNat 3)]⟩, .int .i64 (.negSucc 310), 5⟩, ⟨.agg ⟨[.int .i64 (.ofNat 0), .int .i64 (.ofNat 1)]⟩, .int .i64 (.negSucc 155), 6⟩, ⟨.agg ⟨[.int .i64 (.ofNat 1), .int .i64 (.ofNat 0)]⟩, .int .i64 (.negSucc 166), 7⟩, ⟨.agg ⟨[.int .i64 (.ofNat 0), .int .i64 (.ofNat 2)]⟩, .int .i64 (.negSucc 173), 8⟩, ⟨.agg ⟨[.int .i64 (.ofNat 2), .int .i64 (.ofNat 0)]⟩, .int .i64 (.negSucc 181), 9⟩, ⟨.agg ⟨[.int .i64 (.ofNat 0), .int .i64 (.ofNat 0)]⟩, .int .i64 (.negSucc 157), 10⟩, ⟨.agg ⟨[.int .i64 (.ofNat 1), .int .i64 (.ofNat 1)]⟩, .int .i64 (.negSucc 164), 11⟩, ⟨.agg ⟨[.int .i64 (.ofNat 1), .int .i64 (.ofNat 2)]⟩, .int .i64 (.negSucc 182), 12⟩, ⟨.agg ⟨[.int .i64 (.ofNat 2), .int .i64 (.ofNat 1)]⟩, .int .i64 (.negSucc 179), 13⟩, ⟨.agg ⟨[.int .i64 (.ofNat 2), .int .i64 (.ofNat 2)]⟩, .int .i64 (.negSucc 197), 14⟩, ⟨.agg ⟨[.int .i64 (.ofNat 3), .int .i64 (.ofNat 3)]⟩, .int .i64 (.negSucc 395), 15⟩] 16],
   .agg ⟨[.int .i64 (.ofNat 3), .slice (some ⟨3, 0, none⟩) 3 18446744073709551616, .slice (some ⟨4, 0, none⟩) 1 1, .slice (some ⟨5, 0, none⟩) 2 2, .int .i64 (.ofNat 4), .slice none 0 0, .map (some 6)]⟩⟩
theorem vm36_ok : vm36.okS EE.G = true := by kernel_rfl
theorem vm36_run : evT EE [] 1000000000 (.call vm36.f vm36.args) vm36.heap (keptK vm36) = some (.bool true) := by kernel_rfl
theorem vm36_h : vm36.holds EE := ent_run envOk (fun _ h => by cases h) _ _ vm36_ok vm36_run
-- decani/voice.Sings, 6613 steps
noncomputable def vm71 : Ent :=
  ⟨74, [.agg ⟨[.slice (some ⟨3, 0, none⟩) 2 2, .int .i64 (.ofNat 4), .slice none 0 0]⟩, .int .i64 (.ofNat 1), .int .i64 (.ofNat 0), .int .i64 (.ofNat 18)], 4,
   [(0, .cells false 0 [.int .i64 (.negSucc 60), .int .i64 (.negSucc 60), .int .i64 (.negSucc 60), .int .i64 (.negSucc 60), .int .i64 (.negSucc 60)]),
    (1, .cells false 0 [.int .i64 (.negSucc 0), .int .i64 (.negSucc 0), .int .i64 (.negSucc 0), .int .i64 (.negSucc 0), .int .i64 (.negSucc 0)]),
    (2, .cells false 0 [.int .i64 (.ofNat 40), .int .i64 (.ofNat 2), .int .i64 (.ofNat 40), .int .i64 (.ofNat 2), .int .i64 (.ofNat 2), .int .i64 (.ofNat 1), .int .i64 (.ofNat 6), .int .i64 (.ofNat 2), .int .i64 (.ofNat 9), .int .i64 (.ofNat 3)]),
    (3, .cells true 0 [.int .i64 (.ofNat 5), .int .i64 (.ofNat 6), .int .i64 (.ofNat 20), .int .i64 (.ofNat 21), .int .i64 (.ofNat 1), .int .i64 (.ofNat 2), .int .i64 (.ofNat 2), .int .i64 (.ofNat 3), .int .i64 (.ofNat 1), .int .i64 (.ofNat 3), .int .i64 (.ofNat 5), .int .i64 (.ofNat 8), .int .i64 (.ofNat 8), .int .i64 (.ofNat 18), .int .i64 (.ofNat 18), .int .i64 (.ofNat 0), .int .i64 (.ofNat 1), .int .i64 (.ofNat 1), .int .i64 (.ofNat 1), .int .i64 (.ofNat 0), .int .i64 (.ofNat 6), .int .i64 (.ofNat 7)])],
   [],
   .tuple ⟨[.int .i64 (.ofNat 2), .int .i64 (.ofNat 0)]⟩⟩
theorem vm71_ok : vm71.okS EE.G = true := by kernel_rfl
theorem vm71_run : evT EE [] 1000000000 (.call vm71.f vm71.args) vm71.heap (keptK vm71) = some (.bool true) := by kernel_rfl
theorem vm71_h : vm71.holds EE := ent_run envOk (fun _ h => by cases h) _ _ vm71_ok vm71_run
end Go.Proofs.YthbgjljkepfhcacGreatDoor
