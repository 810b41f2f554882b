/- Known calls, part 7: what single calls hand back, at small heaps, by the kernel's own run of the evaluator. No conditions. -/
import Derived.Test.YthbgjljkepfhcacGreatDoorEnv
set_option linter.all false
namespace Go.Proofs.YthbgjljkepfhcacGreatDoor
open Go.Ai
set_option maxRecDepth 1000000
-- decani/voice.Sings, 35757 steps
noncomputable def vm7 : Ent :=
  ⟨74, [.agg ⟨[.slice (some ⟨3, 0, none⟩) 2 2, .int .i64 (.ofNat 4), .slice none 0 0]⟩, .int .i64 (.ofNat 0), .int .i64 (.ofNat 0), .int .i64 (.ofNat 17)], 4,
   [(0, .cells false 0 [.int .i64 (.negSucc 60), .int .i64 (.negSucc 60), .int .i64 (.negSucc 60), .int .i64 (.negSucc 60), .int .i64 (.negSucc 60)]),
    (1, .cells false 0 [.int .i64 (.negSucc 0), .int .i64 (.negSucc 0), .int .i64 (.negSucc 0), .int .i64 (.negSucc 0), .int .i64 (.negSucc 0)]),
    (2, .cells false 0 [.int .i64 (.ofNat 40), .int .i64 (.ofNat 2), .int .i64 (.ofNat 40), .int .i64 (.ofNat 2), .int .i64 (.ofNat 2), .int .i64 (.ofNat 1), .int .i64 (.ofNat 6), .int .i64 (.ofNat 2), .int .i64 (.ofNat 9), .int .i64 (.ofNat 3)]),
    (3, .cells true 0 [.int .i64 (.ofNat 5), .int .i64 (.ofNat 6), .int .i64 (.ofNat 20), .int .i64 (.ofNat 21), .int .i64 (.ofNat 1), .int .i64 (.ofNat 2), .int .i64 (.ofNat 2), .int .i64 (.ofNat 3), .int .i64 (.ofNat 1), .int .i64 (.ofNat 3), .int .i64 (.ofNat 5), .int .i64 (.ofNat 8), .int .i64 (.ofNat 8), .int .i64 (.ofNat 18), .int .i64 (.ofNat 18), .int .i64 (.ofNat 0), .int .i64 (.ofNat 1), .int .i64 (.ofNat 1), .int .i64 (.ofNat 1), .int .i64 (.ofNat 0), .int .i64 (.ofNat 6), .int .i64 (.ofNat 7)])],
   [],
   .tuple ⟨[.int .i64 (.ofNat 2), .int .i64 (.ofNat 0)]⟩⟩
theorem vm7_ok : vm7.okS EE.G = true := by kernel_rfl
theorem vm7_run : evT EE [] 1000000000 (.call vm7.f vm7.args) vm7.heap (keptK vm7) = some (.bool true) := by kernel_rfl
theorem vm7_h : vm7.holds EE := ent_run envOk (fun _ h => by cases h) _ _ vm7_ok vm7_run
-- decani/organ.newLoft, 16258 steps
noncomputable def vm38 : Ent :=
  ⟨21, [.agg ⟨[.int .i64 (.ofNat 3), .slice (some ⟨3, 0, none⟩) 1 18446744073709551616, .slice (some ⟨4, 0, none⟩) 2 18446744073709551616, .slice (some ⟨5, 0, none⟩) 2 2, .int .i64 (.ofNat 4), .slice none 0 0]⟩], 6,
   [(0, .cells false 0 [.int .i64 (.negSucc 60), .int .i64 (.negSucc 60), .int .i64 (.negSucc 60), .int .i64 (.negSucc 60), .int .i64 (.negSucc 60)]),
    (1, .cells false 0 [.int .i64 (.negSucc 0), .int .i64 (.negSucc 0), .int .i64 (.negSucc 0), .int .i64 (.negSucc 0), .int .i64 (.negSucc 0)]),
    (2, .cells false 0 [.int .i64 (.ofNat 40), .int .i64 (.ofNat 2), .int .i64 (.ofNat 40), .int .i64 (.ofNat 2), .int .i64 (.ofNat 2), .int .i64 (.ofNat 1), .int .i64 (.ofNat 6), .int .i64 (.ofNat 2), .int .i64 (.ofNat 9), .int .i64 (.ofNat 3)]),
    (3, .cells true 5 [.int .i64 (.ofNat 0), .int .i64 (.ofNat 1), .int .i64 (.ofNat 0), .int .i64 (.ofNat 2)]),
    (4, .cells true 4 [.int .i64 (.ofNat 0), .int .i64 (.ofNat 10), .int .i64 (.ofNat 1), .int .i64 (.ofNat 0), .int .i64 (.ofNat 13), .int .i64 (.ofNat 1)]),
    (5, .cells true 0 [.int .i64 (.ofNat 5), .int .i64 (.ofNat 6), .int .i64 (.ofNat 20), .int .i64 (.ofNat 21), .int .i64 (.ofNat 1), .int .i64 (.ofNat 2), .int .i64 (.ofNat 2), .int .i64 (.ofNat 3), .int .i64 (.ofNat 1), .int .i64 (.ofNat 3), .int .i64 (.ofNat 5), .int .i64 (.ofNat 8), .int .i64 (.ofNat 8), .int .i64 (.ofNat 18), .int .i64 (.ofNat 18), .int .i64 (.ofNat 0), .int .i64 (.ofNat 1), .int .i64 (.ofNat 1), .int .i64 (.ofNat 1), .int .i64 (.ofNat 0), .int .i64 (.ofNat 6), .int .i64 (.ofNat 7)])],
   [.map [⟨.agg ⟨[.int .i64 (.ofNat 3), .int .i64 (.ofNat 0)]⟩, .int .i64 (.ofNat 10), 0⟩, ⟨.agg ⟨[.int .i64 (.ofNat 0), .int .i64 (.ofNat 3)]⟩, .int .i64 (.negSucc 12), 1⟩, ⟨.agg ⟨[.int .i64 (.ofNat 3), .int .i64 (.ofNat 1)]⟩, .int .i64 (.ofNat 12), 2⟩, ⟨.agg ⟨[.int .i64 (.ofNat 1), .int .i64 (.ofNat 3)]⟩, .int .i64 (.negSucc 10), 3⟩, ⟨.agg ⟨[.int .i64 (.ofNat 3), .int .i64 (.ofNat 2)]⟩, .int .i64 (.ofNat 59), 4⟩, ⟨.agg ⟨[.int .i64 (.ofNat 2), .int .i64 (.ofNat 3)]⟩, .int .i64 (.ofNat 59), 5⟩, ⟨.agg ⟨[.int .i64 (.ofNat 0), .int .i64 (.ofNat 1)]⟩, .int .i64 (.ofNat 1), 6⟩, ⟨.agg ⟨[.int .i64 (.ofNat 1), .int .i64 (.ofNat 0)]⟩, .int .i64 (.ofNat 1), 7⟩, ⟨.agg ⟨[.int .i64 (.ofNat 0), .int .i64 (.ofNat 0)]⟩, .int .i64 (.negSucc 0), 8⟩, ⟨.agg ⟨[.int .i64 (.ofNat 0), .int .i64 (.ofNat 2)]⟩, .int .i64 (.ofNat 48), 9⟩, ⟨.agg ⟨[.int .i64 (.ofNat 1), .int .i64 (.ofNat 1)]⟩, .int .i64 (.ofNat 0), 10⟩, ⟨.agg ⟨[.int .i64 (.ofNat 1), .int .i64 (.ofNat 2)]⟩, .int .i64 (.ofNat 50), 11⟩, ⟨.agg ⟨[.int .i64 (.ofNat 2), .int .i64 (.ofNat 0)]⟩, .int .i64 (.ofNat 71), 12⟩, ⟨.agg ⟨[.int .i64 (.ofNat 2), .int .i64 (.ofNat 1)]⟩, .int .i64 (.ofNat 73), 13⟩, ⟨.agg ⟨[.int .i64 (.ofNat 2), .int .i64 (.ofNat 2)]⟩, .int .i64 (.ofNat 0), 14⟩, ⟨.agg ⟨[.int .i64 (.ofNat 3), .int .i64 (.ofNat 3)]⟩, .int .i64 (.negSucc 1), 15⟩] 16],
   .agg ⟨[.int .i64 (.ofNat 3), .slice (some ⟨3, 0, none⟩) 1 18446744073709551616, .slice (some ⟨4, 0, none⟩) 2 18446744073709551616, .slice (some ⟨5, 0, none⟩) 2 2, .int .i64 (.ofNat 4), .slice none 0 0, .map (some 6)]⟩⟩
theorem vm38_ok : vm38.okS EE.G = true := by kernel_rfl
theorem vm38_run : evT EE [] 1000000000 (.call vm38.f vm38.args) vm38.heap (keptK vm38) = some (.bool true) := by kernel_rfl
theorem vm38_h : vm38.holds EE := ent_run envOk (fun _ h => by cases h) _ _ vm38_ok vm38_run
-- decani/voice.Sings, 6613 steps
noncomputable def vm69 : Ent :=
  ⟨74, [.agg ⟨[.slice (some ⟨3, 0, none⟩) 2 2, .int .i64 (.ofNat 4), .slice none 0 0]⟩, .int .i64 (.ofNat 1), .int .i64 (.ofNat 0), .int .i64 (.ofNat 14)], 4,
   [(0, .cells false 0 [.int .i64 (.negSucc 60), .int .i64 (.negSucc 60), .int .i64 (.negSucc 60), .int .i64 (.negSucc 60), .int .i64 (.negSucc 60)]),
    (1, .cells false 0 [.int .i64 (.negSucc 0), .int .i64 (.negSucc 0), .int .i64 (.negSucc 0), .int .i64 (.negSucc 0), .int .i64 (.negSucc 0)]),
    (2, .cells false 0 [.int .i64 (.ofNat 40), .int .i64 (.ofNat 2), .int .i64 (.ofNat 40), .int .i64 (.ofNat 2), .int .i64 (.ofNat 2), .int .i64 (.ofNat 1), .int .i64 (.ofNat 6), .int .i64 (.ofNat 2), .int .i64 (.ofNat 9), .int .i64 (.ofNat 3)]),
    (3, .cells true 0 [.int .i64 (.ofNat 5), .int .i64 (.ofNat 6), .int .i64 (.ofNat 20), .int .i64 (.ofNat 21), .int .i64 (.ofNat 1), .int .i64 (.ofNat 2), .int .i64 (.ofNat 2), .int .i64 (.ofNat 3), .int .i64 (.ofNat 1), .int .i64 (.ofNat 3), .int .i64 (.ofNat 5), .int .i64 (.ofNat 8), .int .i64 (.ofNat 8), .int .i64 (.ofNat 18), .int .i64 (.ofNat 18), .int .i64 (.ofNat 0), .int .i64 (.ofNat 1), .int .i64 (.ofNat 1), .int .i64 (.ofNat 1), .int .i64 (.ofNat 0), .int .i64 (.ofNat 6), .int .i64 (.ofNat 7)])],
   [],
   .tuple ⟨[.int .i64 (.ofNat 2), .int .i64 (.ofNat 0)]⟩⟩
theorem vm69_ok : vm69.okS EE.G = true := by kernel_rfl
theorem vm69_run : evT EE [] 1000000000 (.call vm69.f vm69.args) vm69.heap (keptK vm69) = some (.bool true) := by kernel_rfl
theorem vm69_h : vm69.holds EE := ent_run envOk (fun _ h => by cases h) _ _ vm69_ok vm69_run
end Go.Proofs.YthbgjljkepfhcacGreatDoor
