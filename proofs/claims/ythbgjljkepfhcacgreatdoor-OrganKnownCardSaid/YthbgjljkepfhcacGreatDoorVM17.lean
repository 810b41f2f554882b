/- Known calls, part 17: what single calls hand back, at small heaps, by the kernel's own run of the evaluator. No conditions. -/
import Derived.Test.YthbgjljkepfhcacGreatDoorEnv
set_option linter.all false
namespace Go.Proofs.YthbgjljkepfhcacGreatDoor
open Go.Ai
set_option maxRecDepth 1000000
-- decani/voice.Sings, 32009 steps
noncomputable def vm17 : Ent :=
  ⟨74, [.agg ⟨[.slice (some ⟨3, 0, none⟩) 2 2, .int .i64 (.ofNat 4), .slice none 0 0]⟩, .int .i64 (.ofNat 0), .int .i64 (.ofNat 0), .int .i64 (.ofNat 2)], 4,
   [(0, .cells false 0 [.int .i64 (.negSucc 60), .int .i64 (.negSucc 60), .int .i64 (.negSucc 60), .int .i64 (.negSucc 60), .int .i64 (.negSucc 60)]),
    (1, .cells false 0 [.int .i64 (.negSucc 0), .int .i64 (.negSucc 0), .int .i64 (.negSucc 0), .int .i64 (.negSucc 0), .int .i64 (.negSucc 0)]),
    (2, .cells false 0 [.int .i64 (.ofNat 40), .int .i64 (.ofNat 2), .int .i64 (.ofNat 40), .int .i64 (.ofNat 2), .int .i64 (.ofNat 2), .int .i64 (.ofNat 1), .int .i64 (.ofNat 6), .int .i64 (.ofNat 2), .int .i64 (.ofNat 9), .int .i64 (.ofNat 3)]),
    (3, .cells true 0 [.int .i64 (.ofNat 5), .int .i64 (.ofNat 6), .int .i64 (.ofNat 20), .int .i64 (.ofNat 21), .int .i64 (.ofNat 1), .int .i64 (.ofNat 2), .int .i64 (.ofNat 2), .int .i64 (.ofNat 3), .int .i64 (.ofNat 1), .int .i64 (.ofNat 3), .int .i64 (.ofNat 5), .int .i64 (.ofNat 8), .int .i64 (.ofNat 8), .int .i64 (.ofNat 18), .int .i64 (.ofNat 18), .int .i64 (.ofNat 0), .int .i64 (.ofNat 1), .int .i64 (.ofNat 1), .int .i64 (.ofNat 1), .int .i64 (.ofNat 0), .int .i64 (.ofNat 6), .int .i64 (.ofNat 7)])],
   [],
   .tuple ⟨[.int .i64 (.ofNat 0), .int .i64 (.ofNat 0)]⟩⟩
theorem vm17_ok : vm17.okS EE.G = true := by kernel_rfl
theorem vm17_run : evT EE [] 1000000000 (.call vm17.f vm17.args) vm17.heap (keptK vm17) = some (.bool true) := by kernel_rfl
theorem vm17_h : vm17.holds EE := ent_run envOk (fun _ h => by cases h) _ _ vm17_ok vm17_run
-- decani/organ.newLoft, 16544 steps
noncomputable def vm28 : Ent :=
  ⟨21, [.agg ⟨[.int .i64 (.ofNat 3), .slice (some ⟨3, 0, none⟩) 2 18446744073709551616, .slice (some ⟨4, 0, none⟩) 2 18446744073709551616, .slice (some ⟨5, 0, none⟩) 2 2, .int .i64 (.ofNat 4), .slice none 0 0]⟩], 6,
   [(0, .cells false 0 [.int .i64 (.negSucc 60), .int .i64 (.negSucc 60), .int .i64 (.negSucc 60), .int .i64 (.negSucc 60), .int .i64 (.negSucc 60)]),
    (1, .cells false 0 [.int .i64 (.negSucc 0), .int .i64 (.negSucc 0), .int .i64 (.negSucc 0), .int .i64 (.negSucc 0), .int .i64 (.negSucc 0)]),
    (2, .cells false 0 [.int .i64 (.ofNat 40), .int .i64 (.ofNat 2), .int .i64 (.ofNat 40), .int .i64 (.ofNat 2), .int .i64 (.ofNat 2), .int .i64 (.ofNat 1), .int .i64 (.ofNat 6), .int .i64 (.ofNat 2), .int .i64 (.ofNat 9), .int .i64 (.ofNat 3)]),
    (3, .cells true 5 [.int .i64 (.ofNat 0), .int .i64 (.ofNat 1), .int .i64 (.ofNat 0), .int .i64 (.ofNat 2), .int .i64 (.ofNat 1), .int .i64 (.ofNat 2), .int .i64 (.ofNat 1), .int .i64 (.ofNat 1)]),
    (4, .cells true 4 [.int .i64 (.ofNat 0), .int .i64 (.ofNat 10), .int .i64 (.ofNat 1), .int .i64 (.ofNat 0), .int .i64 (.ofNat 13), .int .i64 (.ofNat 1)]),
    (5, .cells true 0 [.int .i64 (.ofNat 5), .int .i64 (.ofNat 6), .int .i64 (.ofNat 20), .int .i64 (.ofNat 21), .int .i64 (.ofNat 1), .int .i64 (.ofNat 2), .int .i64 (.ofNat 2), .int .i64 (.ofNat 3), .int .i64 (.ofNat 1), .int .i64 (.ofNat 3), .int .i64 (.ofNat 5), .int .i64 (.ofNat 8), .int .i64 (.ofNat 8), .int .i64 (.ofNat 18), .int .i64 (.ofNat 18), .int .i64 (.ofNat 0), .int .i64 (.ofNat 1), .int .i64 (.ofNat 1), .int .i64 (.ofNat 1), .int .i64 (.ofNat 0), .int .i64 (.ofNat 6), .int .i64 (.ofNat 7)])],
   [.map [⟨.agg ⟨[.int .i64 (.ofNat 3), .int .i64 (.ofNat 0)]⟩, .int .i64 (.ofNat 10), 0⟩, ⟨.agg ⟨[.int .i64 (.ofNat 0), .int .i64 (.ofNat 3)]⟩, .int .i64 (.negSucc 12), 1⟩, ⟨.agg ⟨[.int .i64 (.ofNat 3), .int .i64 (.ofNat 1)]⟩, .int .i64 (.ofNat 12), 2⟩, ⟨.agg ⟨[.int .i64 (.ofNat 1), .int .i64 (.ofNat 3)]⟩, .int .i64 (.negSucc 10), 3⟩, ⟨.agg ⟨[.int .i64 (.ofNat 3), .int .i64 (.ofNat 2)]⟩, .int .i64 (.ofNat 14), 4⟩, ⟨.agg ⟨[.int .i64 (.ofNat 2), .int .i64 (.ofNat 3)]⟩, .int .i64 (.negSucc 10), 5⟩, ⟨.agg ⟨[.int .i64 (.ofNat 0), .int .i64 (.ofNat 1)]⟩, .int .i64 (.ofNat 1), 6⟩, ⟨.agg ⟨[.int .i64 (.ofNat 1), .int .i64 (.ofNat 0)]⟩, .int .i64 (.ofNat 1), 7⟩, ⟨.agg ⟨[.int .i64 (.ofNat 1), .int .i64 (.ofNat 2)]⟩, .int .i64 (.ofNat 2), 8⟩, ⟨.agg ⟨[.int .i64 (.ofNat 2), .int .i64 (.ofNat 1)]⟩, .int .i64 (.ofNat 0), 9⟩, ⟨.agg ⟨[.int .i64 (.ofNat 0), .int .i64 (.ofNat 0)]⟩, .int .i64 (.negSucc 0), 10⟩, ⟨.agg ⟨[.int .i64 (.ofNat 0), .int .i64 (.ofNat 2)]⟩, .int .i64 (.ofNat 3), 11⟩, ⟨.agg ⟨[.int .i64 (.ofNat 1), .int .i64 (.ofNat 1)]⟩, .int .i64 (.ofNat 0), 12⟩, ⟨.agg ⟨[.int .i64 (.ofNat 2), .int .i64 (.ofNat 0)]⟩, .int .i64 (.ofNat 1), 13⟩, ⟨.agg ⟨[.int .i64 (.ofNat 2), .int .i64 (.ofNat 2)]⟩, .int .i64 (.ofNat 0), 14⟩, ⟨.agg ⟨[.int .i64 (.ofNat 3), .int .i64 (.ofNat 3)]⟩, .int .i64 (.negSucc 1), 15⟩] 16],
   .agg ⟨[.int .i64 (.ofNat 3), .slice (some ⟨3, 0, none⟩) 2 18446744073709551616, .slice (some ⟨4, 0, none⟩) 2 18446744073709551616, .slice (some ⟨5, 0, none⟩) 2 2, .int .i64 (.ofNat 4), .slice none 0 0, .map (some 6)]⟩⟩
theorem vm28_ok : vm28.okS EE.G = true := by kernel_rfl
theorem vm28_run : evT EE [] 1000000000 (.call vm28.f vm28.args) vm28.heap (keptK vm28) = some (.bool true) := by kernel_rfl
theorem vm28_h : vm28.holds EE := ent_run envOk (fun _ h => by cases h) _ _ vm28_ok vm28_run
-- decani/voice.Sings, 7760 steps
noncomputable def vm56 : Ent :=
  ⟨74, [.agg ⟨[.slice (some ⟨3, 0, none⟩) 2 2, .int .i64 (.ofNat 4), .slice none 0 0]⟩, .int .i64 (.ofNat 1), .int .i64 (.ofNat 0), .int .i64 (.ofNat 19)], 4,
   [(0, .cells false 0 [.int .i64 (.negSucc 60), .int .i64 (.negSucc 60), .int .i64 (.negSucc 60), .int .i64 (.negSucc 60), .int .i64 (.negSucc 60)]),
    (1, .cells false 0 [.int .i64 (.negSucc 0), .int .i64 (.negSucc 0), .int .i64 (.negSucc 0), .int .i64 (.negSucc 0), .int .i64 (.negSucc 0)]),
    (2, .cells false 0 [.int .i64 (.ofNat 40), .int .i64 (.ofNat 2), .int .i64 (.ofNat 40), .int .i64 (.ofNat 2), .int .i64 (.ofNat 2), .int .i64 (.ofNat 1), .int .i64 (.ofNat 6), .int .i64 (.ofNat 2), .int .i64 (.ofNat 9), .int .i64 (.ofNat 3)]),
    (3, .cells true 0 [.int .i64 (.ofNat 5), .int .i64 (.ofNat 6), .int .i64 (.ofNat 20), .int .i64 (.ofNat 21), .int .i64 (.ofNat 1), .int .i64 (.ofNat 2), .int .i64 (.ofNat 2), .int .i64 (.ofNat 3), .int .i64 (.ofNat 1), .int .i64 (.ofNat 3), .int .i64 (.ofNat 5), .int .i64 (.ofNat 8), .int .i64 (.ofNat 8), .int .i64 (.ofNat 18), .int .i64 (.ofNat 18), .int .i64 (.ofNat 0), .int .i64 (.ofNat 1), .int .i64 (.ofNat 1), .int .i64 (.ofNat 1), .int .i64 (.ofNat 0), .int .i64 (.ofNat 6), .int .i64 (.ofNat 7)])],
   [],
   .tuple ⟨[.int .i64 (.ofNat 0), .int .i64 (.ofNat 0)]⟩⟩
theorem vm56_ok : vm56.okS EE.G = true := by kernel_rfl
theorem vm56_run : evT EE [] 1000000000 (.call vm56.f vm56.args) vm56.heap (keptK vm56) = some (.bool true) := by kernel_rfl
theorem vm56_h : vm56.holds EE := ent_run envOk (fun _ h => by cases h) _ _ vm56_ok vm56_run
end Go.Proofs.YthbgjljkepfhcacGreatDoor
