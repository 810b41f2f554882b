/- Known calls, part 0: what single calls hand back, at small heaps, by the kernel's own run of the evaluator. No conditions. -/
import Derived.Test.YthbgjljkepfhcacGreatDoorEnv
set_option linter.all false
namespace Go.Proofs.YthbgjljkepfhcacGreatDoor
open Go.Ai
set_option maxRecDepth 1000000
-- decani/voice.Sings, 36860 steps
noncomputable def vm0 : Ent :=
  ⟨74, [.agg ⟨[.slice (some ⟨3, 0, none⟩) 2 2, .int .i64 (.ofNat 4), .slice none 0 0]⟩, .int .i64 (.ofNat 0), .int .i64 (.ofNat 0), .int .i64 (.ofNat 22)], 4,
   [(0, .cells false 0 [.int .i64 (.negSucc 60), .int .i64 (.negSucc 60), .int .i64 (.negSucc 60), .int .i64 (.negSucc 60), .int .i64 (.negSucc 60)]),
    (1, .cells false 0 [.int .i64 (.negSucc 0), .int .i64 (.negSucc 0), .int .i64 (.negSucc 0), .int .i64 (.negSucc 0), .int .i64 (.negSucc 0)]),
    (2, .cells false 0 [.int .i64 (.ofNat 40), .int .i64 (.ofNat 2), .int .i64 (.ofNat 40), .int .i64 (.ofNat 2), .int .i64 (.ofNat 2), .int .i64 (.ofNat 1), .int .i64 (.ofNat 6), .int .i64 (.ofNat 2), .int .i64 (.ofNat 9), .int .i64 (.ofNat 3)]),
    (3, .cells true 0 [.int .i64 (.ofNat 5), .int .i64 (.ofNat 6), .int .i64 (.ofNat 20), .int .i64 (.ofNat 21), .int .i64 (.ofNat 1), .int .i64 (.ofNat 2), .int .i64 (.ofNat 2), .int .i64 (.ofNat 3), .int .i64 (.ofNat 1), .int .i64 (.ofNat 3), .int .i64 (.ofNat 5), .int .i64 (.ofNat 8), .int .i64 (.ofNat 8), .int .i64 (.ofNat 18), .int .i64 (.ofNat 18), .int .i64 (.ofNat 0), .int .i64 (.ofNat 1), .int .i64 (.ofNat 1), .int .i64 (.ofNat 1), .int .i64 (.ofNat 0), .int .i64 (.ofNat 6), .int .i64 (.ofNat 7)])],
   [],
   .tuple ⟨[.int .i64 (.ofNat 0), .int .i64 (.ofNat 0)]⟩⟩
theorem vm0_ok : vm0.okS EE.G = true := by kernel_rfl
theorem vm0_run : evT EE [] 1000000000 (.call vm0.f vm0.args) vm0.heap (keptK vm0) = some (.bool true) := by kernel_rfl
theorem vm0_h : vm0.holds EE := ent_run envOk (fun _ h => by cases h) _ _ vm0_ok vm0_run
-- decani/voice.Sings, 13645 steps
noncomputable def vm48 : Ent :=
  ⟨74, [.agg ⟨[.slice (some ⟨3, 0, none⟩) 2 2, .int .i64 (.ofNat 4), .slice none 0 0]⟩, .int .i64 (.ofNat 0), .int .i64 (.ofNat 0), .int .i64 (.ofNat 21)], 4,
   [(0, .cells false 0 [.int .i64 (.negSucc 60), .int .i64 (.negSucc 60), .int .i64 (.negSucc 60), .int .i64 (.negSucc 60), .int .i64 (.negSucc 60)]),
    (1, .cells false 0 [.int .i64 (.negSucc 0), .int .i64 (.negSucc 0), .int .i64 (.negSucc 0), .int .i64 (.negSucc 0), .int .i64 (.negSucc 0)]),
    (2, .cells false 0 [.int .i64 (.ofNat 40), .int .i64 (.ofNat 2), .int .i64 (.ofNat 40), .int .i64 (.ofNat 2), .int .i64 (.ofNat 2), .int .i64 (.ofNat 1), .int .i64 (.ofNat 6), .int .i64 (.ofNat 2), .int .i64 (.ofNat 9), .int .i64 (.ofNat 3)]),
    (3, .cells true 0 [.int .i64 (.ofNat 5), .int .i64 (.ofNat 6), .int .i64 (.ofNat 20), .int .i64 (.ofNat 21), .int .i64 (.ofNat 1), .int .i64 (.ofNat 2), .int .i64 (.ofNat 2), .int .i64 (.ofNat 3), .int .i64 (.ofNat 1), .int .i64 (.ofNat 3), .int .i64 (.ofNat 5), .int .i64 (.ofNat 8), .int .i64 (.ofNat 8), .int .i64 (.ofNat 18), .int .i64 (.ofNat 18), .int .i64 (.ofNat 0), .int .i64 (.ofNat 1), .int .i64 (.ofNat 1), .int .i64 (.ofNat 1), .int .i64 (.ofNat 0), .int .i64 (.ofNat 6), .int .i64 (.ofNat 7)])],
   [],
   .tuple ⟨[.int .i64 (.ofNat 1), .int .i64 (.ofNat 0)]⟩⟩
theorem vm48_ok : vm48.okS EE.G = true := by kernel_rfl
theorem vm48_run : evT EE [] 1000000000 (.call vm48.f vm48.args) vm48.heap (keptK vm48) = some (.bool true) := by kernel_rfl
theorem vm48_h : vm48.holds EE := ent_run envOk (fun _ h => by cases h) _ _ vm48_ok vm48_run
-- decani/voice.Sings, 7265 steps
noncomputable def vm59 : Ent :=
  ⟨74, [.agg ⟨[.slice (some ⟨3, 0, none⟩) 2 2, .int .i64 (.ofNat 4), .slice none 0 0]⟩, .int .i64 (.ofNat 1), .int .i64 (.ofNat 0), .int .i64 (.ofNat 4)], 4,
   [(0, .cells false 0 [.int .i64 (.negSucc 60), .int .i64 (.negSucc 60), .int .i64 (.negSucc 60), .int .i64 (.negSucc 60), .int .i64 (.negSucc 60)]),
    (1, .cells false 0 [.int .i64 (.negSucc 0), .int .i64 (.negSucc 0), .int .i64 (.negSucc 0), .int .i64 (.negSucc 0), .int .i64 (.negSucc 0)]),
    (2, .cells false 0 [.int .i64 (.ofNat 40), .int .i64 (.ofNat 2), .int .i64 (.ofNat 40), .int .i64 (.ofNat 2), .int .i64 (.ofNat 2), .int .i64 (.ofNat 1), .int .i64 (.ofNat 6), .int .i64 (.ofNat 2), .int .i64 (.ofNat 9), .int .i64 (.ofNat 3)]),
    (3, .cells true 0 [.int .i64 (.ofNat 5), .int .i64 (.ofNat 6), .int .i64 (.ofNat 20), .int .i64 (.ofNat 21), .int .i64 (.ofNat 1), .int .i64 (.ofNat 2), .int .i64 (.ofNat 2), .int .i64 (.ofNat 3), .int .i64 (.ofNat 1), .int .i64 (.ofNat 3), .int .i64 (.ofNat 5), .int .i64 (.ofNat 8), .int .i64 (.ofNat 8), .int .i64 (.ofNat 18), .int .i64 (.ofNat 18), .int .i64 (.ofNat 0), .int .i64 (.ofNat 1), .int .i64 (.ofNat 1), .int .i64 (.ofNat 1), .int .i64 (.ofNat 0), .int .i64 (.ofNat 6), .int .i64 (.ofNat 7)])],
   [],
   .tuple ⟨[.int .i64 (.ofNat 0), .int .i64 (.ofNat 0)]⟩⟩
theorem vm59_ok : vm59.okS EE.G = true := by kernel_rfl
theorem vm59_run : evT EE [] 1000000000 (.call vm59.f vm59.args) vm59.heap (keptK vm59) = some (.bool true) := by kernel_rfl
theorem vm59_h : vm59.holds EE := ent_run envOk (fun _ h => by cases h) _ _ vm59_ok vm59_run
end Go.Proofs.YthbgjljkepfhcacGreatDoor
