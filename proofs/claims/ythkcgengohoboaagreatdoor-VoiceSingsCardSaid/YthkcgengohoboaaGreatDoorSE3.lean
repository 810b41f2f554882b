/- Known calls, part 3: what single calls hand back, at small heaps, by the kernel's own run of the evaluator. No conditions. -/
import Derived.Test.YthkcgengohoboaaGreatDoorEnv
set_option linter.all false
namespace Go.Proofs.YthkcgengohoboaaGreatDoor
open Go.Ai
set_option maxRecDepth 1000000
-- decani/voice.Breaks, 41662 steps
noncomputable def se3 : Ent :=
  ⟨14, [.agg ⟨[.slice (some ⟨3, 0, none⟩) 2 2, .int .i64 (.ofNat 4), .slice (some ⟨4, 0, none⟩) 1 1]⟩, .int .i64 (.ofNat 0)], 5,
   [(0, .cells false 0 [.int .i64 (.negSucc 0), .int .i64 (.negSucc 0), .int .i64 (.negSucc 0), .int .i64 (.negSucc 0), .int .i64 (.negSucc 0)]),
    (1, .cells false 0 [.int .i64 (.ofNat 40), .int .i64 (.ofNat 2), .int .i64 (.ofNat 40), .int .i64 (.ofNat 2), .int .i64 (.ofNat 2), .int .i64 (.ofNat 1), .int .i64 (.ofNat 6), .int .i64 (.ofNat 2), .int .i64 (.ofNat 9), .int .i64 (.ofNat 3)]),
    (2, .dead),
    (3, .cells true 0 [.int .i64 (.ofNat 5), .int .i64 (.ofNat 6), .int .i64 (.ofNat 20), .int .i64 (.ofNat 21), .int .i64 (.ofNat 1), .int .i64 (.ofNat 2), .int .i64 (.ofNat 2), .int .i64 (.ofNat 3), .int .i64 (.ofNat 1), .int .i64 (.ofNat 3), .int .i64 (.ofNat 5), .int .i64 (.ofNat 8), .int .i64 (.ofNat 8), .int .i64 (.ofNat 18), .int .i64 (.ofNat 18), .int .i64 (.ofNat 0), .int .i64 (.ofNat 1), .int .i64 (.ofNat 1), .int .i64 (.ofNat 1), .int .i64 (.ofNat 0), .int .i64 (.ofNat 6), .int .i64 (.ofNat 7)]),
    (4, .cells true 0 [.int .i64 (.ofNat 0), .int .i64 (.ofNat 3), .int .i64 (.ofNat 15), .int .i64 (.ofNat 0)])],
   [],
   .tuple ⟨[.agg ⟨[.int .i64 (.ofNat 3), .int .i64 (.ofNat 3)]⟩, .int .i64 (.ofNat 0)]⟩⟩
theorem se3_ok : se3.okS EE.G = true := by kernel_rfl
theorem se3_run : evT EE [] 1000000000 (.call se3.f se3.args) se3.heap (keptK se3) = some (.bool true) := by kernel_rfl
theorem se3_h : se3.holds EE := ent_run envOk (fun _ h => by cases h) _ _ se3_ok se3_run
end Go.Proofs.YthkcgengohoboaaGreatDoor
