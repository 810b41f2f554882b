/- Known calls, part 2: what single calls hand back, at small heaps, by the kernel's own run of the evaluator. No conditions. -/
import Derived.Test.YthkcgengohoboaaGreatDoorEnv
set_option linter.all false
namespace Go.Proofs.YthkcgengohoboaaGreatDoor
open Go.Ai
set_option maxRecDepth 1000000
-- decani/voice.Must, 45098 steps
noncomputable def se2 : Ent :=
  ⟨24, [.agg ⟨[.slice (some ⟨3, 0, none⟩) 2 2, .int .i64 (.ofNat 4), .slice (some ⟨4, 0, none⟩) 1 1]⟩, .int .i64 (.ofNat 3)], 5,
   [(0, .cells false 0 [.int .i64 (.negSucc 0), .int .i64 (.negSucc 0), .int .i64 (.negSucc 0), .int .i64 (.negSucc 0), .int .i64 (.negSucc 0)]),
    (1, .cells false 0 [.int .i64 (.ofNat 40), .int .i64 (.ofNat 2), .int .i64 (.ofNat 40), .int .i64 (.ofNat 2), .int .i64 (.ofNat 2), .int .i64 (.ofNat 1), .int .i64 (.ofNat 6), .int .i64 (.ofNat 2), .int .i64 (.ofNat 9), .int .i64 (.ofNat 3)]),
    (2, .dead),
    (3, .cells true 0 [.int .i64 (.ofNat 5), .int .i64 (.ofNat 6), .int .i64 (.ofNat 20), .int .i64 (.ofNat 21), .int .i64 (.ofNat 1), .int .i64 (.ofNat 2), .int .i64 (.ofNat 2), .int .i64 (.ofNat 3), .int .i64 (.ofNat 1), .int .i64 (.ofNat 3), .int .i64 (.ofNat 5), .int .i64 (.ofNat 8), .int .i64 (.ofNat 8), .int .i64 (.ofNat 18), .int .i64 (.ofNat 18), .int .i64 (.ofNat 0), .int .i64 (.ofNat 1), .int .i64 (.ofNat 1), .int .i64 (.ofNat 1), .int .i64 (.ofNat 0), .int .i64 (.ofNat 6), .int .i64 (.ofNat 7)]),
    (4, .cells true 0 [.int .i64 (.ofNat 0), .int .i64 (.ofNat 3), .int .i64 (.ofNat 15), .int .i64 (.ofNat 0)])],
   [(2, [.int .i64 (.ofNat 0)])],
   .tuple ⟨[.slice (some ⟨5, 0, none⟩) 1 18446744073709551616, .int .i64 (.ofNat 0)]⟩⟩
theorem se2_ok : se2.okS EE.G = true := by kernel_rfl
theorem se2_run : evT EE [] 1000000000 (.call se2.f se2.args) se2.heap (keptK se2) = some (.bool true) := by kernel_rfl
theorem se2_h : se2.holds EE := ent_run envOk (fun _ h => by cases h) _ _ se2_ok se2_run
end Go.Proofs.YthkcgengohoboaaGreatDoor
