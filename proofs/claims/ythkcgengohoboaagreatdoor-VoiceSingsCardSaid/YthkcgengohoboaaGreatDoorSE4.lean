/- Known calls, part 4: what single calls hand back, at small heaps, by the kernel's own run of the evaluator. No conditions. -/
import Derived.Test.YthkcgengohoboaaGreatDoorEnv
set_option linter.all false
namespace Go.Proofs.YthkcgengohoboaaGreatDoor
open Go.Ai
set_option maxRecDepth 1000000
-- decani/voice.Highest, 36779 steps
noncomputable def se4 : Ent :=
  ⟨16, [.agg ⟨[.slice (some ⟨3, 0, none⟩) 2 2, .int .i64 (.ofNat 4), .slice none 0 0]⟩, .int .i64 (.ofNat 0), .int .i64 (.ofNat 3)], 4,
   [(0, .cells false 0 [.int .i64 (.negSucc 0), .int .i64 (.negSucc 0), .int .i64 (.negSucc 0), .int .i64 (.negSucc 0), .int .i64 (.negSucc 0)]),
    (1, .cells false 0 [.int .i64 (.ofNat 40), .int .i64 (.ofNat 2), .int .i64 (.ofNat 40), .int .i64 (.ofNat 2), .int .i64 (.ofNat 2), .int .i64 (.ofNat 1), .int .i64 (.ofNat 6), .int .i64 (.ofNat 2), .int .i64 (.ofNat 9), .int .i64 (.ofNat 3)]),
    (2, .dead),
    (3, .cells true 0 [.int .i64 (.ofNat 5), .int .i64 (.ofNat 6), .int .i64 (.ofNat 20), .int .i64 (.ofNat 21), .int .i64 (.ofNat 1), .int .i64 (.ofNat 2), .int .i64 (.ofNat 2), .int .i64 (.ofNat 3), .int .i64 (.ofNat 1), .int .i64 (.ofNat 3), .int .i64 (.ofNat 5), .int .i64 (.ofNat 8), .int .i64 (.ofNat 8), .int .i64 (.ofNat 18), .int .i64 (.ofNat 18), .int .i64 (.ofNat 0), .int .i64 (.ofNat 1), .int .i64 (.ofNat 1), .int .i64 (.ofNat 1), .int .i64 (.ofNat 0), .int .i64 (.ofNat 6), .int .i64 (.ofNat 7)])],
   [],
   .tuple ⟨[.agg ⟨[.int .i64 (.ofNat 21), .int .i64 (.ofNat 27)]⟩, .int .i64 (.ofNat 0)]⟩⟩
theorem se4_ok : se4.okS EE.G = true := by kernel_rfl
theorem se4_run : evT EE [] 1000000000 (.call se4.f se4.args) se4.heap (keptK se4) = some (.bool true) := by kernel_rfl
theorem se4_h : se4.holds EE := ent_run envOk (fun _ h => by cases h) _ _ se4_ok se4_run
-- (decani/voice.choir).wrongOf, 3817 steps
noncomputable def se9 : Ent :=
  ⟨131, [.agg ⟨[.slice (some ⟨3, 0, none⟩) 2 2, .int .i64 (.ofNat 4), .slice (some ⟨4, 0, none⟩) 2 2, .map (some 5)]⟩, .int .i64 (.ofNat 1)], 7,
   [(0, .cells false 0 [.int .i64 (.negSucc 0), .int .i64 (.negSucc 0), .int .i64 (.negSucc 0), .int .i64 (.negSucc 0), .int .i64 (.negSucc 0)]),
    (1, .cells false 0 [.int .i64 (.ofNat 40), .int .i64 (.ofNat 2), .int .i64 (.ofNat 40), .int .i64 (.ofNat 2), .int .i64 (.ofNat 2), .int .i64 (.ofNat 1), .int .i64 (.ofNat 6), .int .i64 (.ofNat 2), .int .i64 (.ofNat 9), .int .i64 (.ofNat 3)]),
    (2, .dead),
    (3, .cells true 0 [.int .i64 (.ofNat 5), .int .i64 (.ofNat 6), .int .i64 (.ofNat 20), .int .i64 (.ofNat 21), .int .i64 (.ofNat 1), .int .i64 (.ofNat 2), .int .i64 (.ofNat 2), .int .i64 (.ofNat 3), .int .i64 (.ofNat 1), .int .i64 (.ofNat 3), .int .i64 (.ofNat 5), .int .i64 (.ofNat 8), .int .i64 (.ofNat 8), .int .i64 (.ofNat 18), .int .i64 (.ofNat 18), .int .i64 (.ofNat 0), .int .i64 (.ofNat 1), .int .i64 (.ofNat 1), .int .i64 (.ofNat 1), .int .i64 (.ofNat 0), .int .i64 (.ofNat 6), .int .i64 (.ofNat 7)]),
    (4, .cells true 0 [.int .i64 (.ofNat 0), .int .i64 (.ofNat 3), .int .i64 (.ofNat 15), .int .i64 (.ofNat 0), .int .i64 (.ofNat 0), .int .i64 (.ofNat 3), .int .i64 (.ofNat 20), .int .i64 (.ofNat 1)]),
    (5, .map [⟨.agg ⟨[.int .i64 (.ofNat 0), .int .i64 (.ofNat 3)]⟩, .slice (some ⟨6, 0, none⟩) 2 18446744073709551616, 0⟩] 1),
    (6, .cells true 5 [.int .i64 (.ofNat 0), .int .i64 (.ofNat 3), .int .i64 (.ofNat 15), .int .i64 (.ofNat 0), .int .i64 (.ofNat 0), .int .i64 (.ofNat 3), .int .i64 (.ofNat 20), .int .i64 (.ofNat 1)])],
   [],
   .slice none 0 0⟩
theorem se9_ok : se9.okS EE.G = true := by kernel_rfl
theorem se9_run : evT EE [] 1000000000 (.call se9.f se9.args) se9.heap (keptK se9) = some (.bool true) := by kernel_rfl
theorem se9_h : se9.holds EE := ent_run envOk (fun _ h => by cases h) _ _ se9_ok se9_run
-- decani/voice.Right, 3187 steps
noncomputable def se10 : Ent :=
  ⟨8, [.agg ⟨[.slice (some ⟨3, 0, none⟩) 2 2, .int .i64 (.ofNat 4), .slice none 0 0]⟩], 4,
   [(0, .cells false 0 [.int .i64 (.negSucc 0), .int .i64 (.negSucc 0), .int .i64 (.negSucc 0), .int .i64 (.negSucc 0), .int .i64 (.negSucc 0)]),
    (1, .cells false 0 [.int .i64 (.ofNat 40), .int .i64 (.ofNat 2), .int .i64 (.ofNat 40), .int .i64 (.ofNat 2), .int .i64 (.ofNat 2), .int .i64 (.ofNat 1), .int .i64 (.ofNat 6), .int .i64 (.ofNat 2), .int .i64 (.ofNat 9), .int .i64 (.ofNat 3)]),
    (2, .dead),
    (3, .cells true 0 [.int .i64 (.ofNat 5), .int .i64 (.ofNat 6), .int .i64 (.ofNat 20), .int .i64 (.ofNat 21), .int .i64 (.ofNat 1), .int .i64 (.ofNat 2), .int .i64 (.ofNat 2), .int .i64 (.ofNat 3), .int .i64 (.ofNat 1), .int .i64 (.ofNat 3), .int .i64 (.ofNat 5), .int .i64 (.ofNat 8), .int .i64 (.ofNat 8), .int .i64 (.ofNat 18), .int .i64 (.ofNat 18), .int .i64 (.ofNat 0), .int .i64 (.ofNat 1), .int .i64 (.ofNat 1), .int .i64 (.ofNat 1), .int .i64 (.ofNat 0), .int .i64 (.ofNat 6), .int .i64 (.ofNat 7)])],
   [],
   .tuple ⟨[.bool true, .int .i64 (.ofNat 0)]⟩⟩
theorem se10_ok : se10.okS EE.G = true := by kernel_rfl
theorem se10_run : evT EE [] 1000000000 (.call se10.f se10.args) se10.heap (keptK se10) = some (.bool true) := by kernel_rfl
theorem se10_h : se10.holds EE := ent_run envOk (fun _ h => by cases h) _ _ se10_ok se10_run
end Go.Proofs.YthkcgengohoboaaGreatDoor
