/- Known calls, part 9: what single calls hand back, at small heaps, by the kernel's own run of the evaluator. No conditions. -/
import Derived.Test.YtkkjbmecomoglaaDoorEnv
set_option linter.all false
namespace Go.Proofs.YtkkjbmecomoglaaDoor
open Go.Ai
set_option maxRecDepth 1000000
-- (decani/voice.choir).first, 34506 steps
noncomputable def ve9 : Ent :=
  ⟨100, [.agg ⟨[.slice (some ⟨3, 0, none⟩) 2 2, .int .i64 (.ofNat 4), .slice (some ⟨4, 0, none⟩) 2 2, .map (some 5)]⟩, .int .i64 (.ofNat 0)], 7,
   [(0, .dead),
    (1, .cells false 0 [.int .i64 (.negSucc 0), .int .i64 (.negSucc 0), .int .i64 (.negSucc 0), .int .i64 (.negSucc 0), .int .i64 (.negSucc 0)]),
    (2, .cells false 0 [.int .i64 (.ofNat 40), .int .i64 (.ofNat 2), .int .i64 (.ofNat 40), .int .i64 (.ofNat 2), .int .i64 (.ofNat 2), .int .i64 (.ofNat 1), .int .i64 (.ofNat 6), .int .i64 (.ofNat 2), .int .i64 (.ofNat 9), .int .i64 (.ofNat 3)]),
    (3, .cells true 0 [.int .i64 (.ofNat 5), .int .i64 (.ofNat 6), .int .i64 (.ofNat 20), .int .i64 (.ofNat 21), .int .i64 (.ofNat 1), .int .i64 (.ofNat 2), .int .i64 (.ofNat 2), .int .i64 (.ofNat 3), .int .i64 (.ofNat 1), .int .i64 (.ofNat 3), .int .i64 (.ofNat 5), .int .i64 (.ofNat 8), .int .i64 (.ofNat 8), .int .i64 (.ofNat 18), .int .i64 (.ofNat 18), .int .i64 (.ofNat 0), .int .i64 (.ofNat 1), .int .i64 (.ofNat 1), .int .i64 (.ofNat 1), .int .i64 (.ofNat 0), .int .i64 (.ofNat 6), .int .i64 (.ofNat 7)]),
    (4, .cells true 0 [.int .i64 (.ofNat 0), .int .i64 (.ofNat 3), .int .i64 (.ofNat 15), .int .i64 (.ofNat 0), .int .i64 (.ofNat 0), .int .i64 (.ofNat 3), .int .i64 (.ofNat 20), .int .i64 (.ofNat 1)]),
    (5, .map [⟨.agg ⟨[.int .i64 (.ofNat 0), .int .i64 (.ofNat 3)]⟩, .slice (some ⟨6, 0, none⟩) 2 18446744073709551616, 0⟩] 1),
    (6, .cells true 5 [.int .i64 (.ofNat 0), .int .i64 (.ofNat 3), .int .i64 (.ofNat 15), .int .i64 (.ofNat 0), .int .i64 (.ofNat 0), .int .i64 (.ofNat 3), .int .i64 (.ofNat 20), .int .i64 (.ofNat 1)])],
   [],
   .agg ⟨[.int .i64 (.negSucc 0), .int .i64 (.negSucc 0), .int .i64 (.negSucc 0), .int .i64 (.negSucc 0), .int .i64 (.negSucc 0)]⟩⟩
theorem ve9_ok : ve9.okS EE.G = true := by kernel_rfl
theorem ve9_run : evT EE [] 1000000000 (.call ve9.f ve9.args) ve9.heap (keptK ve9) = some (.bool true) := by kernel_rfl
theorem ve9_h : ve9.holds EE := ent_run envOk (fun _ h => by cases h) _ _ ve9_ok ve9_run
-- (decani/voice.choir).first, 31852 steps
noncomputable def ve14 : Ent :=
  ⟨100, [.agg ⟨[.slice (some ⟨3, 0, none⟩) 2 2, .int .i64 (.ofNat 4), .slice (some ⟨4, 0, none⟩) 1 18446744073709551616, .map (some 5)]⟩, .int .i64 (.ofNat 0)], 7,
   [(0, .dead),
    (1, .cells false 0 [.int .i64 (.negSucc 0), .int .i64 (.negSucc 0), .int .i64 (.negSucc 0), .int .i64 (.negSucc 0), .int .i64 (.negSucc 0)]),
    (2, .cells false 0 [.int .i64 (.ofNat 40), .int .i64 (.ofNat 2), .int .i64 (.ofNat 40), .int .i64 (.ofNat 2), .int .i64 (.ofNat 2), .int .i64 (.ofNat 1), .int .i64 (.ofNat 6), .int .i64 (.ofNat 2), .int .i64 (.ofNat 9), .int .i64 (.ofNat 3)]),
    (3, .cells true 0 [.int .i64 (.ofNat 5), .int .i64 (.ofNat 6), .int .i64 (.ofNat 20), .int .i64 (.ofNat 21), .int .i64 (.ofNat 1), .int .i64 (.ofNat 2), .int .i64 (.ofNat 2), .int .i64 (.ofNat 3), .int .i64 (.ofNat 1), .int .i64 (.ofNat 3), .int .i64 (.ofNat 5), .int .i64 (.ofNat 8), .int .i64 (.ofNat 8), .int .i64 (.ofNat 18), .int .i64 (.ofNat 18), .int .i64 (.ofNat 0), .int .i64 (.ofNat 1), .int .i64 (.ofNat 1), .int .i64 (.ofNat 1), .int .i64 (.ofNat 0), .int .i64 (.ofNat 6), .int .i64 (.ofNat 7)]),
    (4, .cells true 5 [.int .i64 (.ofNat 0), .int .i64 (.ofNat 1), .int .i64 (.ofNat 24), .int .i64 (.ofNat 1)]),
    (5, .map [⟨.agg ⟨[.int .i64 (.ofNat 0), .int .i64 (.ofNat 1)]⟩, .slice (some ⟨6, 0, none⟩) 1 18446744073709551616, 0⟩] 1),
    (6, .cells true 5 [.int .i64 (.ofNat 0), .int .i64 (.ofNat 1), .int .i64 (.ofNat 24), .int .i64 (.ofNat 1)])],
   [],
   .agg ⟨[.int .i64 (.negSucc 0), .int .i64 (.negSucc 0), .int .i64 (.negSucc 0), .int .i64 (.negSucc 0), .int .i64 (.negSucc 0)]⟩⟩
theorem ve14_ok : ve14.okS EE.G = true := by kernel_rfl
theorem ve14_run : evT EE [] 1000000000 (.call ve14.f ve14.args) ve14.heap (keptK ve14) = some (.bool true) := by kernel_rfl
theorem ve14_h : ve14.holds EE := ent_run envOk (fun _ h => by cases h) _ _ ve14_ok ve14_run
end Go.Proofs.YtkkjbmecomoglaaDoor
