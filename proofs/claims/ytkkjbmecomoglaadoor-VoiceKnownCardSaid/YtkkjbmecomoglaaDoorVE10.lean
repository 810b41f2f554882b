/- Known calls, part 10: what single calls hand back, at small heaps, by the kernel's own run of the evaluator. No conditions. -/
import Derived.Test.YtkkjbmecomoglaaDoorEnv
set_option linter.all false
namespace Go.Proofs.YtkkjbmecomoglaaDoor
open Go.Ai
set_option maxRecDepth 1000000
-- (decani/voice.ask).span, 33430 steps
noncomputable def ve10 : Ent :=
  ⟨72, [.agg ⟨[.func (.func 69) ⟨[]⟩ ⟨[.pointer (some ⟨3, 0, none⟩)]⟩]⟩, .agg ⟨[.slice (some ⟨4, 0, none⟩) 2 2, .int .i64 (.ofNat 4), .slice none 0 0, .map (some 5)]⟩, .int .i64 (.ofNat 0)], 6,
   [(0, .dead),
    (1, .cells false 0 [.int .i64 (.negSucc 0), .int .i64 (.negSucc 0), .int .i64 (.negSucc 0), .int .i64 (.negSucc 0), .int .i64 (.negSucc 0)]),
    (2, .cells false 0 [.int .i64 (.ofNat 40), .int .i64 (.ofNat 2), .int .i64 (.ofNat 40), .int .i64 (.ofNat 2), .int .i64 (.ofNat 2), .int .i64 (.ofNat 1), .int .i64 (.ofNat 6), .int .i64 (.ofNat 2), .int .i64 (.ofNat 9), .int .i64 (.ofNat 3)]),
    (3, .cells true 0 [.int .i64 (.ofNat 3)]),
    (4, .cells true 0 [.int .i64 (.ofNat 5), .int .i64 (.ofNat 6), .int .i64 (.ofNat 20), .int .i64 (.ofNat 21), .int .i64 (.ofNat 1), .int .i64 (.ofNat 2), .int .i64 (.ofNat 2), .int .i64 (.ofNat 3), .int .i64 (.ofNat 1), .int .i64 (.ofNat 3), .int .i64 (.ofNat 5), .int .i64 (.ofNat 8), .int .i64 (.ofNat 8), .int .i64 (.ofNat 18), .int .i64 (.ofNat 18), .int .i64 (.ofNat 0), .int .i64 (.ofNat 1), .int .i64 (.ofNat 1), .int .i64 (.ofNat 1), .int .i64 (.ofNat 0), .int .i64 (.ofNat 6), .int .i64 (.ofNat 7)]),
    (5, .map [] 0)],
   [],
   .tuple ⟨[.agg ⟨[.int .i64 (.ofNat 21), .int .i64 (.ofNat 27)]⟩, .bool true]⟩⟩
theorem ve10_ok : ve10.okS EE.G = true := by kernel_rfl
theorem ve10_run : evT EE [] 1000000000 (.call ve10.f ve10.args) ve10.heap (keptK ve10) = some (.bool true) := by kernel_rfl
theorem ve10_h : ve10.holds EE := ent_run envOk (fun _ h => by cases h) _ _ ve10_ok ve10_run
-- (decani/voice.choir).inSome, 32296 steps
noncomputable def ve13 : Ent :=
  ⟨106, [.agg ⟨[.slice (some ⟨3, 0, none⟩) 2 2, .int .i64 (.ofNat 4), .slice none 0 0, .map (some 4)]⟩, .int .i64 (.ofNat 0), .func (.func 75) ⟨[]⟩ ⟨[.pointer (some ⟨5, 0, none⟩), .pointer (some ⟨6, 0, none⟩)]⟩], 7,
   [(0, .dead),
    (1, .cells false 0 [.int .i64 (.negSucc 0), .int .i64 (.negSucc 0), .int .i64 (.negSucc 0), .int .i64 (.negSucc 0), .int .i64 (.negSucc 0)]),
    (2, .cells false 0 [.int .i64 (.ofNat 40), .int .i64 (.ofNat 2), .int .i64 (.ofNat 40), .int .i64 (.ofNat 2), .int .i64 (.ofNat 2), .int .i64 (.ofNat 1), .int .i64 (.ofNat 6), .int .i64 (.ofNat 2), .int .i64 (.ofNat 9), .int .i64 (.ofNat 3)]),
    (3, .cells true 0 [.int .i64 (.ofNat 5), .int .i64 (.ofNat 6), .int .i64 (.ofNat 20), .int .i64 (.ofNat 21), .int .i64 (.ofNat 1), .int .i64 (.ofNat 2), .int .i64 (.ofNat 2), .int .i64 (.ofNat 3), .int .i64 (.ofNat 1), .int .i64 (.ofNat 3), .int .i64 (.ofNat 5), .int .i64 (.ofNat 8), .int .i64 (.ofNat 8), .int .i64 (.ofNat 18), .int .i64 (.ofNat 18), .int .i64 (.ofNat 0), .int .i64 (.ofNat 1), .int .i64 (.ofNat 1), .int .i64 (.ofNat 1), .int .i64 (.ofNat 0), .int .i64 (.ofNat 6), .int .i64 (.ofNat 7)]),
    (4, .map [] 0),
    (5, .cells true 0 [.int .i64 (.ofNat 0)]),
    (6, .cells true 0 [.int .i64 (.ofNat 22)])],
   [],
   .bool false⟩
theorem ve13_ok : ve13.okS EE.G = true := by kernel_rfl
theorem ve13_run : evT EE [] 1000000000 (.call ve13.f ve13.args) ve13.heap (keptK ve13) = some (.bool true) := by kernel_rfl
theorem ve13_h : ve13.holds EE := ent_run envOk (fun _ h => by cases h) _ _ ve13_ok ve13_run
end Go.Proofs.YtkkjbmecomoglaaDoor
