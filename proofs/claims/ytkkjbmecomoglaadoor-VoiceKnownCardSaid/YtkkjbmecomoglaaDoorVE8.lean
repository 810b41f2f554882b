/- Known calls, part 8: what single calls hand back, at small heaps, by the kernel's own run of the evaluator. No conditions. -/
import Derived.Test.YtkkjbmecomoglaaDoorEnv
set_option linter.all false
namespace Go.Proofs.YtkkjbmecomoglaaDoor
open Go.Ai
set_option maxRecDepth 1000000
-- (decani/voice.ask).span, 34574 steps
noncomputable def ve8 : Ent :=
  ⟨72, [.agg ⟨[.func (.func 69) ⟨[]⟩ ⟨[.pointer (some ⟨3, 0, none⟩)]⟩]⟩, .agg ⟨[.slice (some ⟨4, 0, none⟩) 2 2, .int .i64 (.ofNat 4), .slice none 0 0, .map (some 5)]⟩, .int .i64 (.ofNat 0)], 6,
   [(0, .dead),
    (1, .cells false 0 [.int .i64 (.negSucc 0), .int .i64 (.negSucc 0), .int .i64 (.negSucc 0), .int .i64 (.negSucc 0), .int .i64 (.negSucc 0)]),
    (2, .cells false 0 [.int .i64 (.ofNat 40), .int .i64 (.ofNat 2), .int .i64 (.ofNat 40), .int .i64 (.ofNat 2), .int .i64 (.ofNat 2), .int .i64 (.ofNat 1), .int .i64 (.ofNat 6), .int .i64 (.ofNat 2), .int .i64 (.ofNat 9), .int .i64 (.ofNat 3)]),
    (3, .cells true 0 [.int .i64 (.ofNat 2)]),
    (4, .cells true 0 [.int .i64 (.ofNat 5), .int .i64 (.ofNat 6), .int .i64 (.ofNat 20), .int .i64 (.ofNat 21), .int .i64 (.ofNat 1), .int .i64 (.ofNat 2), .int .i64 (.ofNat 2), .int .i64 (.ofNat 3), .int .i64 (.ofNat 1), .int .i64 (.ofNat 3), .int .i64 (.ofNat 5), .int .i64 (.ofNat 8), .int .i64 (.ofNat 8), .int .i64 (.ofNat 18), .int .i64 (.ofNat 18), .int .i64 (.ofNat 0), .int .i64 (.ofNat 1), .int .i64 (.ofNat 1), .int .i64 (.ofNat 1), .int .i64 (.ofNat 0), .int .i64 (.ofNat 6), .int .i64 (.ofNat 7)]),
    (5, .map [] 0)],
   [],
   .tuple ⟨[.agg ⟨[.int .i64 (.ofNat 22), .int .i64 (.ofNat 25)]⟩, .bool true]⟩⟩
theorem ve8_ok : ve8.okS EE.G = true := by kernel_rfl
theorem ve8_run : evT EE [] 1000000000 (.call ve8.f ve8.args) ve8.heap (keptK ve8) = some (.bool true) := by kernel_rfl
theorem ve8_h : ve8.holds EE := ent_run envOk (fun _ h => by cases h) _ _ ve8_ok ve8_run
-- (decani/voice.ask).span, 28910 steps
noncomputable def ve17 : Ent :=
  ⟨72, [.agg ⟨[.func (.func 101) ⟨[]⟩ ⟨[.pointer (some ⟨3, 0, none⟩)]⟩]⟩, .agg ⟨[.slice (some ⟨4, 0, none⟩) 2 2, .int .i64 (.ofNat 4), .slice none 0 0, .map (some 5)]⟩, .int .i64 (.ofNat 0)], 6,
   [(0, .dead),
    (1, .cells false 0 [.int .i64 (.negSucc 0), .int .i64 (.negSucc 0), .int .i64 (.negSucc 0), .int .i64 (.negSucc 0), .int .i64 (.negSucc 0)]),
    (2, .cells false 0 [.int .i64 (.ofNat 40), .int .i64 (.ofNat 2), .int .i64 (.ofNat 40), .int .i64 (.ofNat 2), .int .i64 (.ofNat 2), .int .i64 (.ofNat 1), .int .i64 (.ofNat 6), .int .i64 (.ofNat 2), .int .i64 (.ofNat 9), .int .i64 (.ofNat 3)]),
    (3, .cells true 0 [.int .i64 (.ofNat 0)]),
    (4, .cells true 0 [.int .i64 (.ofNat 5), .int .i64 (.ofNat 6), .int .i64 (.ofNat 20), .int .i64 (.ofNat 21), .int .i64 (.ofNat 1), .int .i64 (.ofNat 2), .int .i64 (.ofNat 2), .int .i64 (.ofNat 3), .int .i64 (.ofNat 1), .int .i64 (.ofNat 3), .int .i64 (.ofNat 5), .int .i64 (.ofNat 8), .int .i64 (.ofNat 8), .int .i64 (.ofNat 18), .int .i64 (.ofNat 18), .int .i64 (.ofNat 0), .int .i64 (.ofNat 1), .int .i64 (.ofNat 1), .int .i64 (.ofNat 1), .int .i64 (.ofNat 0), .int .i64 (.ofNat 6), .int .i64 (.ofNat 7)]),
    (5, .map [] 0)],
   [],
   .tuple ⟨[.agg ⟨[.int .i64 (.ofNat 5), .int .i64 (.ofNat 6)]⟩, .bool true]⟩⟩
theorem ve17_ok : ve17.okS EE.G = true := by kernel_rfl
theorem ve17_run : evT EE [] 1000000000 (.call ve17.f ve17.args) ve17.heap (keptK ve17) = some (.bool true) := by kernel_rfl
theorem ve17_h : ve17.holds EE := ent_run envOk (fun _ h => by cases h) _ _ ve17_ok ve17_run
end Go.Proofs.YtkkjbmecomoglaaDoor
