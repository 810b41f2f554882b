/- Known calls, part 5: what single calls hand back, at small heaps, by the kernel's own run of the evaluator. No conditions. -/
import Derived.Test.YtkkjbmecomoglaaDoorEnv
set_option linter.all false
namespace Go.Proofs.YtkkjbmecomoglaaDoor
open Go.Ai
set_option maxRecDepth 1000000
-- (decani/voice.choir).inSome, 36214 steps
noncomputable def ve5 : Ent :=
  ⟨106, [.agg ⟨[.slice (some ⟨3, 0, none⟩) 2 2, .int .i64 (.ofNat 4), .slice (some ⟨4, 0, none⟩) 1 1, .map (some 5)]⟩, .int .i64 (.ofNat 0), .func (.func 80) ⟨[]⟩ ⟨[.pointer (some ⟨7, 0, none⟩)]⟩], 8,
   [(0, .dead),
    (1, .cells false 0 [.int .i64 (.negSucc 0), .int .i64 (.negSucc 0), .int .i64 (.negSucc 0), .int .i64 (.negSucc 0), .int .i64 (.negSucc 0)]),
    (2, .cells false 0 [.int .i64 (.ofNat 40), .int .i64 (.ofNat 2), .int .i64 (.ofNat 40), .int .i64 (.ofNat 2), .int .i64 (.ofNat 2), .int .i64 (.ofNat 1), .int .i64 (.ofNat 6), .int .i64 (.ofNat 2), .int .i64 (.ofNat 9), .int .i64 (.ofNat 3)]),
    (3, .cells true 0 [.int .i64 (.ofNat 5), .int .i64 (.ofNat 6), .int .i64 (.ofNat 20), .int .i64 (.ofNat 21), .int .i64 (.ofNat 1), .int .i64 (.ofNat 2), .int .i64 (.ofNat 2), .int .i64 (.ofNat 3), .int .i64 (.ofNat 1), .int .i64 (.ofNat 3), .int .i64 (.ofNat 5), .int .i64 (.ofNat 8), .int .i64 (.ofNat 8), .int .i64 (.ofNat 18), .int .i64 (.ofNat 18), .int .i64 (.ofNat 0), .int .i64 (.ofNat 1), .int .i64 (.ofNat 1), .int .i64 (.ofNat 1), .int .i64 (.ofNat 0), .int .i64 (.ofNat 6), .int .i64 (.ofNat 7)]),
    (4, .cells true 0 [.int .i64 (.ofNat 0), .int .i64 (.ofNat 3), .int .i64 (.ofNat 15), .int .i64 (.ofNat 0)]),
    (5, .map [⟨.agg ⟨[.int .i64 (.ofNat 0), .int .i64 (.ofNat 3)]⟩, .slice (some ⟨6, 0, none⟩) 1 18446744073709551616, 0⟩] 1),
    (6, .cells true 5 [.int .i64 (.ofNat 0), .int .i64 (.ofNat 3), .int .i64 (.ofNat 15), .int .i64 (.ofNat 0)]),
    (7, .cells true 0 [.int .i64 (.ofNat 2)])],
   [],
   .bool false⟩
theorem ve5_ok : ve5.okS EE.G = true := by kernel_rfl
theorem ve5_run : evT EE [] 1000000000 (.call ve5.f ve5.args) ve5.heap (keptK ve5) = some (.bool true) := by kernel_rfl
theorem ve5_h : ve5.holds EE := ent_run envOk (fun _ h => by cases h) _ _ ve5_ok ve5_run
-- (decani/voice.choir).first, 13204 steps
noncomputable def ve18 : Ent :=
  ⟨100, [.agg ⟨[.slice (some ⟨3, 0, none⟩) 2 2, .int .i64 (.ofNat 4), .slice (some ⟨4, 0, none⟩) 1 18446744073709551616, .map (some 5)]⟩, .int .i64 (.ofNat 0)], 7,
   [(0, .dead),
    (1, .cells false 0 [.int .i64 (.negSucc 0), .int .i64 (.negSucc 0), .int .i64 (.negSucc 0), .int .i64 (.negSucc 0), .int .i64 (.negSucc 0)]),
    (2, .cells false 0 [.int .i64 (.ofNat 40), .int .i64 (.ofNat 2), .int .i64 (.ofNat 40), .int .i64 (.ofNat 2), .int .i64 (.ofNat 2), .int .i64 (.ofNat 1), .int .i64 (.ofNat 6), .int .i64 (.ofNat 2), .int .i64 (.ofNat 9), .int .i64 (.ofNat 3)]),
    (3, .cells true 0 [.int .i64 (.ofNat 5), .int .i64 (.ofNat 6), .int .i64 (.ofNat 20), .int .i64 (.ofNat 21), .int .i64 (.ofNat 1), .int .i64 (.ofNat 2), .int .i64 (.ofNat 2), .int .i64 (.ofNat 3), .int .i64 (.ofNat 1), .int .i64 (.ofNat 3), .int .i64 (.ofNat 5), .int .i64 (.ofNat 8), .int .i64 (.ofNat 8), .int .i64 (.ofNat 18), .int .i64 (.ofNat 18), .int .i64 (.ofNat 0), .int .i64 (.ofNat 1), .int .i64 (.ofNat 1), .int .i64 (.ofNat 1), .int .i64 (.ofNat 0), .int .i64 (.ofNat 6), .int .i64 (.ofNat 7)]),
    (4, .cells true 5 [.int .i64 (.ofNat 0), .int .i64 (.ofNat 1), .int .i64 (.ofNat 23), .int .i64 (.ofNat 1)]),
    (5, .map [⟨.agg ⟨[.int .i64 (.ofNat 0), .int .i64 (.ofNat 1)]⟩, .slice (some ⟨6, 0, none⟩) 1 18446744073709551616, 0⟩] 1),
    (6, .cells true 5 [.int .i64 (.ofNat 0), .int .i64 (.ofNat 1), .int .i64 (.ofNat 23), .int .i64 (.ofNat 1)])],
   [],
   .agg ⟨[.int .i64 (.ofNat 5), .int .i64 (.ofNat 21), .int .i64 (.ofNat 2), .int .i64 (.ofNat 2), .int .i64 (.ofNat 3)]⟩⟩
theorem ve18_ok : ve18.okS EE.G = true := by kernel_rfl
theorem ve18_run : evT EE [] 1000000000 (.call ve18.f ve18.args) ve18.heap (keptK ve18) = some (.bool true) := by kernel_rfl
theorem ve18_h : ve18.holds EE := ent_run envOk (fun _ h => by cases h) _ _ ve18_ok ve18_run
-- decani/voice.valid, 1245 steps
noncomputable def ve44 : Ent :=
  ⟨86, [.agg ⟨[.slice (some ⟨3, 0, none⟩) 2 2, .int .i64 (.ofNat 4), .slice (some ⟨4, 0, none⟩) 1 1]⟩], 5,
   [(0, .dead),
    (1, .cells false 0 [.int .i64 (.negSucc 0), .int .i64 (.negSucc 0), .int .i64 (.negSucc 0), .int .i64 (.negSucc 0), .int .i64 (.negSucc 0)]),
    (2, .cells false 0 [.int .i64 (.ofNat 40), .int .i64 (.ofNat 2), .int .i64 (.ofNat 40), .int .i64 (.ofNat 2), .int .i64 (.ofNat 2), .int .i64 (.ofNat 1), .int .i64 (.ofNat 6), .int .i64 (.ofNat 2), .int .i64 (.ofNat 9), .int .i64 (.ofNat 3)]),
    (3, .cells true 0 [.int .i64 (.ofNat 5), .int .i64 (.ofNat 6), .int .i64 (.ofNat 20), .int .i64 (.ofNat 21), .int .i64 (.ofNat 1), .int .i64 (.ofNat 2), .int .i64 (.ofNat 2), .int .i64 (.ofNat 3), .int .i64 (.ofNat 1), .int .i64 (.ofNat 3), .int .i64 (.ofNat 5), .int .i64 (.ofNat 8), .int .i64 (.ofNat 8), .int .i64 (.ofNat 18), .int .i64 (.ofNat 18), .int .i64 (.ofNat 0), .int .i64 (.ofNat 1), .int .i64 (.ofNat 1), .int .i64 (.ofNat 1), .int .i64 (.ofNat 0), .int .i64 (.ofNat 6), .int .i64 (.ofNat 7)]),
    (4, .cells true 0 [.int .i64 (.ofNat 2), .int .i64 (.ofNat 0), .int .i64 (.ofNat 0), .int .i64 (.ofNat 0)])],
   [],
   .bool false⟩
theorem ve44_ok : ve44.okS EE.G = true := by kernel_rfl
theorem ve44_run : evT EE [] 1000000000 (.call ve44.f ve44.args) ve44.heap (keptK ve44) = some (.bool true) := by kernel_rfl
theorem ve44_h : ve44.holds EE := ent_run envOk (fun _ h => by cases h) _ _ ve44_ok ve44_run
-- decani/voice.valid, 1097 steps
noncomputable def ve50 : Ent :=
  ⟨86, [.agg ⟨[.slice (some ⟨3, 0, none⟩) 2 2, .int .i64 (.ofNat 4), .slice none 0 0]⟩], 4,
   [(0, .dead),
    (1, .cells false 0 [.int .i64 (.negSucc 0), .int .i64 (.negSucc 0), .int .i64 (.negSucc 0), .int .i64 (.negSucc 0), .int .i64 (.negSucc 0)]),
    (2, .cells false 0 [.int .i64 (.ofNat 40), .int .i64 (.ofNat 2), .int .i64 (.ofNat 40), .int .i64 (.ofNat 2), .int .i64 (.ofNat 2), .int .i64 (.ofNat 1), .int .i64 (.ofNat 6), .int .i64 (.ofNat 2), .int .i64 (.ofNat 9), .int .i64 (.ofNat 3)]),
    (3, .cells true 0 [.int .i64 (.ofNat 5), .int .i64 (.ofNat 6), .int .i64 (.ofNat 20), .int .i64 (.ofNat 21), .int .i64 (.ofNat 1), .int .i64 (.ofNat 2), .int .i64 (.ofNat 2), .int .i64 (.ofNat 3), .int .i64 (.ofNat 1), .int .i64 (.ofNat 3), .int .i64 (.ofNat 5), .int .i64 (.ofNat 8), .int .i64 (.ofNat 8), .int .i64 (.ofNat 18), .int .i64 (.ofNat 18), .int .i64 (.ofNat 0), .int .i64 (.ofNat 1), .int .i64 (.ofNat 1), .int .i64 (.ofNat 1), .int .i64 (.ofNat 0), .int .i64 (.ofNat 10), .int .i64 (.ofNat 10)])],
   [],
   .bool false⟩
theorem ve50_ok : ve50.okS EE.G = true := by kernel_rfl
theorem ve50_run : evT EE [] 1000000000 (.call ve50.f ve50.args) ve50.heap (keptK ve50) = some (.bool true) := by kernel_rfl
theorem ve50_h : ve50.holds EE := ent_run envOk (fun _ h => by cases h) _ _ ve50_ok ve50_run
-- (decani/voice.choir).first, 925 steps
noncomputable def ve57 : Ent :=
  ⟨100, [.agg ⟨[.slice (some ⟨3, 0, none⟩) 2 2, .int .i64 (.ofNat 4), .slice none 0 0, .map (some 4)]⟩, .int .i64 (.ofNat 1)], 5,
   [(0, .dead),
    (1, .cells false 0 [.int .i64 (.negSucc 0), .int .i64 (.negSucc 0), .int .i64 (.negSucc 0), .int .i64 (.negSucc 0), .int .i64 (.negSucc 0)]),
    (2, .cells false 0 [.int .i64 (.ofNat 40), .int .i64 (.ofNat 2), .int .i64 (.ofNat 40), .int .i64 (.ofNat 2), .int .i64 (.ofNat 2), .int .i64 (.ofNat 1), .int .i64 (.ofNat 6), .int .i64 (.ofNat 2), .int .i64 (.ofNat 9), .int .i64 (.ofNat 3)]),
    (3, .cells true 0 [.int .i64 (.ofNat 5), .int .i64 (.ofNat 6), .int .i64 (.ofNat 20), .int .i64 (.ofNat 21), .int .i64 (.ofNat 1), .int .i64 (.ofNat 2), .int .i64 (.ofNat 2), .int .i64 (.ofNat 3), .int .i64 (.ofNat 1), .int .i64 (.ofNat 3), .int .i64 (.ofNat 5), .int .i64 (.ofNat 8), .int .i64 (.ofNat 8), .int .i64 (.ofNat 18), .int .i64 (.ofNat 18), .int .i64 (.ofNat 0), .int .i64 (.ofNat 1), .int .i64 (.ofNat 1), .int .i64 (.ofNat 1), .int .i64 (.ofNat 0), .int .i64 (.ofNat 6), .int .i64 (.ofNat 7)]),
    (4, .map [] 0)],
   [],
   .agg ⟨[.int .i64 (.ofNat 8), .int .i64 (.ofNat 18), .int .i64 (.ofNat 0), .int .i64 (.ofNat 1), .int .i64 (.ofNat 6)]⟩⟩
theorem ve57_ok : ve57.okS EE.G = true := by kernel_rfl
theorem ve57_run : evT EE [] 1000000000 (.call ve57.f ve57.args) ve57.heap (keptK ve57) = some (.bool true) := by kernel_rfl
theorem ve57_h : ve57.holds EE := ent_run envOk (fun _ h => by cases h) _ _ ve57_ok ve57_run
-- decani/voice.valid, 68 steps
noncomputable def ve65 : Ent :=
  ⟨86, [.agg ⟨[.slice (some ⟨3, 0, none⟩) 2 2, .int .i64 (.ofNat 4), .slice (some ⟨4, 0, none⟩) 7 7]⟩], 5,
   [(0, .dead),
    (1, .cells false 0 [.int .i64 (.negSucc 0), .int .i64 (.negSucc 0), .int .i64 (.negSucc 0), .int .i64 (.negSucc 0), .int .i64 (.negSucc 0)]),
    (2, .cells false 0 [.int .i64 (.ofNat 40), .int .i64 (.ofNat 2), .int .i64 (.ofNat 40), .int .i64 (.ofNat 2), .int .i64 (.ofNat 2), .int .i64 (.ofNat 1), .int .i64 (.ofNat 6), .int .i64 (.ofNat 2), .int .i64 (.ofNat 9), .int .i64 (.ofNat 3)]),
    (3, .cells true 0 [.int .i64 (.ofNat 5), .int .i64 (.ofNat 6), .int .i64 (.ofNat 20), .int .i64 (.ofNat 21), .int .i64 (.ofNat 1), .int .i64 (.ofNat 2), .int .i64 (.ofNat 2), .int .i64 (.ofNat 3), .int .i64 (.ofNat 1), .int .i64 (.ofNat 3), .int .i64 (.ofNat 5), .int .i64 (.ofNat 8), .int .i64 (.ofNat 8), .int .i64 (.ofNat 18), .int .i64 (.ofNat 18), .int .i64 (.ofNat 0), .int .i64 (.ofNat 1), .int .i64 (.ofNat 1), .int .i64 (.ofNat 1), .int .i64 (.ofNat 0), .int .i64 (.ofNat 6), .int .i64 (.ofNat 7)]),
    (4, .cells true 0 [.int .i64 (.ofNat 0), .int .i64 (.ofNat 0), .int .i64 (.ofNat 0), .int .i64 (.ofNat 0), .int .i64 (.ofNat 0), .int .i64 (.ofNat 0), .int .i64 (.ofNat 0), .int .i64 (.ofNat 0), .int .i64 (.ofNat 0), .int .i64 (.ofNat 0), .int .i64 (.ofNat 0), .int .i64 (.ofNat 0), .int .i64 (.ofNat 0), .int .i64 (.ofNat 0), .int .i64 (.ofNat 0), .int .i64 (.ofNat 0), .int .i64 (.ofNat 0), .int .i64 (.ofNat 0), .int .i64 (.ofNat 0), .int .i64 (.ofNat 0), .int .i64 (.ofNat 0), .int .i64 (.ofNat 0), .int .i64 (.ofNat 0), .int .i64 (.ofNat 0), .int .i64 (.ofNat 0), .int .i64 (.ofNat 0), .int .i64 (.ofNat 0), .int .i64 (.ofNat 0)])],
   [],
   .bool false⟩
theorem ve65_ok : ve65.okS EE.G = true := by kernel_rfl
theorem ve65_run : evT EE [] 1000000000 (.call ve65.f ve65.args) ve65.heap (keptK ve65) = some (.bool true) := by kernel_rfl
theorem ve65_h : ve65.holds EE := ent_run envOk (fun _ h => by cases h) _ _ ve65_ok ve65_run
end Go.Proofs.YtkkjbmecomoglaaDoor
