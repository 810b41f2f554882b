/- Known calls, part 3: what single calls hand back, at small heaps, by the kernel's own run of the evaluator. No conditions. -/
import Derived.Test.YtkkjbmecomoglaaDoorEnv
set_option linter.all false
namespace Go.Proofs.YtkkjbmecomoglaaDoor
open Go.Ai
set_option maxRecDepth 1000000
-- (decani/voice.choir).inSome, 36758 steps
noncomputable def ve3 : Ent :=
  ⟨106, [.agg ⟨[.slice (some ⟨3, 0, none⟩) 2 2, .int .i64 (.ofNat 4), .slice (some ⟨4, 0, none⟩) 1 1, .map (some 5)]⟩, .int .i64 (.ofNat 0), .func (.func 107) ⟨[]⟩ ⟨[.pointer (some ⟨7, 0, none⟩), .pointer (some ⟨8, 0, none⟩)]⟩], 9,
   [(0, .dead),
    (1, .cells false 0 [.int .i64 (.negSucc 0), .int .i64 (.negSucc 0), .int .i64 (.negSucc 0), .int .i64 (.negSucc 0), .int .i64 (.negSucc 0)]),
    (2, .cells false 0 [.int .i64 (.ofNat 40), .int .i64 (.ofNat 2), .int .i64 (.ofNat 40), .int .i64 (.ofNat 2), .int .i64 (.ofNat 2), .int .i64 (.ofNat 1), .int .i64 (.ofNat 6), .int .i64 (.ofNat 2), .int .i64 (.ofNat 9), .int .i64 (.ofNat 3)]),
    (3, .cells true 0 [.int .i64 (.ofNat 5), .int .i64 (.ofNat 6), .int .i64 (.ofNat 20), .int .i64 (.ofNat 21), .int .i64 (.ofNat 1), .int .i64 (.ofNat 2), .int .i64 (.ofNat 2), .int .i64 (.ofNat 3), .int .i64 (.ofNat 1), .int .i64 (.ofNat 3), .int .i64 (.ofNat 5), .int .i64 (.ofNat 8), .int .i64 (.ofNat 8), .int .i64 (.ofNat 18), .int .i64 (.ofNat 18), .int .i64 (.ofNat 0), .int .i64 (.ofNat 1), .int .i64 (.ofNat 1), .int .i64 (.ofNat 1), .int .i64 (.ofNat 0), .int .i64 (.ofNat 6), .int .i64 (.ofNat 7)]),
    (4, .cells true 0 [.int .i64 (.ofNat 0), .int .i64 (.ofNat 3), .int .i64 (.ofNat 15), .int .i64 (.ofNat 0)]),
    (5, .map [⟨.agg ⟨[.int .i64 (.ofNat 0), .int .i64 (.ofNat 3)]⟩, .slice (some ⟨6, 0, none⟩) 1 18446744073709551616, 0⟩] 1),
    (6, .cells true 5 [.int .i64 (.ofNat 0), .int .i64 (.ofNat 3), .int .i64 (.ofNat 15), .int .i64 (.ofNat 0)]),
    (7, .cells true 0 [.int .i64 (.ofNat 0), .int .i64 (.ofNat 3)]),
    (8, .cells true 0 [.int .i64 (.ofNat 10), .int .i64 (.ofNat 18)])],
   [],
   .bool false⟩
theorem ve3_ok : ve3.okS EE.G = true := by kernel_rfl
theorem ve3_run : evT EE [] 1000000000 (.call ve3.f ve3.args) ve3.heap (keptK ve3) = some (.bool true) := by kernel_rfl
theorem ve3_h : ve3.holds EE := ent_run envOk (fun _ h => by cases h) _ _ ve3_ok ve3_run
-- (decani/voice.ask).span, 3418 steps
noncomputable def ve21 : Ent :=
  ⟨72, [.agg ⟨[.func (.func 69) ⟨[]⟩ ⟨[.pointer (some ⟨3, 0, none⟩)]⟩]⟩, .agg ⟨[.slice (some ⟨4, 0, none⟩) 2 2, .int .i64 (.ofNat 4), .slice none 0 0, .map (some 5)]⟩, .int .i64 (.ofNat 1)], 6,
   [(0, .dead),
    (1, .cells false 0 [.int .i64 (.negSucc 0), .int .i64 (.negSucc 0), .int .i64 (.negSucc 0), .int .i64 (.negSucc 0), .int .i64 (.negSucc 0)]),
    (2, .cells false 0 [.int .i64 (.ofNat 40), .int .i64 (.ofNat 2), .int .i64 (.ofNat 40), .int .i64 (.ofNat 2), .int .i64 (.ofNat 2), .int .i64 (.ofNat 1), .int .i64 (.ofNat 6), .int .i64 (.ofNat 2), .int .i64 (.ofNat 9), .int .i64 (.ofNat 3)]),
    (3, .cells true 0 [.int .i64 (.ofNat 3)]),
    (4, .cells true 0 [.int .i64 (.ofNat 5), .int .i64 (.ofNat 6), .int .i64 (.ofNat 20), .int .i64 (.ofNat 21), .int .i64 (.ofNat 1), .int .i64 (.ofNat 2), .int .i64 (.ofNat 2), .int .i64 (.ofNat 3), .int .i64 (.ofNat 1), .int .i64 (.ofNat 3), .int .i64 (.ofNat 5), .int .i64 (.ofNat 8), .int .i64 (.ofNat 8), .int .i64 (.ofNat 18), .int .i64 (.ofNat 18), .int .i64 (.ofNat 0), .int .i64 (.ofNat 1), .int .i64 (.ofNat 1), .int .i64 (.ofNat 1), .int .i64 (.ofNat 0), .int .i64 (.ofNat 6), .int .i64 (.ofNat 7)]),
    (5, .map [] 0)],
   [],
   .tuple ⟨[.agg ⟨[.int .i64 (.ofNat 18), .int .i64 (.ofNat 19)]⟩, .bool true]⟩⟩
theorem ve21_ok : ve21.okS EE.G = true := by kernel_rfl
theorem ve21_run : evT EE [] 1000000000 (.call ve21.f ve21.args) ve21.heap (keptK ve21) = some (.bool true) := by kernel_rfl
theorem ve21_h : ve21.holds EE := ent_run envOk (fun _ h => by cases h) _ _ ve21_ok ve21_run
-- (decani/voice.choir).inEach, 3212 steps
noncomputable def ve24 : Ent :=
  ⟨105, [.agg ⟨[.slice (some ⟨3, 0, none⟩) 2 2, .int .i64 (.ofNat 4), .slice none 0 0, .map (some 4)]⟩, .int .i64 (.ofNat 1), .func (.func 79) ⟨[]⟩ ⟨[.pointer (some ⟨5, 0, none⟩), .pointer (some ⟨6, 0, none⟩)]⟩], 7,
   [(0, .dead),
    (1, .cells false 0 [.int .i64 (.negSucc 0), .int .i64 (.negSucc 0), .int .i64 (.negSucc 0), .int .i64 (.negSucc 0), .int .i64 (.negSucc 0)]),
    (2, .cells false 0 [.int .i64 (.ofNat 40), .int .i64 (.ofNat 2), .int .i64 (.ofNat 40), .int .i64 (.ofNat 2), .int .i64 (.ofNat 2), .int .i64 (.ofNat 1), .int .i64 (.ofNat 6), .int .i64 (.ofNat 2), .int .i64 (.ofNat 9), .int .i64 (.ofNat 3)]),
    (3, .cells true 0 [.int .i64 (.ofNat 5), .int .i64 (.ofNat 6), .int .i64 (.ofNat 20), .int .i64 (.ofNat 21), .int .i64 (.ofNat 1), .int .i64 (.ofNat 2), .int .i64 (.ofNat 2), .int .i64 (.ofNat 3), .int .i64 (.ofNat 1), .int .i64 (.ofNat 3), .int .i64 (.ofNat 5), .int .i64 (.ofNat 8), .int .i64 (.ofNat 8), .int .i64 (.ofNat 18), .int .i64 (.ofNat 18), .int .i64 (.ofNat 0), .int .i64 (.ofNat 1), .int .i64 (.ofNat 1), .int .i64 (.ofNat 1), .int .i64 (.ofNat 0), .int .i64 (.ofNat 6), .int .i64 (.ofNat 7)]),
    (4, .map [] 0),
    (5, .cells true 0 [.int .i64 (.ofNat 3)]),
    (6, .cells true 0 [.int .i64 (.ofNat 18)])],
   [],
   .bool true⟩
theorem ve24_ok : ve24.okS EE.G = true := by kernel_rfl
theorem ve24_run : evT EE [] 1000000000 (.call ve24.f ve24.args) ve24.heap (keptK ve24) = some (.bool true) := by kernel_rfl
theorem ve24_h : ve24.holds EE := ent_run envOk (fun _ h => by cases h) _ _ ve24_ok ve24_run
-- (decani/voice.choir).inSome, 2612 steps
noncomputable def ve28 : Ent :=
  ⟨106, [.agg ⟨[.slice (some ⟨3, 0, none⟩) 2 2, .int .i64 (.ofNat 4), .slice none 0 0, .map (some 4)]⟩, .int .i64 (.ofNat 1), .func (.func 80) ⟨[]⟩ ⟨[.pointer (some ⟨5, 0, none⟩)]⟩], 6,
   [(0, .dead),
    (1, .cells false 0 [.int .i64 (.negSucc 0), .int .i64 (.negSucc 0), .int .i64 (.negSucc 0), .int .i64 (.negSucc 0), .int .i64 (.negSucc 0)]),
    (2, .cells false 0 [.int .i64 (.ofNat 40), .int .i64 (.ofNat 2), .int .i64 (.ofNat 40), .int .i64 (.ofNat 2), .int .i64 (.ofNat 2), .int .i64 (.ofNat 1), .int .i64 (.ofNat 6), .int .i64 (.ofNat 2), .int .i64 (.ofNat 9), .int .i64 (.ofNat 3)]),
    (3, .cells true 0 [.int .i64 (.ofNat 5), .int .i64 (.ofNat 6), .int .i64 (.ofNat 20), .int .i64 (.ofNat 21), .int .i64 (.ofNat 1), .int .i64 (.ofNat 2), .int .i64 (.ofNat 2), .int .i64 (.ofNat 3), .int .i64 (.ofNat 1), .int .i64 (.ofNat 3), .int .i64 (.ofNat 5), .int .i64 (.ofNat 8), .int .i64 (.ofNat 8), .int .i64 (.ofNat 18), .int .i64 (.ofNat 18), .int .i64 (.ofNat 0), .int .i64 (.ofNat 1), .int .i64 (.ofNat 1), .int .i64 (.ofNat 1), .int .i64 (.ofNat 0), .int .i64 (.ofNat 6), .int .i64 (.ofNat 7)]),
    (4, .map [] 0),
    (5, .cells true 0 [.int .i64 (.ofNat 3)])],
   [],
   .bool false⟩
theorem ve28_ok : ve28.okS EE.G = true := by kernel_rfl
theorem ve28_run : evT EE [] 1000000000 (.call ve28.f ve28.args) ve28.heap (keptK ve28) = some (.bool true) := by kernel_rfl
theorem ve28_h : ve28.holds EE := ent_run envOk (fun _ h => by cases h) _ _ ve28_ok ve28_run
-- (decani/voice.choir).inEach, 1361 steps
noncomputable def ve35 : Ent :=
  ⟨105, [.agg ⟨[.slice (some ⟨3, 0, none⟩) 2 2, .int .i64 (.ofNat 4), .slice (some ⟨4, 0, none⟩) 1 1, .map (some 5)]⟩, .int .i64 (.ofNat 0), .func (.func 80) ⟨[]⟩ ⟨[.pointer (some ⟨7, 0, none⟩)]⟩], 8,
   [(0, .dead),
    (1, .cells false 0 [.int .i64 (.negSucc 0), .int .i64 (.negSucc 0), .int .i64 (.negSucc 0), .int .i64 (.negSucc 0), .int .i64 (.negSucc 0)]),
    (2, .cells false 0 [.int .i64 (.ofNat 40), .int .i64 (.ofNat 2), .int .i64 (.ofNat 40), .int .i64 (.ofNat 2), .int .i64 (.ofNat 2), .int .i64 (.ofNat 1), .int .i64 (.ofNat 6), .int .i64 (.ofNat 2), .int .i64 (.ofNat 9), .int .i64 (.ofNat 3)]),
    (3, .cells true 0 [.int .i64 (.ofNat 5), .int .i64 (.ofNat 6), .int .i64 (.ofNat 20), .int .i64 (.ofNat 21), .int .i64 (.ofNat 1), .int .i64 (.ofNat 2), .int .i64 (.ofNat 2), .int .i64 (.ofNat 3), .int .i64 (.ofNat 1), .int .i64 (.ofNat 3), .int .i64 (.ofNat 5), .int .i64 (.ofNat 8), .int .i64 (.ofNat 8), .int .i64 (.ofNat 18), .int .i64 (.ofNat 18), .int .i64 (.ofNat 0), .int .i64 (.ofNat 1), .int .i64 (.ofNat 1), .int .i64 (.ofNat 1), .int .i64 (.ofNat 0), .int .i64 (.ofNat 6), .int .i64 (.ofNat 7)]),
    (4, .cells true 0 [.int .i64 (.ofNat 0), .int .i64 (.ofNat 3), .int .i64 (.ofNat 15), .int .i64 (.ofNat 0)]),
    (5, .map [⟨.agg ⟨[.int .i64 (.ofNat 0), .int .i64 (.ofNat 3)]⟩, .slice (some ⟨6, 0, none⟩) 1 18446744073709551616, 0⟩] 1),
    (6, .cells true 5 [.int .i64 (.ofNat 0), .int .i64 (.ofNat 3), .int .i64 (.ofNat 15), .int .i64 (.ofNat 0)]),
    (7, .cells true 0 [.int .i64 (.ofNat 2)])],
   [],
   .bool false⟩
theorem ve35_ok : ve35.okS EE.G = true := by kernel_rfl
theorem ve35_run : evT EE [] 1000000000 (.call ve35.f ve35.args) ve35.heap (keptK ve35) = some (.bool true) := by kernel_rfl
theorem ve35_h : ve35.holds EE := ent_run envOk (fun _ h => by cases h) _ _ ve35_ok ve35_run
-- (decani/voice.choir).inEach, 1281 steps
noncomputable def ve40 : Ent :=
  ⟨105, [.agg ⟨[.slice (some ⟨3, 0, none⟩) 2 2, .int .i64 (.ofNat 4), .slice (some ⟨4, 0, none⟩) 1 1, .map (some 5)]⟩, .int .i64 (.ofNat 1), .func (.func 107) ⟨[]⟩ ⟨[.pointer (some ⟨7, 0, none⟩), .pointer (some ⟨8, 0, none⟩)]⟩], 9,
   [(0, .dead),
    (1, .cells false 0 [.int .i64 (.negSucc 0), .int .i64 (.negSucc 0), .int .i64 (.negSucc 0), .int .i64 (.negSucc 0), .int .i64 (.negSucc 0)]),
    (2, .cells false 0 [.int .i64 (.ofNat 40), .int .i64 (.ofNat 2), .int .i64 (.ofNat 40), .int .i64 (.ofNat 2), .int .i64 (.ofNat 2), .int .i64 (.ofNat 1), .int .i64 (.ofNat 6), .int .i64 (.ofNat 2), .int .i64 (.ofNat 9), .int .i64 (.ofNat 3)]),
    (3, .cells true 0 [.int .i64 (.ofNat 5), .int .i64 (.ofNat 6), .int .i64 (.ofNat 20), .int .i64 (.ofNat 21), .int .i64 (.ofNat 1), .int .i64 (.ofNat 2), .int .i64 (.ofNat 2), .int .i64 (.ofNat 3), .int .i64 (.ofNat 1), .int .i64 (.ofNat 3), .int .i64 (.ofNat 5), .int .i64 (.ofNat 8), .int .i64 (.ofNat 8), .int .i64 (.ofNat 18), .int .i64 (.ofNat 18), .int .i64 (.ofNat 0), .int .i64 (.ofNat 1), .int .i64 (.ofNat 1), .int .i64 (.ofNat 1), .int .i64 (.ofNat 0), .int .i64 (.ofNat 6), .int .i64 (.ofNat 7)]),
    (4, .cells true 0 [.int .i64 (.ofNat 0), .int .i64 (.ofNat 3), .int .i64 (.ofNat 15), .int .i64 (.ofNat 0)]),
    (5, .map [⟨.agg ⟨[.int .i64 (.ofNat 0), .int .i64 (.ofNat 3)]⟩, .slice (some ⟨6, 0, none⟩) 1 18446744073709551616, 0⟩] 1),
    (6, .cells true 5 [.int .i64 (.ofNat 0), .int .i64 (.ofNat 3), .int .i64 (.ofNat 15), .int .i64 (.ofNat 0)]),
    (7, .cells true 0 [.int .i64 (.ofNat 0), .int .i64 (.ofNat 3)]),
    (8, .cells true 0 [.int .i64 (.ofNat 7), .int .i64 (.ofNat 18)])],
   [],
   .bool false⟩
theorem ve40_ok : ve40.okS EE.G = true := by kernel_rfl
theorem ve40_run : evT EE [] 1000000000 (.call ve40.f ve40.args) ve40.heap (keptK ve40) = some (.bool true) := by kernel_rfl
theorem ve40_h : ve40.holds EE := ent_run envOk (fun _ h => by cases h) _ _ ve40_ok ve40_run
-- (decani/voice.choir).first, 1210 steps
noncomputable def ve46 : Ent :=
  ⟨100, [.agg ⟨[.slice (some ⟨3, 0, none⟩) 2 2, .int .i64 (.ofNat 4), .slice (some ⟨4, 0, none⟩) 1 18446744073709551616, .map (some 5)]⟩, .int .i64 (.ofNat 1)], 7,
   [(0, .dead),
    (1, .cells false 0 [.int .i64 (.negSucc 0), .int .i64 (.negSucc 0), .int .i64 (.negSucc 0), .int .i64 (.negSucc 0), .int .i64 (.negSucc 0)]),
    (2, .cells false 0 [.int .i64 (.ofNat 40), .int .i64 (.ofNat 2), .int .i64 (.ofNat 40), .int .i64 (.ofNat 2), .int .i64 (.ofNat 2), .int .i64 (.ofNat 1), .int .i64 (.ofNat 6), .int .i64 (.ofNat 2), .int .i64 (.ofNat 9), .int .i64 (.ofNat 3)]),
    (3, .cells true 0 [.int .i64 (.ofNat 5), .int .i64 (.ofNat 6), .int .i64 (.ofNat 20), .int .i64 (.ofNat 21), .int .i64 (.ofNat 1), .int .i64 (.ofNat 2), .int .i64 (.ofNat 2), .int .i64 (.ofNat 3), .int .i64 (.ofNat 1), .int .i64 (.ofNat 3), .int .i64 (.ofNat 5), .int .i64 (.ofNat 8), .int .i64 (.ofNat 8), .int .i64 (.ofNat 18), .int .i64 (.ofNat 18), .int .i64 (.ofNat 0), .int .i64 (.ofNat 1), .int .i64 (.ofNat 1), .int .i64 (.ofNat 1), .int .i64 (.ofNat 0), .int .i64 (.ofNat 6), .int .i64 (.ofNat 7)]),
    (4, .cells true 5 [.int .i64 (.ofNat 0), .int .i64 (.ofNat 1), .int .i64 (.ofNat 23), .int .i64 (.ofNat 1)]),
    (5, .map [⟨.agg ⟨[.int .i64 (.ofNat 0), .int .i64 (.ofNat 1)]⟩, .slice (some ⟨6, 0, none⟩) 1 18446744073709551616, 0⟩] 1),
    (6, .cells true 5 [.int .i64 (.ofNat 0), .int .i64 (.ofNat 1), .int .i64 (.ofNat 23), .int .i64 (.ofNat 1)])],
   [],
   .agg ⟨[.int .i64 (.ofNat 8), .int .i64 (.ofNat 18), .int .i64 (.ofNat 0), .int .i64 (.ofNat 1), .int .i64 (.ofNat 6)]⟩⟩
theorem ve46_ok : ve46.okS EE.G = true := by kernel_rfl
theorem ve46_run : evT EE [] 1000000000 (.call ve46.f ve46.args) ve46.heap (keptK ve46) = some (.bool true) := by kernel_rfl
theorem ve46_h : ve46.holds EE := ent_run envOk (fun _ h => by cases h) _ _ ve46_ok ve46_run
-- (decani/voice.choir).inEach, 1009 steps
noncomputable def ve53 : Ent :=
  ⟨105, [.agg ⟨[.slice (some ⟨3, 0, none⟩) 2 2, .int .i64 (.ofNat 4), .slice none 0 0, .map (some 4)]⟩, .int .i64 (.ofNat 0), .func (.func 79) ⟨[]⟩ ⟨[.pointer (some ⟨5, 0, none⟩), .pointer (some ⟨6, 0, none⟩)]⟩], 7,
   [(0, .dead),
    (1, .cells false 0 [.int .i64 (.negSucc 0), .int .i64 (.negSucc 0), .int .i64 (.negSucc 0), .int .i64 (.negSucc 0), .int .i64 (.negSucc 0)]),
    (2, .cells false 0 [.int .i64 (.ofNat 40), .int .i64 (.ofNat 2), .int .i64 (.ofNat 40), .int .i64 (.ofNat 2), .int .i64 (.ofNat 2), .int .i64 (.ofNat 1), .int .i64 (.ofNat 6), .int .i64 (.ofNat 2), .int .i64 (.ofNat 9), .int .i64 (.ofNat 3)]),
    (3, .cells true 0 [.int .i64 (.ofNat 5), .int .i64 (.ofNat 6), .int .i64 (.ofNat 20), .int .i64 (.ofNat 21), .int .i64 (.ofNat 1), .int .i64 (.ofNat 2), .int .i64 (.ofNat 2), .int .i64 (.ofNat 3), .int .i64 (.ofNat 1), .int .i64 (.ofNat 3), .int .i64 (.ofNat 5), .int .i64 (.ofNat 8), .int .i64 (.ofNat 8), .int .i64 (.ofNat 18), .int .i64 (.ofNat 18), .int .i64 (.ofNat 0), .int .i64 (.ofNat 1), .int .i64 (.ofNat 1), .int .i64 (.ofNat 1), .int .i64 (.ofNat 0), .int .i64 (.ofNat 6), .int .i64 (.ofNat 7)]),
    (4, .map [] 0),
    (5, .cells true 0 [.int .i64 (.ofNat 3)]),
    (6, .cells true 0 [.int .i64 (.ofNat 18)])],
   [],
   .bool false⟩
theorem ve53_ok : ve53.okS EE.G = true := by kernel_rfl
theorem ve53_run : evT EE [] 1000000000 (.call ve53.f ve53.args) ve53.heap (keptK ve53) = some (.bool true) := by kernel_rfl
theorem ve53_h : ve53.holds EE := ent_run envOk (fun _ h => by cases h) _ _ ve53_ok ve53_run
-- decani/voice.valid, 568 steps
noncomputable def ve59 : Ent :=
  ⟨86, [.agg ⟨[.slice (some ⟨3, 0, none⟩) 2 2, .int .i64 (.ofNat 4), .slice none 0 0]⟩], 4,
   [(0, .dead),
    (1, .cells false 0 [.int .i64 (.negSucc 0), .int .i64 (.negSucc 0), .int .i64 (.negSucc 0), .int .i64 (.negSucc 0), .int .i64 (.negSucc 0)]),
    (2, .cells false 0 [.int .i64 (.ofNat 40), .int .i64 (.ofNat 2), .int .i64 (.ofNat 40), .int .i64 (.ofNat 2), .int .i64 (.ofNat 2), .int .i64 (.ofNat 1), .int .i64 (.ofNat 6), .int .i64 (.ofNat 2), .int .i64 (.ofNat 9), .int .i64 (.ofNat 3)]),
    (3, .cells true 0 [.int .i64 (.ofNat 5), .int .i64 (.ofNat 6), .int .i64 (.ofNat 20), .int .i64 (.ofNat 21), .int .i64 (.ofNat 1), .int .i64 (.ofNat 2), .int .i64 (.ofNat 2), .int .i64 (.ofNat 3), .int .i64 (.ofNat 1), .int .i64 (.ofNat 3), .int .i64 (.ofNat 7), .int .i64 (.ofNat 8), .int .i64 (.ofNat 8), .int .i64 (.ofNat 18), .int .i64 (.ofNat 18), .int .i64 (.ofNat 0), .int .i64 (.ofNat 1), .int .i64 (.ofNat 1), .int .i64 (.ofNat 1), .int .i64 (.ofNat 0), .int .i64 (.ofNat 6), .int .i64 (.ofNat 7)])],
   [],
   .bool false⟩
theorem ve59_ok : ve59.okS EE.G = true := by kernel_rfl
theorem ve59_run : evT EE [] 1000000000 (.call ve59.f ve59.args) ve59.heap (keptK ve59) = some (.bool true) := by kernel_rfl
theorem ve59_h : ve59.holds EE := ent_run envOk (fun _ h => by cases h) _ _ ve59_ok ve59_run
-- decani/voice.valid, 68 steps
noncomputable def ve64 : Ent :=
  ⟨86, [.agg ⟨[.slice (some ⟨3, 0, none⟩) 2 2, .int .i64 (.ofNat 7), .slice none 0 0]⟩], 4,
   [(0, .dead),
    (1, .cells false 0 [.int .i64 (.negSucc 0), .int .i64 (.negSucc 0), .int .i64 (.negSucc 0), .int .i64 (.negSucc 0), .int .i64 (.negSucc 0)]),
    (2, .cells false 0 [.int .i64 (.ofNat 40), .int .i64 (.ofNat 2), .int .i64 (.ofNat 40), .int .i64 (.ofNat 2), .int .i64 (.ofNat 2), .int .i64 (.ofNat 1), .int .i64 (.ofNat 6), .int .i64 (.ofNat 2), .int .i64 (.ofNat 9), .int .i64 (.ofNat 3)]),
    (3, .cells true 0 [.int .i64 (.ofNat 5), .int .i64 (.ofNat 6), .int .i64 (.ofNat 20), .int .i64 (.ofNat 21), .int .i64 (.ofNat 1), .int .i64 (.ofNat 2), .int .i64 (.ofNat 2), .int .i64 (.ofNat 3), .int .i64 (.ofNat 1), .int .i64 (.ofNat 3), .int .i64 (.ofNat 5), .int .i64 (.ofNat 8), .int .i64 (.ofNat 8), .int .i64 (.ofNat 18), .int .i64 (.ofNat 18), .int .i64 (.ofNat 0), .int .i64 (.ofNat 1), .int .i64 (.ofNat 1), .int .i64 (.ofNat 1), .int .i64 (.ofNat 0), .int .i64 (.ofNat 6), .int .i64 (.ofNat 7)])],
   [],
   .bool false⟩
theorem ve64_ok : ve64.okS EE.G = true := by kernel_rfl
theorem ve64_run : evT EE [] 1000000000 (.call ve64.f ve64.args) ve64.heap (keptK ve64) = some (.bool true) := by kernel_rfl
theorem ve64_h : ve64.holds EE := ent_run envOk (fun _ h => by cases h) _ _ ve64_ok ve64_run
-- decani/voice.valid, 50 steps
noncomputable def ve67 : Ent :=
  ⟨86, [.agg ⟨[.slice (some ⟨3, 0, none⟩) 5 18446744073709551616, .int .i64 (.ofNat 4), .slice none 0 0]⟩], 4,
   [(0, .dead),
    (1, .cells false 0 [.int .i64 (.negSucc 0), .int .i64 (.negSucc 0), .int .i64 (.negSucc 0), .int .i64 (.negSucc 0), .int .i64 (.negSucc 0)]),
    (2, .cells false 0 [.int .i64 (.ofNat 40), .int .i64 (.ofNat 2), .int .i64 (.ofNat 40), .int .i64 (.ofNat 2), .int .i64 (.ofNat 2), .int .i64 (.ofNat 1), .int .i64 (.ofNat 6), .int .i64 (.ofNat 2), .int .i64 (.ofNat 9), .int .i64 (.ofNat 3)]),
    (3, .cells true 12 [.int .i64 (.ofNat 5), .int .i64 (.ofNat 6), .int .i64 (.ofNat 20), .int .i64 (.ofNat 21), .int .i64 (.ofNat 1), .int .i64 (.ofNat 2), .int .i64 (.ofNat 2), .int .i64 (.ofNat 3), .int .i64 (.ofNat 1), .int .i64 (.ofNat 3), .int .i64 (.ofNat 5), .int .i64 (.ofNat 8), .int .i64 (.ofNat 8), .int .i64 (.ofNat 18), .int .i64 (.ofNat 18), .int .i64 (.ofNat 0), .int .i64 (.ofNat 1), .int .i64 (.ofNat 1), .int .i64 (.ofNat 1), .int .i64 (.ofNat 0), .int .i64 (.ofNat 6), .int .i64 (.ofNat 7), .int .i64 (.ofNat 0), .int .i64 (.ofNat 0), .int .i64 (.ofNat 0), .int .i64 (.ofNat 0), .int .i64 (.ofNat 0), .int .i64 (.ofNat 0), .int .i64 (.ofNat 0), .int .i64 (.ofNat 0), .int .i64 (.ofNat 0), .int .i64 (.ofNat 0), .int .i64 (.ofNat 0), .int .i64 (.ofNat 0), .int .i64 (.ofNat 0), .int .i64 (.ofNat 0), .int .i64 (.ofNat 0), .int .i64 (.ofNat 0), .int .i64 (.ofNat 0), .int .i64 (.ofNat 0), .int .i64 (.ofNat 0), .int .i64 (.ofNat 0), .int .i64 (.ofNat 0), .int .i64 (.ofNat 0), .int .i64 (.ofNat 0), .int .i64 (.ofNat 0), .int .i64 (.ofNat 0), .int .i64 (.ofNat 0), .int .i64 (.ofNat 0), .int .i64 (.ofNat 0), .int .i64 (.ofNat 0), .int .i64 (.ofNat 0), .int .i64 (.ofNat 0), .int .i64 (.ofNat 0), .int .i64 (.ofNat 0)])],
   [],
   .bool false⟩
theorem ve67_ok : ve67.okS EE.G = true := by kernel_rfl
theorem ve67_run : evT EE [] 1000000000 (.call ve67.f ve67.args) ve67.heap (keptK ve67) = some (.bool true) := by kernel_rfl
theorem ve67_h : ve67.holds EE := ent_run envOk (fun _ h => by cases h) _ _ ve67_ok ve67_run
end Go.Proofs.YtkkjbmecomoglaaDoor
