/- Known calls, part 1: what single calls hand back, at small heaps, by the kernel's own run of the evaluator. No conditions. -/
import Derived.Test.YtkkjbmecomoglaaDoorEnv
set_option linter.all false
namespace Go.Proofs.YtkkjbmecomoglaaDoor
open Go.Ai
set_option maxRecDepth 1000000
-- (decani/voice.ask).span, 37436 steps
noncomputable def ve1 : Ent :=
  ⟨72, [.agg ⟨[.func (.func 101) ⟨[]⟩ ⟨[.pointer (some ⟨3, 0, none⟩)]⟩]⟩, .agg ⟨[.slice (some ⟨4, 0, none⟩) 2 2, .int .i64 (.ofNat 4), .slice (some ⟨5, 0, none⟩) 1 1, .map (some 6)]⟩, .int .i64 (.ofNat 0)], 8,
   [(0, .dead),
    (1, .cells false 0 [.int .i64 (.negSucc 0), .int .i64 (.negSucc 0), .int .i64 (.negSucc 0), .int .i64 (.negSucc 0), .int .i64 (.negSucc 0)]),
    (2, .cells false 0 [.int .i64 (.ofNat 40), .int .i64 (.ofNat 2), .int .i64 (.ofNat 40), .int .i64 (.ofNat 2), .int .i64 (.ofNat 2), .int .i64 (.ofNat 1), .int .i64 (.ofNat 6), .int .i64 (.ofNat 2), .int .i64 (.ofNat 9), .int .i64 (.ofNat 3)]),
    (3, .cells true 0 [.int .i64 (.ofNat 4)]),
    (4, .cells true 0 [.int .i64 (.ofNat 5), .int .i64 (.ofNat 6), .int .i64 (.ofNat 20), .int .i64 (.ofNat 21), .int .i64 (.ofNat 1), .int .i64 (.ofNat 2), .int .i64 (.ofNat 2), .int .i64 (.ofNat 3), .int .i64 (.ofNat 1), .int .i64 (.ofNat 3), .int .i64 (.ofNat 5), .int .i64 (.ofNat 8), .int .i64 (.ofNat 8), .int .i64 (.ofNat 18), .int .i64 (.ofNat 18), .int .i64 (.ofNat 0), .int .i64 (.ofNat 1), .int .i64 (.ofNat 1), .int .i64 (.ofNat 1), .int .i64 (.ofNat 0), .int .i64 (.ofNat 6), .int .i64 (.ofNat 7)]),
    (5, .cells true 0 [.int .i64 (.ofNat 0), .int .i64 (.ofNat 3), .int .i64 (.ofNat 15), .int .i64 (.ofNat 0)]),
    (6, .map [⟨.agg ⟨[.int .i64 (.ofNat 0), .int .i64 (.ofNat 3)]⟩, .slice (some ⟨7, 0, none⟩) 1 18446744073709551616, 0⟩] 1),
    (7, .cells true 5 [.int .i64 (.ofNat 0), .int .i64 (.ofNat 3), .int .i64 (.ofNat 15), .int .i64 (.ofNat 0)])],
   [],
   .tuple ⟨[.agg ⟨[.int .i64 (.ofNat 3), .int .i64 (.ofNat 3)]⟩, .bool true]⟩⟩
theorem ve1_ok : ve1.okS EE.G = true := by kernel_rfl
theorem ve1_run : evT EE [] 1000000000 (.call ve1.f ve1.args) ve1.heap (keptK ve1) = some (.bool true) := by kernel_rfl
theorem ve1_h : ve1.holds EE := ent_run envOk (fun _ h => by cases h) _ _ ve1_ok ve1_run
-- (decani/voice.choir).inSome, 3318 steps
noncomputable def ve22 : Ent :=
  ⟨106, [.agg ⟨[.slice (some ⟨3, 0, none⟩) 2 2, .int .i64 (.ofNat 4), .slice (some ⟨4, 0, none⟩) 1 1, .map (some 5)]⟩, .int .i64 (.ofNat 1), .func (.func 107) ⟨[]⟩ ⟨[.pointer (some ⟨7, 0, none⟩), .pointer (some ⟨8, 0, none⟩)]⟩], 9,
   [(0, .dead),
    (1, .cells false 0 [.int .i64 (.negSucc 0), .int .i64 (.negSucc 0), .int .i64 (.negSucc 0), .int .i64 (.negSucc 0), .int .i64 (.negSucc 0)]),
    (2, .cells false 0 [.int .i64 (.ofNat 40), .int .i64 (.ofNat 2), .int .i64 (.ofNat 40), .int .i64 (.ofNat 2), .int .i64 (.ofNat 2), .int .i64 (.ofNat 1), .int .i64 (.ofNat 6), .int .i64 (.ofNat 2), .int .i64 (.ofNat 9), .int .i64 (.ofNat 3)]),
    (3, .cells true 0 [.int .i64 (.ofNat 5), .int .i64 (.ofNat 6), .int .i64 (.ofNat 20), .int .i64 (.ofNat 21), .int .i64 (.ofNat 1), .int .i64 (.ofNat 2), .int .i64 (.ofNat 2), .int .i64 (.ofNat 3), .int .i64 (.ofNat 1), .int .i64 (.ofNat 3), .int .i64 (.ofNat 5), .int .i64 (.ofNat 8), .int .i64 (.ofNat 8), .int .i64 (.ofNat 18), .int .i64 (.ofNat 18), .int .i64 (.ofNat 0), .int .i64 (.ofNat 1), .int .i64 (.ofNat 1), .int .i64 (.ofNat 1), .int .i64 (.ofNat 0), .int .i64 (.ofNat 6), .int .i64 (.ofNat 7)]),
    (4, .cells true 0 [.int .i64 (.ofNat 0), .int .i64 (.ofNat 3), .int .i64 (.ofNat 15), .int .i64 (.ofNat 0)]),
    (5, .map [⟨.agg ⟨[.int .i64 (.ofNat 0), .int .i64 (.ofNat 3)]⟩, .slice (some ⟨6, 0, none⟩) 1 18446744073709551616, 0⟩] 1),
    (6, .cells true 5 [.int .i64 (.ofNat 0), .int .i64 (.ofNat 3), .int .i64 (.ofNat 15), .int .i64 (.ofNat 0)]),
    (7, .cells true 0 [.int .i64 (.ofNat 0), .int .i64 (.ofNat 3)]),
    (8, .cells true 0 [.int .i64 (.ofNat 7), .int .i64 (.ofNat 18)])],
   [],
   .bool false⟩
theorem ve22_ok : ve22.okS EE.G = true := by kernel_rfl
theorem ve22_run : evT EE [] 1000000000 (.call ve22.f ve22.args) ve22.heap (keptK ve22) = some (.bool true) := by kernel_rfl
theorem ve22_h : ve22.holds EE := ent_run envOk (fun _ h => by cases h) _ _ ve22_ok ve22_run
-- (decani/voice.choir).inSome, 3182 steps
noncomputable def ve26 : Ent :=
  ⟨106, [.agg ⟨[.slice (some ⟨3, 0, none⟩) 2 2, .int .i64 (.ofNat 4), .slice (some ⟨4, 0, none⟩) 1 1, .map (some 5)]⟩, .int .i64 (.ofNat 1), .func (.func 80) ⟨[]⟩ ⟨[.pointer (some ⟨7, 0, none⟩)]⟩], 8,
   [(0, .dead),
    (1, .cells false 0 [.int .i64 (.negSucc 0), .int .i64 (.negSucc 0), .int .i64 (.negSucc 0), .int .i64 (.negSucc 0), .int .i64 (.negSucc 0)]),
    (2, .cells false 0 [.int .i64 (.ofNat 40), .int .i64 (.ofNat 2), .int .i64 (.ofNat 40), .int .i64 (.ofNat 2), .int .i64 (.ofNat 2), .int .i64 (.ofNat 1), .int .i64 (.ofNat 6), .int .i64 (.ofNat 2), .int .i64 (.ofNat 9), .int .i64 (.ofNat 3)]),
    (3, .cells true 0 [.int .i64 (.ofNat 5), .int .i64 (.ofNat 6), .int .i64 (.ofNat 20), .int .i64 (.ofNat 21), .int .i64 (.ofNat 1), .int .i64 (.ofNat 2), .int .i64 (.ofNat 2), .int .i64 (.ofNat 3), .int .i64 (.ofNat 1), .int .i64 (.ofNat 3), .int .i64 (.ofNat 5), .int .i64 (.ofNat 8), .int .i64 (.ofNat 8), .int .i64 (.ofNat 18), .int .i64 (.ofNat 18), .int .i64 (.ofNat 0), .int .i64 (.ofNat 1), .int .i64 (.ofNat 1), .int .i64 (.ofNat 1), .int .i64 (.ofNat 0), .int .i64 (.ofNat 6), .int .i64 (.ofNat 7)]),
    (4, .cells true 0 [.int .i64 (.ofNat 0), .int .i64 (.ofNat 3), .int .i64 (.ofNat 15), .int .i64 (.ofNat 0)]),
    (5, .map [⟨.agg ⟨[.int .i64 (.ofNat 0), .int .i64 (.ofNat 3)]⟩, .slice (some ⟨6, 0, none⟩) 1 18446744073709551616, 0⟩] 1),
    (6, .cells true 5 [.int .i64 (.ofNat 0), .int .i64 (.ofNat 3), .int .i64 (.ofNat 15), .int .i64 (.ofNat 0)]),
    (7, .cells true 0 [.int .i64 (.ofNat 2)])],
   [],
   .bool false⟩
theorem ve26_ok : ve26.okS EE.G = true := by kernel_rfl
theorem ve26_run : evT EE [] 1000000000 (.call ve26.f ve26.args) ve26.heap (keptK ve26) = some (.bool true) := by kernel_rfl
theorem ve26_h : ve26.holds EE := ent_run envOk (fun _ h => by cases h) _ _ ve26_ok ve26_run
-- (decani/voice.choir).inSome, 1614 steps
noncomputable def ve30 : Ent :=
  ⟨106, [.agg ⟨[.slice (some ⟨3, 0, none⟩) 2 2, .int .i64 (.ofNat 4), .slice none 0 0, .map (some 4)]⟩, .int .i64 (.ofNat 0), .func (.func 79) ⟨[]⟩ ⟨[.pointer (some ⟨5, 0, none⟩), .pointer (some ⟨6, 0, none⟩)]⟩], 7,
   [(0, .dead),
    (1, .cells false 0 [.int .i64 (.negSucc 0), .int .i64 (.negSucc 0), .int .i64 (.negSucc 0), .int .i64 (.negSucc 0), .int .i64 (.negSucc 0)]),
    (2, .cells false 0 [.int .i64 (.ofNat 40), .int .i64 (.ofNat 2), .int .i64 (.ofNat 40), .int .i64 (.ofNat 2), .int .i64 (.ofNat 2), .int .i64 (.ofNat 1), .int .i64 (.ofNat 6), .int .i64 (.ofNat 2), .int .i64 (.ofNat 9), .int .i64 (.ofNat 3)]),
    (3, .cells true 0 [.int .i64 (.ofNat 5), .int .i64 (.ofNat 6), .int .i64 (.ofNat 20), .int .i64 (.ofNat 21), .int .i64 (.ofNat 1), .int .i64 (.ofNat 2), .int .i64 (.ofNat 2), .int .i64 (.ofNat 3), .int .i64 (.ofNat 1), .int .i64 (.ofNat 3), .int .i64 (.ofNat 5), .int .i64 (.ofNat 8), .int .i64 (.ofNat 8), .int .i64 (.ofNat 18), .int .i64 (.ofNat 18), .int .i64 (.ofNat 0), .int .i64 (.ofNat 1), .int .i64 (.ofNat 1), .int .i64 (.ofNat 1), .int .i64 (.ofNat 0), .int .i64 (.ofNat 6), .int .i64 (.ofNat 7)]),
    (4, .map [] 0),
    (5, .cells true 0 [.int .i64 (.ofNat 3)]),
    (6, .cells true 0 [.int .i64 (.ofNat 18)])],
   [],
   .bool true⟩
theorem ve30_ok : ve30.okS EE.G = true := by kernel_rfl
theorem ve30_run : evT EE [] 1000000000 (.call ve30.f ve30.args) ve30.heap (keptK ve30) = some (.bool true) := by kernel_rfl
theorem ve30_h : ve30.holds EE := ent_run envOk (fun _ h => by cases h) _ _ ve30_ok ve30_run
-- (decani/voice.choir).inEach, 1395 steps
noncomputable def ve34 : Ent :=
  ⟨105, [.agg ⟨[.slice (some ⟨3, 0, none⟩) 2 2, .int .i64 (.ofNat 4), .slice (some ⟨4, 0, none⟩) 1 1, .map (some 5)]⟩, .int .i64 (.ofNat 0), .func (.func 107) ⟨[]⟩ ⟨[.pointer (some ⟨7, 0, none⟩), .pointer (some ⟨8, 0, none⟩)]⟩], 9,
   [(0, .dead),
    (1, .cells false 0 [.int .i64 (.negSucc 0), .int .i64 (.negSucc 0), .int .i64 (.negSucc 0), .int .i64 (.negSucc 0), .int .i64 (.negSucc 0)]),
    (2, .cells false 0 [.int .i64 (.ofNat 40), .int .i64 (.ofNat 2), .int .i64 (.ofNat 40), .int .i64 (.ofNat 2), .int .i64 (.ofNat 2), .int .i64 (.ofNat 1), .int .i64 (.ofNat 6), .int .i64 (.ofNat 2), .int .i64 (.ofNat 9), .int .i64 (.ofNat 3)]),
    (3, .cells true 0 [.int .i64 (.ofNat 5), .int .i64 (.ofNat 6), .int .i64 (.ofNat 20), .int .i64 (.ofNat 21), .int .i64 (.ofNat 1), .int .i64 (.ofNat 2), .int .i64 (.ofNat 2), .int .i64 (.ofNat 3), .int .i64 (.ofNat 1), .int .i64 (.ofNat 3), .int .i64 (.ofNat 5), .int .i64 (.ofNat 8), .int .i64 (.ofNat 8), .int .i64 (.ofNat 18), .int .i64 (.ofNat 18), .int .i64 (.ofNat 0), .int .i64 (.ofNat 1), .int .i64 (.ofNat 1), .int .i64 (.ofNat 1), .int .i64 (.ofNat 0), .int .i64 (.ofNat 6), .int .i64 (.ofNat 7)]),
    (4, .cells true 0 [.int .i64 (.ofNat 0), .int .i64 (.ofNat 3), .int .i64 (.ofNat 15), .int .i64 (.ofNat 0)]),
    (5, .map [⟨.agg ⟨[.int .i64 (.ofNat 0), .int .i64 (.ofNat 3)]⟩, .slice (some ⟨6, 0, none⟩) 1 18446744073709551616, 0⟩] 1),
    (6, .cells true 5 [.int .i64 (.ofNat 0), .int .i64 (.ofNat 3), .int .i64 (.ofNat 15), .int .i64 (.ofNat 0)]),
    (7, .cells true 0 [.int .i64 (.ofNat 0), .int .i64 (.ofNat 3)]),
    (8, .cells true 0 [.int .i64 (.ofNat 10), .int .i64 (.ofNat 18)])],
   [],
   .bool false⟩
theorem ve34_ok : ve34.okS EE.G = true := by kernel_rfl
theorem ve34_run : evT EE [] 1000000000 (.call ve34.f ve34.args) ve34.heap (keptK ve34) = some (.bool true) := by kernel_rfl
theorem ve34_h : ve34.holds EE := ent_run envOk (fun _ h => by cases h) _ _ ve34_ok ve34_run
-- decani/voice.valid, 1309 steps
noncomputable def ve39 : Ent :=
  ⟨86, [.agg ⟨[.slice (some ⟨3, 0, none⟩) 2 2, .int .i64 (.ofNat 4), .slice (some ⟨4, 0, none⟩) 1 1]⟩], 5,
   [(0, .dead),
    (1, .cells false 0 [.int .i64 (.negSucc 0), .int .i64 (.negSucc 0), .int .i64 (.negSucc 0), .int .i64 (.negSucc 0), .int .i64 (.negSucc 0)]),
    (2, .cells false 0 [.int .i64 (.ofNat 40), .int .i64 (.ofNat 2), .int .i64 (.ofNat 40), .int .i64 (.ofNat 2), .int .i64 (.ofNat 2), .int .i64 (.ofNat 1), .int .i64 (.ofNat 6), .int .i64 (.ofNat 2), .int .i64 (.ofNat 9), .int .i64 (.ofNat 3)]),
    (3, .cells true 0 [.int .i64 (.ofNat 5), .int .i64 (.ofNat 6), .int .i64 (.ofNat 20), .int .i64 (.ofNat 21), .int .i64 (.ofNat 1), .int .i64 (.ofNat 2), .int .i64 (.ofNat 2), .int .i64 (.ofNat 3), .int .i64 (.ofNat 1), .int .i64 (.ofNat 3), .int .i64 (.ofNat 5), .int .i64 (.ofNat 8), .int .i64 (.ofNat 8), .int .i64 (.ofNat 18), .int .i64 (.ofNat 18), .int .i64 (.ofNat 0), .int .i64 (.ofNat 1), .int .i64 (.ofNat 1), .int .i64 (.ofNat 1), .int .i64 (.ofNat 0), .int .i64 (.ofNat 6), .int .i64 (.ofNat 7)]),
    (4, .cells true 0 [.int .i64 (.ofNat 0), .int .i64 (.ofNat 0), .int .i64 (.ofNat 41), .int .i64 (.ofNat 0)])],
   [],
   .bool false⟩
theorem ve39_ok : ve39.okS EE.G = true := by kernel_rfl
theorem ve39_run : evT EE [] 1000000000 (.call ve39.f ve39.args) ve39.heap (keptK ve39) = some (.bool true) := by kernel_rfl
theorem ve39_h : ve39.holds EE := ent_run envOk (fun _ h => by cases h) _ _ ve39_ok ve39_run
-- (decani/voice.choir).first, 1210 steps
noncomputable def ve45 : Ent :=
  ⟨100, [.agg ⟨[.slice (some ⟨3, 0, none⟩) 2 2, .int .i64 (.ofNat 4), .slice (some ⟨4, 0, none⟩) 1 1, .map (some 5)]⟩, .int .i64 (.ofNat 1)], 7,
   [(0, .dead),
    (1, .cells false 0 [.int .i64 (.negSucc 0), .int .i64 (.negSucc 0), .int .i64 (.negSucc 0), .int .i64 (.negSucc 0), .int .i64 (.negSucc 0)]),
    (2, .cells false 0 [.int .i64 (.ofNat 40), .int .i64 (.ofNat 2), .int .i64 (.ofNat 40), .int .i64 (.ofNat 2), .int .i64 (.ofNat 2), .int .i64 (.ofNat 1), .int .i64 (.ofNat 6), .int .i64 (.ofNat 2), .int .i64 (.ofNat 9), .int .i64 (.ofNat 3)]),
    (3, .cells true 0 [.int .i64 (.ofNat 5), .int .i64 (.ofNat 6), .int .i64 (.ofNat 20), .int .i64 (.ofNat 21), .int .i64 (.ofNat 1), .int .i64 (.ofNat 2), .int .i64 (.ofNat 2), .int .i64 (.ofNat 3), .int .i64 (.ofNat 1), .int .i64 (.ofNat 3), .int .i64 (.ofNat 5), .int .i64 (.ofNat 8), .int .i64 (.ofNat 8), .int .i64 (.ofNat 18), .int .i64 (.ofNat 18), .int .i64 (.ofNat 0), .int .i64 (.ofNat 1), .int .i64 (.ofNat 1), .int .i64 (.ofNat 1), .int .i64 (.ofNat 0), .int .i64 (.ofNat 6), .int .i64 (.ofNat 7)]),
    (4, .cells true 0 [.int .i64 (.ofNat 0), .int .i64 (.ofNat 3), .int .i64 (.ofNat 15), .int .i64 (.ofNat 0)]),
    (5, .map [⟨.agg ⟨[.int .i64 (.ofNat 0), .int .i64 (.ofNat 3)]⟩, .slice (some ⟨6, 0, none⟩) 1 18446744073709551616, 0⟩] 1),
    (6, .cells true 5 [.int .i64 (.ofNat 0), .int .i64 (.ofNat 3), .int .i64 (.ofNat 15), .int .i64 (.ofNat 0)])],
   [],
   .agg ⟨[.int .i64 (.ofNat 8), .int .i64 (.ofNat 18), .int .i64 (.ofNat 0), .int .i64 (.ofNat 1), .int .i64 (.ofNat 6)]⟩⟩
theorem ve45_ok : ve45.okS EE.G = true := by kernel_rfl
theorem ve45_run : evT EE [] 1000000000 (.call ve45.f ve45.args) ve45.heap (keptK ve45) = some (.bool true) := by kernel_rfl
theorem ve45_h : ve45.holds EE := ent_run envOk (fun _ h => by cases h) _ _ ve45_ok ve45_run
-- (decani/voice.choir).inEach, 1009 steps
noncomputable def ve51 : Ent :=
  ⟨105, [.agg ⟨[.slice (some ⟨3, 0, none⟩) 2 2, .int .i64 (.ofNat 4), .slice none 0 0, .map (some 4)]⟩, .int .i64 (.ofNat 0), .func (.func 75) ⟨[]⟩ ⟨[.pointer (some ⟨5, 0, none⟩), .pointer (some ⟨6, 0, none⟩)]⟩], 7,
   [(0, .dead),
    (1, .cells false 0 [.int .i64 (.negSucc 0), .int .i64 (.negSucc 0), .int .i64 (.negSucc 0), .int .i64 (.negSucc 0), .int .i64 (.negSucc 0)]),
    (2, .cells false 0 [.int .i64 (.ofNat 40), .int .i64 (.ofNat 2), .int .i64 (.ofNat 40), .int .i64 (.ofNat 2), .int .i64 (.ofNat 2), .int .i64 (.ofNat 1), .int .i64 (.ofNat 6), .int .i64 (.ofNat 2), .int .i64 (.ofNat 9), .int .i64 (.ofNat 3)]),
    (3, .cells true 0 [.int .i64 (.ofNat 5), .int .i64 (.ofNat 6), .int .i64 (.ofNat 20), .int .i64 (.ofNat 21), .int .i64 (.ofNat 1), .int .i64 (.ofNat 2), .int .i64 (.ofNat 2), .int .i64 (.ofNat 3), .int .i64 (.ofNat 1), .int .i64 (.ofNat 3), .int .i64 (.ofNat 5), .int .i64 (.ofNat 8), .int .i64 (.ofNat 8), .int .i64 (.ofNat 18), .int .i64 (.ofNat 18), .int .i64 (.ofNat 0), .int .i64 (.ofNat 1), .int .i64 (.ofNat 1), .int .i64 (.ofNat 1), .int .i64 (.ofNat 0), .int .i64 (.ofNat 6), .int .i64 (.ofNat 7)]),
    (4, .map [] 0),
    (5, .cells true 0 [.int .i64 (.ofNat 3)]),
    (6, .cells true 0 [.int .i64 (.ofNat 15)])],
   [],
   .bool false⟩
theorem ve51_ok : ve51.okS EE.G = true := by kernel_rfl
theorem ve51_run : evT EE [] 1000000000 (.call ve51.f ve51.args) ve51.heap (keptK ve51) = some (.bool true) := by kernel_rfl
theorem ve51_h : ve51.holds EE := ent_run envOk (fun _ h => by cases h) _ _ ve51_ok ve51_run
-- (decani/voice.choir).first, 925 steps
noncomputable def ve56 : Ent :=
  ⟨100, [.agg ⟨[.slice (some ⟨3, 0, none⟩) 2 2, .int .i64 (.ofNat 4), .slice none 0 0, .map (some 4)]⟩, .int .i64 (.ofNat 0)], 5,
   [(0, .dead),
    (1, .cells false 0 [.int .i64 (.negSucc 0), .int .i64 (.negSucc 0), .int .i64 (.negSucc 0), .int .i64 (.negSucc 0), .int .i64 (.negSucc 0)]),
    (2, .cells false 0 [.int .i64 (.ofNat 40), .int .i64 (.ofNat 2), .int .i64 (.ofNat 40), .int .i64 (.ofNat 2), .int .i64 (.ofNat 2), .int .i64 (.ofNat 1), .int .i64 (.ofNat 6), .int .i64 (.ofNat 2), .int .i64 (.ofNat 9), .int .i64 (.ofNat 3)]),
    (3, .cells true 0 [.int .i64 (.ofNat 5), .int .i64 (.ofNat 6), .int .i64 (.ofNat 20), .int .i64 (.ofNat 21), .int .i64 (.ofNat 1), .int .i64 (.ofNat 2), .int .i64 (.ofNat 2), .int .i64 (.ofNat 3), .int .i64 (.ofNat 1), .int .i64 (.ofNat 3), .int .i64 (.ofNat 5), .int .i64 (.ofNat 8), .int .i64 (.ofNat 8), .int .i64 (.ofNat 18), .int .i64 (.ofNat 18), .int .i64 (.ofNat 0), .int .i64 (.ofNat 1), .int .i64 (.ofNat 1), .int .i64 (.ofNat 1), .int .i64 (.ofNat 0), .int .i64 (.ofNat 6), .int .i64 (.ofNat 7)]),
    (4, .map [] 0)],
   [],
   .agg ⟨[.int .i64 (.ofNat 5), .int .i64 (.ofNat 20), .int .i64 (.ofNat 1), .int .i64 (.ofNat 2), .int .i64 (.ofNat 3)]⟩⟩
theorem ve56_ok : ve56.okS EE.G = true := by kernel_rfl
theorem ve56_run : evT EE [] 1000000000 (.call ve56.f ve56.args) ve56.heap (keptK ve56) = some (.bool true) := by kernel_rfl
theorem ve56_h : ve56.holds EE := ent_run envOk (fun _ h => by cases h) _ _ ve56_ok ve56_run
-- decani/voice.valid, 310 steps
noncomputable def ve62 : Ent :=
  ⟨86, [.agg ⟨[.slice (some ⟨3, 0, none⟩) 2 2, .int .i64 (.ofNat 4), .slice none 0 0]⟩], 4,
   [(0, .dead),
    (1, .cells false 0 [.int .i64 (.negSucc 0), .int .i64 (.negSucc 0), .int .i64 (.negSucc 0), .int .i64 (.negSucc 0), .int .i64 (.negSucc 0)]),
    (2, .cells false 0 [.int .i64 (.ofNat 40), .int .i64 (.ofNat 2), .int .i64 (.ofNat 40), .int .i64 (.ofNat 2), .int .i64 (.ofNat 2), .int .i64 (.ofNat 1), .int .i64 (.ofNat 6), .int .i64 (.ofNat 2), .int .i64 (.ofNat 9), .int .i64 (.ofNat 3)]),
    (3, .cells true 0 [.int .i64 (.ofNat 5), .int .i64 (.ofNat 6), .int .i64 (.ofNat 41), .int .i64 (.ofNat 41), .int .i64 (.ofNat 1), .int .i64 (.ofNat 2), .int .i64 (.ofNat 2), .int .i64 (.ofNat 3), .int .i64 (.ofNat 1), .int .i64 (.ofNat 3), .int .i64 (.ofNat 5), .int .i64 (.ofNat 8), .int .i64 (.ofNat 8), .int .i64 (.ofNat 18), .int .i64 (.ofNat 18), .int .i64 (.ofNat 0), .int .i64 (.ofNat 1), .int .i64 (.ofNat 1), .int .i64 (.ofNat 1), .int .i64 (.ofNat 0), .int .i64 (.ofNat 6), .int .i64 (.ofNat 7)])],
   [],
   .bool false⟩
theorem ve62_ok : ve62.okS EE.G = true := by kernel_rfl
theorem ve62_run : evT EE [] 1000000000 (.call ve62.f ve62.args) ve62.heap (keptK ve62) = some (.bool true) := by kernel_rfl
theorem ve62_h : ve62.holds EE := ent_run envOk (fun _ h => by cases h) _ _ ve62_ok ve62_run
end Go.Proofs.YtkkjbmecomoglaaDoor
