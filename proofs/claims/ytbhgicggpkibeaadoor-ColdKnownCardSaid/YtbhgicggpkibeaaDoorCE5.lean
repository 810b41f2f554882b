/- Known calls, part 5: what single calls hand back, at small heaps, by the kernel's own run of the evaluator. No conditions. -/
import Derived.Test.YtbhgicggpkibeaaDoorEnv
set_option linter.all false
namespace Go.Proofs.YtbhgicggpkibeaaDoor
open Go.Ai
set_option maxRecDepth 1000000
-- decani/cold.Clean, 10442 steps
noncomputable def ce5 : Ent :=
  ⟨26, [.agg ⟨[.int .i64 (.ofNat 4), .int .i64 (.ofNat 5), .int .i64 (.ofNat 3), .int .i64 (.ofNat 0), .int .i64 (.ofNat 1), .int .i64 (.ofNat 2), .int .i64 (.ofNat 1), .int .i64 (.ofNat 1), .slice (some ⟨4, 0, none⟩) 1 1, .int .i64 (.ofNat 2), .slice none 0 0]⟩], 5,
   [(0, .cells false 0 [.int .i64 (.negSucc 0), .int .i64 (.negSucc 0)]),
    (1, .dead),
    (2, .cells false 0 [.int .i64 (.ofNat 6), .int .i64 (.ofNat 6), .int .i64 (.ofNat 6), .int .i64 (.ofNat 6), .int .i64 (.ofNat 6)]),
    (3, .dead),
    (4, .cells true 0 [.int .i64 (.ofNat 1), .int .i64 (.ofNat 1)])],
   [(2, [.int .i64 (.ofNat 2), .int .i64 (.ofNat 3)])],
   .tuple ⟨[.slice (some ⟨5, 0, none⟩) 2 18446744073709551616, .int .i64 (.ofNat 0)]⟩⟩
theorem ce5_ok : ce5.okS EE.G = true := by kernel_rfl
theorem ce5_run : evT EE [] 1000000000 (.call ce5.f ce5.args) ce5.heap (keptK ce5) = some (.bool true) := by kernel_rfl
theorem ce5_h : ce5.holds EE := ent_run envOk (fun _ h => by cases h) _ _ ce5_ok ce5_run
-- decani/cold.Caught, 8727 steps
noncomputable def ce10 : Ent :=
  ⟨22, [.agg ⟨[.int .i64 (.ofNat 4), .int .i64 (.ofNat 5), .int .i64 (.ofNat 3), .int .i64 (.ofNat 0), .int .i64 (.ofNat 1), .int .i64 (.ofNat 2), .int .i64 (.ofNat 1), .int .i64 (.ofNat 1), .slice none 0 0, .int .i64 (.ofNat 2), .slice none 0 0]⟩, .int .i64 (.ofNat 2)], 4,
   [(0, .cells false 0 [.int .i64 (.negSucc 0), .int .i64 (.negSucc 0)]),
    (1, .dead),
    (2, .cells false 0 [.int .i64 (.ofNat 6), .int .i64 (.ofNat 6), .int .i64 (.ofNat 6), .int .i64 (.ofNat 6), .int .i64 (.ofNat 6)]),
    (3, .dead)],
   [],
   .tuple ⟨[.agg ⟨[.int .i64 (.ofNat 1), .int .i64 (.ofNat 2)]⟩, .int .i64 (.ofNat 0)]⟩⟩
theorem ce10_ok : ce10.okS EE.G = true := by kernel_rfl
theorem ce10_run : evT EE [] 1000000000 (.call ce10.f ce10.args) ce10.heap (keptK ce10) = some (.bool true) := by kernel_rfl
theorem ce10_h : ce10.holds EE := ent_run envOk (fun _ h => by cases h) _ _ ce10_ok ce10_run
-- decani/cold.Takes, 8635 steps
noncomputable def ce14 : Ent :=
  ⟨25, [.agg ⟨[.int .i64 (.ofNat 4), .int .i64 (.ofNat 5), .int .i64 (.ofNat 3), .int .i64 (.ofNat 0), .int .i64 (.ofNat 1), .int .i64 (.ofNat 2), .int .i64 (.ofNat 1), .int .i64 (.ofNat 1), .slice none 0 0, .int .i64 (.ofNat 2), .slice none 0 0]⟩, .int .i64 (.ofNat 1)], 4,
   [(0, .cells false 0 [.int .i64 (.negSucc 0), .int .i64 (.negSucc 0)]),
    (1, .dead),
    (2, .cells false 0 [.int .i64 (.ofNat 6), .int .i64 (.ofNat 6), .int .i64 (.ofNat 6), .int .i64 (.ofNat 6), .int .i64 (.ofNat 6)]),
    (3, .dead)],
   [],
   .tuple ⟨[.agg ⟨[.int .i64 (.ofNat 1), .int .i64 (.ofNat 1)]⟩, .int .i64 (.ofNat 0)]⟩⟩
theorem ce14_ok : ce14.okS EE.G = true := by kernel_rfl
theorem ce14_run : evT EE [] 1000000000 (.call ce14.f ce14.args) ce14.heap (keptK ce14) = some (.bool true) := by kernel_rfl
theorem ce14_h : ce14.holds EE := ent_run envOk (fun _ h => by cases h) _ _ ce14_ok ce14_run
-- decani/cold.From, 7279 steps
noncomputable def ce22 : Ent :=
  ⟨24, [.agg ⟨[.int .i64 (.ofNat 4), .int .i64 (.ofNat 5), .int .i64 (.ofNat 3), .int .i64 (.ofNat 0), .int .i64 (.ofNat 1), .int .i64 (.ofNat 2), .int .i64 (.ofNat 1), .int .i64 (.ofNat 1), .slice none 0 0, .int .i64 (.ofNat 2), .slice (some ⟨4, 0, none⟩) 2 2]⟩], 5,
   [(0, .cells false 0 [.int .i64 (.negSucc 0), .int .i64 (.negSucc 0)]),
    (1, .dead),
    (2, .cells false 0 [.int .i64 (.ofNat 6), .int .i64 (.ofNat 6), .int .i64 (.ofNat 6), .int .i64 (.ofNat 6), .int .i64 (.ofNat 6)]),
    (3, .dead),
    (4, .cells true 0 [.int .i64 (.ofNat 0), .int .i64 (.ofNat 1), .bool true, .int .i64 (.ofNat 2), .int .i64 (.ofNat 2), .bool true])],
   [],
   .tuple ⟨[.slice none 0 0, .int .i64 (.ofNat 32)]⟩⟩
theorem ce22_ok : ce22.okS EE.G = true := by kernel_rfl
theorem ce22_run : evT EE [] 1000000000 (.call ce22.f ce22.args) ce22.heap (keptK ce22) = some (.bool true) := by kernel_rfl
theorem ce22_h : ce22.holds EE := ent_run envOk (fun _ h => by cases h) _ _ ce22_ok ce22_run
-- decani/cold.Coughs, 834 steps
noncomputable def ce30 : Ent :=
  ⟨23, [.agg ⟨[.int .i64 (.ofNat 4), .int .i64 (.ofNat 5), .int .i64 (.ofNat 3), .int .i64 (.ofNat 0), .int .i64 (.ofNat 1), .int .i64 (.ofNat 2), .int .i64 (.ofNat 1), .int .i64 (.ofNat 1), .slice none 0 0, .int .i64 (.ofNat 2), .slice (some ⟨4, 0, none⟩) 2 2]⟩, .int .i64 (.ofNat 0), .int .i64 (.ofNat 5)], 5,
   [(0, .cells false 0 [.int .i64 (.negSucc 0), .int .i64 (.negSucc 0)]),
    (1, .dead),
    (2, .cells false 0 [.int .i64 (.ofNat 6), .int .i64 (.ofNat 6), .int .i64 (.ofNat 6), .int .i64 (.ofNat 6), .int .i64 (.ofNat 6)]),
    (3, .dead),
    (4, .cells true 0 [.int .i64 (.ofNat 0), .int .i64 (.ofNat 1), .bool true, .int .i64 (.ofNat 2), .int .i64 (.ofNat 2), .bool true])],
   [],
   .tuple ⟨[.int .i64 (.ofNat 0), .int .i64 (.ofNat 31)]⟩⟩
theorem ce30_ok : ce30.okS EE.G = true := by kernel_rfl
theorem ce30_run : evT EE [] 1000000000 (.call ce30.f ce30.args) ce30.heap (keptK ce30) = some (.bool true) := by kernel_rfl
theorem ce30_h : ce30.holds EE := ent_run envOk (fun _ h => by cases h) _ _ ce30_ok ce30_run
-- decani/cold.Ill, 807 steps
noncomputable def ce31 : Ent :=
  ⟨21, [.agg ⟨[.int .i64 (.ofNat 4), .int .i64 (.ofNat 5), .int .i64 (.ofNat 3), .int .i64 (.ofNat 0), .int .i64 (.ofNat 1), .int .i64 (.ofNat 2), .int .i64 (.ofNat 1), .int .i64 (.ofNat 1), .slice (some ⟨4, 0, none⟩) 2 18446744073709551616, .int .i64 (.ofNat 2), .slice none 0 0]⟩, .int .i64 (.negSucc 0), .int .i64 (.ofNat 0)], 5,
   [(0, .cells false 0 [.int .i64 (.negSucc 0), .int .i64 (.negSucc 0)]),
    (1, .dead),
    (2, .cells false 0 [.int .i64 (.ofNat 6), .int .i64 (.ofNat 6), .int .i64 (.ofNat 6), .int .i64 (.ofNat 6), .int .i64 (.ofNat 6)]),
    (3, .dead),
    (4, .cells true 3 [.int .i64 (.ofNat 1), .int .i64 (.ofNat 1), .int .i64 (.ofNat 1), .int .i64 (.ofNat 1)])],
   [],
   .tuple ⟨[.int .i64 (.ofNat 0), .int .i64 (.ofNat 30)]⟩⟩
theorem ce31_ok : ce31.okS EE.G = true := by kernel_rfl
theorem ce31_run : evT EE [] 1000000000 (.call ce31.f ce31.args) ce31.heap (keptK ce31) = some (.bool true) := by kernel_rfl
theorem ce31_h : ce31.holds EE := ent_run envOk (fun _ h => by cases h) _ _ ce31_ok ce31_run
-- decani/cold.Ill, 800 steps
noncomputable def ce34 : Ent :=
  ⟨21, [.agg ⟨[.int .i64 (.ofNat 4), .int .i64 (.ofNat 5), .int .i64 (.ofNat 3), .int .i64 (.ofNat 0), .int .i64 (.ofNat 1), .int .i64 (.ofNat 2), .int .i64 (.ofNat 1), .int .i64 (.ofNat 1), .slice none 0 0, .int .i64 (.ofNat 2), .slice (some ⟨4, 0, none⟩) 2 2]⟩, .int .i64 (.ofNat 4), .int .i64 (.ofNat 0)], 5,
   [(0, .cells false 0 [.int .i64 (.negSucc 0), .int .i64 (.negSucc 0)]),
    (1, .dead),
    (2, .cells false 0 [.int .i64 (.ofNat 6), .int .i64 (.ofNat 6), .int .i64 (.ofNat 6), .int .i64 (.ofNat 6), .int .i64 (.ofNat 6)]),
    (3, .dead),
    (4, .cells true 0 [.int .i64 (.ofNat 0), .int .i64 (.ofNat 1), .bool true, .int .i64 (.ofNat 2), .int .i64 (.ofNat 2), .bool true])],
   [],
   .tuple ⟨[.int .i64 (.ofNat 0), .int .i64 (.ofNat 31)]⟩⟩
theorem ce34_ok : ce34.okS EE.G = true := by kernel_rfl
theorem ce34_run : evT EE [] 1000000000 (.call ce34.f ce34.args) ce34.heap (keptK ce34) = some (.bool true) := by kernel_rfl
theorem ce34_h : ce34.holds EE := ent_run envOk (fun _ h => by cases h) _ _ ce34_ok ce34_run
-- decani/cold.Apart, 789 steps
noncomputable def ce38 : Ent :=
  ⟨27, [.agg ⟨[.int .i64 (.ofNat 4), .int .i64 (.ofNat 5), .int .i64 (.ofNat 3), .int .i64 (.ofNat 0), .int .i64 (.ofNat 1), .int .i64 (.ofNat 2), .int .i64 (.ofNat 1), .int .i64 (.ofNat 1), .slice none 0 0, .int .i64 (.ofNat 2), .slice (some ⟨4, 0, none⟩) 2 2]⟩, .int .i64 (.ofNat 5)], 5,
   [(0, .cells false 0 [.int .i64 (.negSucc 0), .int .i64 (.negSucc 0)]),
    (1, .dead),
    (2, .cells false 0 [.int .i64 (.ofNat 6), .int .i64 (.ofNat 6), .int .i64 (.ofNat 6), .int .i64 (.ofNat 6), .int .i64 (.ofNat 6)]),
    (3, .dead),
    (4, .cells true 0 [.int .i64 (.ofNat 0), .int .i64 (.ofNat 1), .bool true, .int .i64 (.ofNat 2), .int .i64 (.ofNat 2), .bool true])],
   [],
   .tuple ⟨[.slice none 0 0, .int .i64 (.ofNat 31)]⟩⟩
theorem ce38_ok : ce38.okS EE.G = true := by kernel_rfl
theorem ce38_run : evT EE [] 1000000000 (.call ce38.f ce38.args) ce38.heap (keptK ce38) = some (.bool true) := by kernel_rfl
theorem ce38_h : ce38.holds EE := ent_run envOk (fun _ h => by cases h) _ _ ce38_ok ce38_run
-- decani/cold.Right, 708 steps
noncomputable def ce45 : Ent :=
  ⟨20, [.agg ⟨[.int .i64 (.ofNat 4), .int .i64 (.ofNat 5), .int .i64 (.ofNat 3), .int .i64 (.ofNat 0), .int .i64 (.ofNat 1), .int .i64 (.ofNat 2), .int .i64 (.ofNat 1), .int .i64 (.ofNat 1), .slice (some ⟨4, 0, none⟩) 2 18446744073709551616, .int .i64 (.ofNat 2), .slice none 0 0]⟩], 5,
   [(0, .cells false 0 [.int .i64 (.negSucc 0), .int .i64 (.negSucc 0)]),
    (1, .dead),
    (2, .cells false 0 [.int .i64 (.ofNat 6), .int .i64 (.ofNat 6), .int .i64 (.ofNat 6), .int .i64 (.ofNat 6), .int .i64 (.ofNat 6)]),
    (3, .dead),
    (4, .cells true 3 [.int .i64 (.ofNat 1), .int .i64 (.ofNat 1), .int .i64 (.ofNat 1), .int .i64 (.ofNat 1)])],
   [],
   .tuple ⟨[.bool false, .int .i64 (.ofNat 30)]⟩⟩
theorem ce45_ok : ce45.okS EE.G = true := by kernel_rfl
theorem ce45_run : evT EE [] 1000000000 (.call ce45.f ce45.args) ce45.heap (keptK ce45) = some (.bool true) := by kernel_rfl
theorem ce45_h : ce45.holds EE := ent_run envOk (fun _ h => by cases h) _ _ ce45_ok ce45_run
-- decani/cold.Ill, 659 steps
noncomputable def ce53 : Ent :=
  ⟨21, [.agg ⟨[.int .i64 (.ofNat 4), .int .i64 (.ofNat 5), .int .i64 (.ofNat 3), .int .i64 (.ofNat 0), .int .i64 (.ofNat 1), .int .i64 (.ofNat 2), .int .i64 (.ofNat 1), .int .i64 (.ofNat 1), .slice none 0 0, .int .i64 (.ofNat 2), .slice (some ⟨4, 0, none⟩) 1 1]⟩, .int .i64 (.negSucc 0), .int .i64 (.ofNat 0)], 5,
   [(0, .cells false 0 [.int .i64 (.negSucc 0), .int .i64 (.negSucc 0)]),
    (1, .dead),
    (2, .cells false 0 [.int .i64 (.ofNat 6), .int .i64 (.ofNat 6), .int .i64 (.ofNat 6), .int .i64 (.ofNat 6), .int .i64 (.ofNat 6)]),
    (3, .dead),
    (4, .cells true 0 [.int .i64 (.ofNat 0), .int .i64 (.ofNat 5), .bool true])],
   [],
   .tuple ⟨[.int .i64 (.ofNat 0), .int .i64 (.ofNat 30)]⟩⟩
theorem ce53_ok : ce53.okS EE.G = true := by kernel_rfl
theorem ce53_run : evT EE [] 1000000000 (.call ce53.f ce53.args) ce53.heap (keptK ce53) = some (.bool true) := by kernel_rfl
theorem ce53_h : ce53.holds EE := ent_run envOk (fun _ h => by cases h) _ _ ce53_ok ce53_run
-- decani/cold.Coughs, 628 steps
noncomputable def ce61 : Ent :=
  ⟨23, [.agg ⟨[.int .i64 (.ofNat 4), .int .i64 (.ofNat 5), .int .i64 (.ofNat 3), .int .i64 (.ofNat 0), .int .i64 (.ofNat 1), .int .i64 (.ofNat 2), .int .i64 (.ofNat 1), .int .i64 (.ofNat 1), .slice (some ⟨4, 0, none⟩) 1 1, .int .i64 (.ofNat 2), .slice none 0 0]⟩, .int .i64 (.negSucc 0), .int .i64 (.ofNat 0)], 5,
   [(0, .cells false 0 [.int .i64 (.negSucc 0), .int .i64 (.negSucc 0)]),
    (1, .dead),
    (2, .cells false 0 [.int .i64 (.ofNat 6), .int .i64 (.ofNat 6), .int .i64 (.ofNat 6), .int .i64 (.ofNat 6), .int .i64 (.ofNat 6)]),
    (3, .dead),
    (4, .cells true 0 [.int .i64 (.ofNat 4), .int .i64 (.ofNat 1)])],
   [],
   .tuple ⟨[.int .i64 (.ofNat 0), .int .i64 (.ofNat 30)]⟩⟩
theorem ce61_ok : ce61.okS EE.G = true := by kernel_rfl
theorem ce61_run : evT EE [] 1000000000 (.call ce61.f ce61.args) ce61.heap (keptK ce61) = some (.bool true) := by kernel_rfl
theorem ce61_h : ce61.holds EE := ent_run envOk (fun _ h => by cases h) _ _ ce61_ok ce61_run
-- decani/cold.Clean, 614 steps
noncomputable def ce69 : Ent :=
  ⟨26, [.agg ⟨[.int .i64 (.ofNat 4), .int .i64 (.ofNat 5), .int .i64 (.ofNat 3), .int .i64 (.ofNat 0), .int .i64 (.ofNat 1), .int .i64 (.ofNat 2), .int .i64 (.ofNat 1), .int .i64 (.ofNat 1), .slice (some ⟨4, 0, none⟩) 1 1, .int .i64 (.ofNat 2), .slice none 0 0]⟩], 5,
   [(0, .cells false 0 [.int .i64 (.negSucc 0), .int .i64 (.negSucc 0)]),
    (1, .dead),
    (2, .cells false 0 [.int .i64 (.ofNat 6), .int .i64 (.ofNat 6), .int .i64 (.ofNat 6), .int .i64 (.ofNat 6), .int .i64 (.ofNat 6)]),
    (3, .dead),
    (4, .cells true 0 [.int .i64 (.ofNat 1), .int .i64 (.ofNat 0)])],
   [],
   .tuple ⟨[.slice none 0 0, .int .i64 (.ofNat 30)]⟩⟩
theorem ce69_ok : ce69.okS EE.G = true := by kernel_rfl
theorem ce69_run : evT EE [] 1000000000 (.call ce69.f ce69.args) ce69.heap (keptK ce69) = some (.bool true) := by kernel_rfl
theorem ce69_h : ce69.holds EE := ent_run envOk (fun _ h => by cases h) _ _ ce69_ok ce69_run
-- decani/cold.Clean, 593 steps
noncomputable def ce77 : Ent :=
  ⟨26, [.agg ⟨[.int .i64 (.ofNat 4), .int .i64 (.ofNat 5), .int .i64 (.ofNat 3), .int .i64 (.ofNat 0), .int .i64 (.ofNat 1), .int .i64 (.ofNat 2), .int .i64 (.ofNat 1), .int .i64 (.ofNat 1), .slice none 0 0, .int .i64 (.ofNat 2), .slice (some ⟨4, 0, none⟩) 1 1]⟩], 5,
   [(0, .cells false 0 [.int .i64 (.negSucc 0), .int .i64 (.negSucc 0)]),
    (1, .dead),
    (2, .cells false 0 [.int .i64 (.ofNat 6), .int .i64 (.ofNat 6), .int .i64 (.ofNat 6), .int .i64 (.ofNat 6), .int .i64 (.ofNat 6)]),
    (3, .dead),
    (4, .cells true 0 [.int .i64 (.ofNat 0), .int .i64 (.ofNat 5), .bool true])],
   [],
   .tuple ⟨[.slice none 0 0, .int .i64 (.ofNat 30)]⟩⟩
theorem ce77_ok : ce77.okS EE.G = true := by kernel_rfl
theorem ce77_run : evT EE [] 1000000000 (.call ce77.f ce77.args) ce77.heap (keptK ce77) = some (.bool true) := by kernel_rfl
theorem ce77_h : ce77.holds EE := ent_run envOk (fun _ h => by cases h) _ _ ce77_ok ce77_run
-- decani/cold.Clean, 559 steps
noncomputable def ce85 : Ent :=
  ⟨26, [.agg ⟨[.int .i64 (.ofNat 4), .int .i64 (.ofNat 5), .int .i64 (.ofNat 3), .int .i64 (.ofNat 0), .int .i64 (.ofNat 1), .int .i64 (.ofNat 2), .int .i64 (.ofNat 1), .int .i64 (.ofNat 1), .slice none 0 0, .int .i64 (.ofNat 2), .slice (some ⟨4, 0, none⟩) 1 1]⟩], 5,
   [(0, .cells false 0 [.int .i64 (.negSucc 0), .int .i64 (.negSucc 0)]),
    (1, .dead),
    (2, .cells false 0 [.int .i64 (.ofNat 6), .int .i64 (.ofNat 6), .int .i64 (.ofNat 6), .int .i64 (.ofNat 6), .int .i64 (.ofNat 6)]),
    (3, .dead),
    (4, .cells true 0 [.int .i64 (.ofNat 4), .int .i64 (.ofNat 0), .bool true])],
   [],
   .tuple ⟨[.slice none 0 0, .int .i64 (.ofNat 30)]⟩⟩
theorem ce85_ok : ce85.okS EE.G = true := by kernel_rfl
theorem ce85_run : evT EE [] 1000000000 (.call ce85.f ce85.args) ce85.heap (keptK ce85) = some (.bool true) := by kernel_rfl
theorem ce85_h : ce85.holds EE := ent_run envOk (fun _ h => by cases h) _ _ ce85_ok ce85_run
-- decani/cold.Fits, 528 steps
noncomputable def ce93 : Ent :=
  ⟨28, [.agg ⟨[.int .i64 (.ofNat 4), .int .i64 (.ofNat 5), .int .i64 (.ofNat 3), .int .i64 (.ofNat 0), .int .i64 (.ofNat 1), .int .i64 (.ofNat 2), .int .i64 (.ofNat 1), .int .i64 (.ofNat 1), .slice none 0 0, .int .i64 (.ofNat 2), .slice (some ⟨4, 0, none⟩) 5 5]⟩, .agg ⟨[.int .i64 (.negSucc 0), .int .i64 (.ofNat 0), .bool true]⟩], 5,
   [(0, .cells false 0 [.int .i64 (.negSucc 0), .int .i64 (.negSucc 0)]),
    (1, .dead),
    (2, .cells false 0 [.int .i64 (.ofNat 6), .int .i64 (.ofNat 6), .int .i64 (.ofNat 6), .int .i64 (.ofNat 6), .int .i64 (.ofNat 6)]),
    (3, .dead),
    (4, .cells true 0 [.int .i64 (.ofNat 0), .int .i64 (.ofNat 0), .bool false, .int .i64 (.ofNat 0), .int .i64 (.ofNat 0), .bool false, .int .i64 (.ofNat 0), .int .i64 (.ofNat 0), .bool false, .int .i64 (.ofNat 0), .int .i64 (.ofNat 0), .bool false, .int .i64 (.ofNat 0), .int .i64 (.ofNat 0), .bool false])],
   [],
   .tuple ⟨[.bool false, .int .i64 (.ofNat 30)]⟩⟩
theorem ce93_ok : ce93.okS EE.G = true := by kernel_rfl
theorem ce93_run : evT EE [] 1000000000 (.call ce93.f ce93.args) ce93.heap (keptK ce93) = some (.bool true) := by kernel_rfl
theorem ce93_h : ce93.holds EE := ent_run envOk (fun _ h => by cases h) _ _ ce93_ok ce93_run
-- decani/cold.From, 468 steps
noncomputable def ce101 : Ent :=
  ⟨24, [.agg ⟨[.int .i64 (.ofNat 4), .int .i64 (.ofNat 5), .int .i64 (.ofNat 3), .int .i64 (.ofNat 0), .int .i64 (.ofNat 1), .int .i64 (.ofNat 2), .int .i64 (.ofNat 1), .int .i64 (.ofNat 1), .slice none 0 0, .int .i64 (.ofNat 2), .slice (some ⟨4, 0, none⟩) 5 5]⟩], 5,
   [(0, .cells false 0 [.int .i64 (.negSucc 0), .int .i64 (.negSucc 0)]),
    (1, .dead),
    (2, .cells false 0 [.int .i64 (.ofNat 6), .int .i64 (.ofNat 6), .int .i64 (.ofNat 6), .int .i64 (.ofNat 6), .int .i64 (.ofNat 6)]),
    (3, .dead),
    (4, .cells true 0 [.int .i64 (.ofNat 0), .int .i64 (.ofNat 0), .bool false, .int .i64 (.ofNat 0), .int .i64 (.ofNat 0), .bool false, .int .i64 (.ofNat 0), .int .i64 (.ofNat 0), .bool false, .int .i64 (.ofNat 0), .int .i64 (.ofNat 0), .bool false, .int .i64 (.ofNat 0), .int .i64 (.ofNat 0), .bool false])],
   [],
   .tuple ⟨[.slice none 0 0, .int .i64 (.ofNat 30)]⟩⟩
theorem ce101_ok : ce101.okS EE.G = true := by kernel_rfl
theorem ce101_run : evT EE [] 1000000000 (.call ce101.f ce101.args) ce101.heap (keptK ce101) = some (.bool true) := by kernel_rfl
theorem ce101_h : ce101.holds EE := ent_run envOk (fun _ h => by cases h) _ _ ce101_ok ce101_run
-- decani/cold.Apart, 446 steps
noncomputable def ce109 : Ent :=
  ⟨27, [.agg ⟨[.int .i64 (.ofNat 4), .int .i64 (.ofNat 5), .int .i64 (.ofNat 3), .int .i64 (.ofNat 0), .int .i64 (.ofNat 1), .int .i64 (.ofNat 2), .int .i64 (.ofNat 0), .int .i64 (.ofNat 0), .slice none 0 0, .int .i64 (.ofNat 2), .slice none 0 0]⟩, .int .i64 (.ofNat 0)], 4,
   [(0, .cells false 0 [.int .i64 (.negSucc 0), .int .i64 (.negSucc 0)]),
    (1, .dead),
    (2, .cells false 0 [.int .i64 (.ofNat 6), .int .i64 (.ofNat 6), .int .i64 (.ofNat 6), .int .i64 (.ofNat 6), .int .i64 (.ofNat 6)]),
    (3, .dead)],
   [],
   .tuple ⟨[.slice none 0 0, .int .i64 (.ofNat 30)]⟩⟩
theorem ce109_ok : ce109.okS EE.G = true := by kernel_rfl
theorem ce109_run : evT EE [] 1000000000 (.call ce109.f ce109.args) ce109.heap (keptK ce109) = some (.bool true) := by kernel_rfl
theorem ce109_h : ce109.holds EE := ent_run envOk (fun _ h => by cases h) _ _ ce109_ok ce109_run
-- decani/cold.Takes, 425 steps
noncomputable def ce117 : Ent :=
  ⟨25, [.agg ⟨[.int .i64 (.ofNat 4), .int .i64 (.ofNat 5), .int .i64 (.ofNat 3), .int .i64 (.ofNat 0), .int .i64 (.ofNat 1), .int .i64 (.ofNat 2), .int .i64 (.ofNat 0), .int .i64 (.ofNat 0), .slice none 0 0, .int .i64 (.ofNat 2), .slice none 0 0]⟩, .int .i64 (.ofNat 2)], 4,
   [(0, .cells false 0 [.int .i64 (.negSucc 0), .int .i64 (.negSucc 0)]),
    (1, .dead),
    (2, .cells false 0 [.int .i64 (.ofNat 6), .int .i64 (.ofNat 6), .int .i64 (.ofNat 6), .int .i64 (.ofNat 6), .int .i64 (.ofNat 6)]),
    (3, .dead)],
   [],
   .tuple ⟨[.agg ⟨[.int .i64 (.ofNat 0), .int .i64 (.ofNat 0)]⟩, .int .i64 (.ofNat 30)]⟩⟩
theorem ce117_ok : ce117.okS EE.G = true := by kernel_rfl
theorem ce117_run : evT EE [] 1000000000 (.call ce117.f ce117.args) ce117.heap (keptK ce117) = some (.bool true) := by kernel_rfl
theorem ce117_h : ce117.holds EE := ent_run envOk (fun _ h => by cases h) _ _ ce117_ok ce117_run
-- decani/cold.Coughs, 382 steps
noncomputable def ce125 : Ent :=
  ⟨23, [.agg ⟨[.int .i64 (.ofNat 4), .int .i64 (.ofNat 5), .int .i64 (.ofNat 3), .int .i64 (.ofNat 0), .int .i64 (.ofNat 1), .int .i64 (.ofNat 3), .int .i64 (.ofNat 1), .int .i64 (.ofNat 1), .slice none 0 0, .int .i64 (.ofNat 2), .slice none 0 0]⟩, .int .i64 (.negSucc 0), .int .i64 (.ofNat 0)], 4,
   [(0, .cells false 0 [.int .i64 (.negSucc 0), .int .i64 (.negSucc 0)]),
    (1, .dead),
    (2, .cells false 0 [.int .i64 (.ofNat 6), .int .i64 (.ofNat 6), .int .i64 (.ofNat 6), .int .i64 (.ofNat 6), .int .i64 (.ofNat 6)]),
    (3, .dead)],
   [],
   .tuple ⟨[.int .i64 (.ofNat 0), .int .i64 (.ofNat 30)]⟩⟩
theorem ce125_ok : ce125.okS EE.G = true := by kernel_rfl
theorem ce125_run : evT EE [] 1000000000 (.call ce125.f ce125.args) ce125.heap (keptK ce125) = some (.bool true) := by kernel_rfl
theorem ce125_h : ce125.holds EE := ent_run envOk (fun _ h => by cases h) _ _ ce125_ok ce125_run
-- decani/cold.Takes, 350 steps
noncomputable def ce133 : Ent :=
  ⟨25, [.agg ⟨[.int .i64 (.ofNat 4), .int .i64 (.ofNat 5), .int .i64 (.ofNat 3), .int .i64 (.ofNat 0), .int .i64 (.ofNat 1), .int .i64 (.ofNat 3), .int .i64 (.ofNat 1), .int .i64 (.ofNat 1), .slice none 0 0, .int .i64 (.ofNat 2), .slice none 0 0]⟩, .int .i64 (.ofNat 2)], 4,
   [(0, .cells false 0 [.int .i64 (.negSucc 0), .int .i64 (.negSucc 0)]),
    (1, .dead),
    (2, .cells false 0 [.int .i64 (.ofNat 6), .int .i64 (.ofNat 6), .int .i64 (.ofNat 6), .int .i64 (.ofNat 6), .int .i64 (.ofNat 6)]),
    (3, .dead)],
   [],
   .tuple ⟨[.agg ⟨[.int .i64 (.ofNat 0), .int .i64 (.ofNat 0)]⟩, .int .i64 (.ofNat 30)]⟩⟩
theorem ce133_ok : ce133.okS EE.G = true := by kernel_rfl
theorem ce133_run : evT EE [] 1000000000 (.call ce133.f ce133.args) ce133.heap (keptK ce133) = some (.bool true) := by kernel_rfl
theorem ce133_h : ce133.holds EE := ent_run envOk (fun _ h => by cases h) _ _ ce133_ok ce133_run
-- decani/cold.Fits, 297 steps
noncomputable def ce142 : Ent :=
  ⟨28, [.agg ⟨[.int .i64 (.ofNat 4), .int .i64 (.ofNat 5), .int .i64 (.ofNat 3), .int .i64 (.ofNat 0), .int .i64 (.ofNat 1), .int .i64 (.ofNat 2), .int .i64 (.ofNat 1), .int .i64 (.ofNat 1), .slice none 0 0, .int .i64 (.ofNat 4), .slice none 0 0]⟩, .agg ⟨[.int .i64 (.negSucc 0), .int .i64 (.ofNat 0), .bool true]⟩], 4,
   [(0, .cells false 0 [.int .i64 (.negSucc 0), .int .i64 (.negSucc 0)]),
    (1, .dead),
    (2, .cells false 0 [.int .i64 (.ofNat 6), .int .i64 (.ofNat 6), .int .i64 (.ofNat 6), .int .i64 (.ofNat 6), .int .i64 (.ofNat 6)]),
    (3, .dead)],
   [],
   .tuple ⟨[.bool false, .int .i64 (.ofNat 30)]⟩⟩
theorem ce142_ok : ce142.okS EE.G = true := by kernel_rfl
theorem ce142_run : evT EE [] 1000000000 (.call ce142.f ce142.args) ce142.heap (keptK ce142) = some (.bool true) := by kernel_rfl
theorem ce142_h : ce142.holds EE := ent_run envOk (fun _ h => by cases h) _ _ ce142_ok ce142_run
-- decani/cold.Wrong, 283 steps
noncomputable def ce149 : Ent :=
  ⟨29, [.agg ⟨[.int .i64 (.ofNat 4), .int .i64 (.ofNat 5), .int .i64 (.ofNat 3), .int .i64 (.ofNat 0), .int .i64 (.ofNat 1), .int .i64 (.ofNat 3), .int .i64 (.ofNat 1), .int .i64 (.ofNat 1), .slice none 0 0, .int .i64 (.ofNat 2), .slice none 0 0]⟩], 4,
   [(0, .cells false 0 [.int .i64 (.negSucc 0), .int .i64 (.negSucc 0)]),
    (1, .dead),
    (2, .cells false 0 [.int .i64 (.ofNat 6), .int .i64 (.ofNat 6), .int .i64 (.ofNat 6), .int .i64 (.ofNat 6), .int .i64 (.ofNat 6)]),
    (3, .dead)],
   [],
   .tuple ⟨[.slice none 0 0, .int .i64 (.ofNat 30)]⟩⟩
theorem ce149_ok : ce149.okS EE.G = true := by kernel_rfl
theorem ce149_run : evT EE [] 1000000000 (.call ce149.f ce149.args) ce149.heap (keptK ce149) = some (.bool true) := by kernel_rfl
theorem ce149_h : ce149.holds EE := ent_run envOk (fun _ h => by cases h) _ _ ce149_ok ce149_run
-- decani/cold.Check, 256 steps
noncomputable def ce157 : Ent :=
  ⟨30, [.agg ⟨[.int .i64 (.ofNat 4), .int .i64 (.ofNat 5), .int .i64 (.ofNat 3), .int .i64 (.ofNat 0), .int .i64 (.ofNat 1), .int .i64 (.ofNat 3), .int .i64 (.ofNat 1), .int .i64 (.ofNat 1), .slice none 0 0, .int .i64 (.ofNat 2), .slice none 0 0]⟩], 4,
   [(0, .cells false 0 [.int .i64 (.negSucc 0), .int .i64 (.negSucc 0)]),
    (1, .dead),
    (2, .cells false 0 [.int .i64 (.ofNat 6), .int .i64 (.ofNat 6), .int .i64 (.ofNat 6), .int .i64 (.ofNat 6), .int .i64 (.ofNat 6)]),
    (3, .dead)],
   [],
   .int .i64 (.ofNat 30)⟩
theorem ce157_ok : ce157.okS EE.G = true := by kernel_rfl
theorem ce157_run : evT EE [] 1000000000 (.call ce157.f ce157.args) ce157.heap (keptK ce157) = some (.bool true) := by kernel_rfl
theorem ce157_h : ce157.holds EE := ent_run envOk (fun _ h => by cases h) _ _ ce157_ok ce157_run
-- decani/cold.Fits, 245 steps
noncomputable def ce167 : Ent :=
  ⟨28, [.agg ⟨[.int .i64 (.ofNat 4), .int .i64 (.ofNat 5), .int .i64 (.ofNat 16), .int .i64 (.ofNat 0), .int .i64 (.ofNat 1), .int .i64 (.ofNat 2), .int .i64 (.ofNat 1), .int .i64 (.ofNat 1), .slice none 0 0, .int .i64 (.ofNat 2), .slice none 0 0]⟩, .agg ⟨[.int .i64 (.negSucc 0), .int .i64 (.ofNat 0), .bool true]⟩], 4,
   [(0, .cells false 0 [.int .i64 (.negSucc 0), .int .i64 (.negSucc 0)]),
    (1, .dead),
    (2, .cells false 0 [.int .i64 (.ofNat 6), .int .i64 (.ofNat 6), .int .i64 (.ofNat 6), .int .i64 (.ofNat 6), .int .i64 (.ofNat 6)]),
    (3, .dead)],
   [],
   .tuple ⟨[.bool false, .int .i64 (.ofNat 30)]⟩⟩
theorem ce167_ok : ce167.okS EE.G = true := by kernel_rfl
theorem ce167_run : evT EE [] 1000000000 (.call ce167.f ce167.args) ce167.heap (keptK ce167) = some (.bool true) := by kernel_rfl
theorem ce167_h : ce167.holds EE := ent_run envOk (fun _ h => by cases h) _ _ ce167_ok ce167_run
-- decani/cold.Caught, 224 steps
noncomputable def ce175 : Ent :=
  ⟨22, [.agg ⟨[.int .i64 (.ofNat 1), .int .i64 (.ofNat 5), .int .i64 (.ofNat 3), .int .i64 (.ofNat 0), .int .i64 (.ofNat 1), .int .i64 (.ofNat 2), .int .i64 (.ofNat 1), .int .i64 (.ofNat 1), .slice none 0 0, .int .i64 (.ofNat 2), .slice none 0 0]⟩, .int .i64 (.negSucc 0)], 4,
   [(0, .cells false 0 [.int .i64 (.negSucc 0), .int .i64 (.negSucc 0)]),
    (1, .dead),
    (2, .cells false 0 [.int .i64 (.ofNat 6), .int .i64 (.ofNat 6), .int .i64 (.ofNat 6), .int .i64 (.ofNat 6), .int .i64 (.ofNat 6)]),
    (3, .dead)],
   [],
   .tuple ⟨[.agg ⟨[.int .i64 (.ofNat 0), .int .i64 (.ofNat 0)]⟩, .int .i64 (.ofNat 30)]⟩⟩
theorem ce175_ok : ce175.okS EE.G = true := by kernel_rfl
theorem ce175_run : evT EE [] 1000000000 (.call ce175.f ce175.args) ce175.heap (keptK ce175) = some (.bool true) := by kernel_rfl
theorem ce175_h : ce175.holds EE := ent_run envOk (fun _ h => by cases h) _ _ ce175_ok ce175_run
-- decani/cold.From, 219 steps
noncomputable def ce181 : Ent :=
  ⟨24, [.agg ⟨[.int .i64 (.ofNat 4), .int .i64 (.ofNat 5), .int .i64 (.ofNat 3), .int .i64 (.ofNat 5), .int .i64 (.ofNat 1), .int .i64 (.ofNat 2), .int .i64 (.ofNat 1), .int .i64 (.ofNat 1), .slice none 0 0, .int .i64 (.ofNat 2), .slice none 0 0]⟩], 4,
   [(0, .cells false 0 [.int .i64 (.negSucc 0), .int .i64 (.negSucc 0)]),
    (1, .dead),
    (2, .cells false 0 [.int .i64 (.ofNat 6), .int .i64 (.ofNat 6), .int .i64 (.ofNat 6), .int .i64 (.ofNat 6), .int .i64 (.ofNat 6)]),
    (3, .dead)],
   [],
   .tuple ⟨[.slice none 0 0, .int .i64 (.ofNat 30)]⟩⟩
theorem ce181_ok : ce181.okS EE.G = true := by kernel_rfl
theorem ce181_run : evT EE [] 1000000000 (.call ce181.f ce181.args) ce181.heap (keptK ce181) = some (.bool true) := by kernel_rfl
theorem ce181_h : ce181.holds EE := ent_run envOk (fun _ h => by cases h) _ _ ce181_ok ce181_run
-- decani/cold.Apart, 195 steps
noncomputable def ce190 : Ent :=
  ⟨27, [.agg ⟨[.int .i64 (.ofNat 4), .int .i64 (.ofNat 7), .int .i64 (.ofNat 3), .int .i64 (.ofNat 0), .int .i64 (.ofNat 1), .int .i64 (.ofNat 2), .int .i64 (.ofNat 1), .int .i64 (.ofNat 1), .slice none 0 0, .int .i64 (.ofNat 2), .slice none 0 0]⟩, .int .i64 (.ofNat 0)], 4,
   [(0, .cells false 0 [.int .i64 (.negSucc 0), .int .i64 (.negSucc 0)]),
    (1, .dead),
    (2, .cells false 0 [.int .i64 (.ofNat 6), .int .i64 (.ofNat 6), .int .i64 (.ofNat 6), .int .i64 (.ofNat 6), .int .i64 (.ofNat 6)]),
    (3, .dead)],
   [],
   .tuple ⟨[.slice none 0 0, .int .i64 (.ofNat 30)]⟩⟩
theorem ce190_ok : ce190.okS EE.G = true := by kernel_rfl
theorem ce190_run : evT EE [] 1000000000 (.call ce190.f ce190.args) ce190.heap (keptK ce190) = some (.bool true) := by kernel_rfl
theorem ce190_h : ce190.holds EE := ent_run envOk (fun _ h => by cases h) _ _ ce190_ok ce190_run
-- decani/cold.From, 185 steps
noncomputable def ce197 : Ent :=
  ⟨24, [.agg ⟨[.int .i64 (.ofNat 1), .int .i64 (.ofNat 5), .int .i64 (.ofNat 3), .int .i64 (.ofNat 0), .int .i64 (.ofNat 1), .int .i64 (.ofNat 2), .int .i64 (.ofNat 1), .int .i64 (.ofNat 1), .slice none 0 0, .int .i64 (.ofNat 2), .slice none 0 0]⟩], 4,
   [(0, .cells false 0 [.int .i64 (.negSucc 0), .int .i64 (.negSucc 0)]),
    (1, .dead),
    (2, .cells false 0 [.int .i64 (.ofNat 6), .int .i64 (.ofNat 6), .int .i64 (.ofNat 6), .int .i64 (.ofNat 6), .int .i64 (.ofNat 6)]),
    (3, .dead)],
   [],
   .tuple ⟨[.slice none 0 0, .int .i64 (.ofNat 30)]⟩⟩
theorem ce197_ok : ce197.okS EE.G = true := by kernel_rfl
theorem ce197_run : evT EE [] 1000000000 (.call ce197.f ce197.args) ce197.heap (keptK ce197) = some (.bool true) := by kernel_rfl
theorem ce197_h : ce197.holds EE := ent_run envOk (fun _ h => by cases h) _ _ ce197_ok ce197_run
-- decani/cold.Caught, 179 steps
noncomputable def ce205 : Ent :=
  ⟨22, [.agg ⟨[.int .i64 (.ofNat 4), .int .i64 (.ofNat 7), .int .i64 (.ofNat 3), .int .i64 (.ofNat 0), .int .i64 (.ofNat 1), .int .i64 (.ofNat 2), .int .i64 (.ofNat 1), .int .i64 (.ofNat 1), .slice none 0 0, .int .i64 (.ofNat 2), .slice none 0 0]⟩, .int .i64 (.negSucc 0)], 4,
   [(0, .cells false 0 [.int .i64 (.negSucc 0), .int .i64 (.negSucc 0)]),
    (1, .dead),
    (2, .cells false 0 [.int .i64 (.ofNat 6), .int .i64 (.ofNat 6), .int .i64 (.ofNat 6), .int .i64 (.ofNat 6), .int .i64 (.ofNat 6)]),
    (3, .dead)],
   [],
   .tuple ⟨[.agg ⟨[.int .i64 (.ofNat 0), .int .i64 (.ofNat 0)]⟩, .int .i64 (.ofNat 30)]⟩⟩
theorem ce205_ok : ce205.okS EE.G = true := by kernel_rfl
theorem ce205_run : evT EE [] 1000000000 (.call ce205.f ce205.args) ce205.heap (keptK ce205) = some (.bool true) := by kernel_rfl
theorem ce205_h : ce205.holds EE := ent_run envOk (fun _ h => by cases h) _ _ ce205_ok ce205_run
-- decani/cold.Check, 159 steps
noncomputable def ce213 : Ent :=
  ⟨30, [.agg ⟨[.int .i64 (.ofNat 4), .int .i64 (.ofNat 5), .int .i64 (.ofNat 3), .int .i64 (.ofNat 5), .int .i64 (.ofNat 1), .int .i64 (.ofNat 2), .int .i64 (.ofNat 1), .int .i64 (.ofNat 1), .slice none 0 0, .int .i64 (.ofNat 2), .slice none 0 0]⟩], 4,
   [(0, .cells false 0 [.int .i64 (.negSucc 0), .int .i64 (.negSucc 0)]),
    (1, .dead),
    (2, .cells false 0 [.int .i64 (.ofNat 6), .int .i64 (.ofNat 6), .int .i64 (.ofNat 6), .int .i64 (.ofNat 6), .int .i64 (.ofNat 6)]),
    (3, .dead)],
   [],
   .int .i64 (.ofNat 30)⟩
theorem ce213_ok : ce213.okS EE.G = true := by kernel_rfl
theorem ce213_run : evT EE [] 1000000000 (.call ce213.f ce213.args) ce213.heap (keptK ce213) = some (.bool true) := by kernel_rfl
theorem ce213_h : ce213.holds EE := ent_run envOk (fun _ h => by cases h) _ _ ce213_ok ce213_run
-- decani/cold.Clean, 140 steps
noncomputable def ce223 : Ent :=
  ⟨26, [.agg ⟨[.int .i64 (.ofNat 4), .int .i64 (.ofNat 7), .int .i64 (.ofNat 3), .int .i64 (.ofNat 0), .int .i64 (.ofNat 1), .int .i64 (.ofNat 2), .int .i64 (.ofNat 1), .int .i64 (.ofNat 1), .slice none 0 0, .int .i64 (.ofNat 2), .slice none 0 0]⟩], 4,
   [(0, .cells false 0 [.int .i64 (.negSucc 0), .int .i64 (.negSucc 0)]),
    (1, .dead),
    (2, .cells false 0 [.int .i64 (.ofNat 6), .int .i64 (.ofNat 6), .int .i64 (.ofNat 6), .int .i64 (.ofNat 6), .int .i64 (.ofNat 6)]),
    (3, .dead)],
   [],
   .tuple ⟨[.slice none 0 0, .int .i64 (.ofNat 30)]⟩⟩
theorem ce223_ok : ce223.okS EE.G = true := by kernel_rfl
theorem ce223_run : evT EE [] 1000000000 (.call ce223.f ce223.args) ce223.heap (keptK ce223) = some (.bool true) := by kernel_rfl
theorem ce223_h : ce223.holds EE := ent_run envOk (fun _ h => by cases h) _ _ ce223_ok ce223_run
-- decani/cold.Clean, 122 steps
noncomputable def ce230 : Ent :=
  ⟨26, [.agg ⟨[.int .i64 (.ofNat 6), .int .i64 (.ofNat 5), .int .i64 (.ofNat 3), .int .i64 (.ofNat 0), .int .i64 (.ofNat 1), .int .i64 (.ofNat 2), .int .i64 (.ofNat 1), .int .i64 (.ofNat 1), .slice none 0 0, .int .i64 (.ofNat 2), .slice none 0 0]⟩], 4,
   [(0, .cells false 0 [.int .i64 (.negSucc 0), .int .i64 (.negSucc 0)]),
    (1, .dead),
    (2, .cells false 0 [.int .i64 (.ofNat 6), .int .i64 (.ofNat 6), .int .i64 (.ofNat 6), .int .i64 (.ofNat 6), .int .i64 (.ofNat 6)]),
    (3, .dead)],
   [],
   .tuple ⟨[.slice none 0 0, .int .i64 (.ofNat 30)]⟩⟩
theorem ce230_ok : ce230.okS EE.G = true := by kernel_rfl
theorem ce230_run : evT EE [] 1000000000 (.call ce230.f ce230.args) ce230.heap (keptK ce230) = some (.bool true) := by kernel_rfl
theorem ce230_h : ce230.holds EE := ent_run envOk (fun _ h => by cases h) _ _ ce230_ok ce230_run
-- decani/cold.Check, 62 steps
noncomputable def ce239 : Ent :=
  ⟨30, [.agg ⟨[.int .i64 (.ofNat 6), .int .i64 (.ofNat 5), .int .i64 (.ofNat 3), .int .i64 (.ofNat 0), .int .i64 (.ofNat 1), .int .i64 (.ofNat 2), .int .i64 (.ofNat 1), .int .i64 (.ofNat 1), .slice none 0 0, .int .i64 (.ofNat 2), .slice none 0 0]⟩], 4,
   [(0, .cells false 0 [.int .i64 (.negSucc 0), .int .i64 (.negSucc 0)]),
    (1, .dead),
    (2, .cells false 0 [.int .i64 (.ofNat 6), .int .i64 (.ofNat 6), .int .i64 (.ofNat 6), .int .i64 (.ofNat 6), .int .i64 (.ofNat 6)]),
    (3, .dead)],
   [],
   .int .i64 (.ofNat 30)⟩
theorem ce239_ok : ce239.okS EE.G = true := by kernel_rfl
theorem ce239_run : evT EE [] 1000000000 (.call ce239.f ce239.args) ce239.heap (keptK ce239) = some (.bool true) := by kernel_rfl
theorem ce239_h : ce239.holds EE := ent_run envOk (fun _ h => by cases h) _ _ ce239_ok ce239_run
end Go.Proofs.YtbhgicggpkibeaaDoor
