/- Known calls, part 3: what single calls hand back, at small heaps, by the kernel's own run of the evaluator. No conditions. -/
import Derived.Test.YtbhgicggpkibeaaDoorEnv
set_option linter.all false
namespace Go.Proofs.YtbhgicggpkibeaaDoor
open Go.Ai
set_option maxRecDepth 1000000
-- decani/cold.From, 20688 steps
noncomputable def ce3 : Ent :=
  ⟨24, [.agg ⟨[.int .i64 (.ofNat 4), .int .i64 (.ofNat 5), .int .i64 (.ofNat 3), .int .i64 (.ofNat 0), .int .i64 (.ofNat 1), .int .i64 (.ofNat 2), .int .i64 (.ofNat 1), .int .i64 (.ofNat 1), .slice none 0 0, .int .i64 (.ofNat 2), .slice none 0 0]⟩], 4,
   [(0, .cells false 0 [.int .i64 (.negSucc 0), .int .i64 (.negSucc 0)]),
    (1, .dead),
    (2, .cells false 0 [.int .i64 (.ofNat 6), .int .i64 (.ofNat 6), .int .i64 (.ofNat 6), .int .i64 (.ofNat 6), .int .i64 (.ofNat 6)]),
    (3, .dead)],
   [(2, [.int .i64 (.ofNat 0), .int .i64 (.ofNat 1)])],
   .tuple ⟨[.slice (some ⟨4, 0, none⟩) 2 18446744073709551616, .int .i64 (.ofNat 0)]⟩⟩
theorem ce3_ok : ce3.okS EE.G = true := by kernel_rfl
theorem ce3_run : evT EE [] 1000000000 (.call ce3.f ce3.args) ce3.heap (keptK ce3) = some (.bool true) := by kernel_rfl
theorem ce3_h : ce3.holds EE := ent_run envOk (fun _ h => by cases h) _ _ ce3_ok ce3_run
-- decani/cold.Takes, 8635 steps
noncomputable def ce15 : Ent :=
  ⟨25, [.agg ⟨[.int .i64 (.ofNat 4), .int .i64 (.ofNat 5), .int .i64 (.ofNat 3), .int .i64 (.ofNat 0), .int .i64 (.ofNat 1), .int .i64 (.ofNat 2), .int .i64 (.ofNat 1), .int .i64 (.ofNat 1), .slice none 0 0, .int .i64 (.ofNat 2), .slice none 0 0]⟩, .int .i64 (.ofNat 0)], 4,
   [(0, .cells false 0 [.int .i64 (.negSucc 0), .int .i64 (.negSucc 0)]),
    (1, .dead),
    (2, .cells false 0 [.int .i64 (.ofNat 6), .int .i64 (.ofNat 6), .int .i64 (.ofNat 6), .int .i64 (.ofNat 6), .int .i64 (.ofNat 6)]),
    (3, .dead)],
   [],
   .tuple ⟨[.agg ⟨[.int .i64 (.ofNat 1), .int .i64 (.ofNat 2)]⟩, .int .i64 (.ofNat 0)]⟩⟩
theorem ce15_ok : ce15.okS EE.G = true := by kernel_rfl
theorem ce15_run : evT EE [] 1000000000 (.call ce15.f ce15.args) ce15.heap (keptK ce15) = some (.bool true) := by kernel_rfl
theorem ce15_h : ce15.holds EE := ent_run envOk (fun _ h => by cases h) _ _ ce15_ok ce15_run
-- decani/cold.Clean, 7279 steps
noncomputable def ce23 : Ent :=
  ⟨26, [.agg ⟨[.int .i64 (.ofNat 4), .int .i64 (.ofNat 5), .int .i64 (.ofNat 3), .int .i64 (.ofNat 0), .int .i64 (.ofNat 1), .int .i64 (.ofNat 2), .int .i64 (.ofNat 1), .int .i64 (.ofNat 1), .slice none 0 0, .int .i64 (.ofNat 2), .slice (some ⟨4, 0, none⟩) 2 2]⟩], 5,
   [(0, .cells false 0 [.int .i64 (.negSucc 0), .int .i64 (.negSucc 0)]),
    (1, .dead),
    (2, .cells false 0 [.int .i64 (.ofNat 6), .int .i64 (.ofNat 6), .int .i64 (.ofNat 6), .int .i64 (.ofNat 6), .int .i64 (.ofNat 6)]),
    (3, .dead),
    (4, .cells true 0 [.int .i64 (.ofNat 0), .int .i64 (.ofNat 1), .bool true, .int .i64 (.ofNat 2), .int .i64 (.ofNat 2), .bool true])],
   [],
   .tuple ⟨[.slice none 0 0, .int .i64 (.ofNat 32)]⟩⟩
theorem ce23_ok : ce23.okS EE.G = true := by kernel_rfl
theorem ce23_run : evT EE [] 1000000000 (.call ce23.f ce23.args) ce23.heap (keptK ce23) = some (.bool true) := by kernel_rfl
theorem ce23_h : ce23.holds EE := ent_run envOk (fun _ h => by cases h) _ _ ce23_ok ce23_run
-- decani/cold.Coughs, 807 steps
noncomputable def ce32 : Ent :=
  ⟨23, [.agg ⟨[.int .i64 (.ofNat 4), .int .i64 (.ofNat 5), .int .i64 (.ofNat 3), .int .i64 (.ofNat 0), .int .i64 (.ofNat 1), .int .i64 (.ofNat 2), .int .i64 (.ofNat 1), .int .i64 (.ofNat 1), .slice (some ⟨4, 0, none⟩) 2 18446744073709551616, .int .i64 (.ofNat 2), .slice none 0 0]⟩, .int .i64 (.negSucc 0), .int .i64 (.ofNat 0)], 5,
   [(0, .cells false 0 [.int .i64 (.negSucc 0), .int .i64 (.negSucc 0)]),
    (1, .dead),
    (2, .cells false 0 [.int .i64 (.ofNat 6), .int .i64 (.ofNat 6), .int .i64 (.ofNat 6), .int .i64 (.ofNat 6), .int .i64 (.ofNat 6)]),
    (3, .dead),
    (4, .cells true 3 [.int .i64 (.ofNat 1), .int .i64 (.ofNat 1), .int .i64 (.ofNat 1), .int .i64 (.ofNat 1)])],
   [],
   .tuple ⟨[.int .i64 (.ofNat 0), .int .i64 (.ofNat 30)]⟩⟩
theorem ce32_ok : ce32.okS EE.G = true := by kernel_rfl
theorem ce32_run : evT EE [] 1000000000 (.call ce32.f ce32.args) ce32.heap (keptK ce32) = some (.bool true) := by kernel_rfl
theorem ce32_h : ce32.holds EE := ent_run envOk (fun _ h => by cases h) _ _ ce32_ok ce32_run
-- decani/cold.Apart, 796 steps
noncomputable def ce35 : Ent :=
  ⟨27, [.agg ⟨[.int .i64 (.ofNat 4), .int .i64 (.ofNat 5), .int .i64 (.ofNat 3), .int .i64 (.ofNat 0), .int .i64 (.ofNat 1), .int .i64 (.ofNat 2), .int .i64 (.ofNat 1), .int .i64 (.ofNat 1), .slice (some ⟨4, 0, none⟩) 2 18446744073709551616, .int .i64 (.ofNat 2), .slice none 0 0]⟩, .int .i64 (.ofNat 0)], 5,
   [(0, .cells false 0 [.int .i64 (.negSucc 0), .int .i64 (.negSucc 0)]),
    (1, .dead),
    (2, .cells false 0 [.int .i64 (.ofNat 6), .int .i64 (.ofNat 6), .int .i64 (.ofNat 6), .int .i64 (.ofNat 6), .int .i64 (.ofNat 6)]),
    (3, .dead),
    (4, .cells true 3 [.int .i64 (.ofNat 1), .int .i64 (.ofNat 1), .int .i64 (.ofNat 1), .int .i64 (.ofNat 1)])],
   [],
   .tuple ⟨[.slice none 0 0, .int .i64 (.ofNat 30)]⟩⟩
theorem ce35_ok : ce35.okS EE.G = true := by kernel_rfl
theorem ce35_run : evT EE [] 1000000000 (.call ce35.f ce35.args) ce35.heap (keptK ce35) = some (.bool true) := by kernel_rfl
theorem ce35_h : ce35.holds EE := ent_run envOk (fun _ h => by cases h) _ _ ce35_ok ce35_run
-- decani/cold.Caught, 780 steps
noncomputable def ce39 : Ent :=
  ⟨22, [.agg ⟨[.int .i64 (.ofNat 4), .int .i64 (.ofNat 5), .int .i64 (.ofNat 3), .int .i64 (.ofNat 0), .int .i64 (.ofNat 1), .int .i64 (.ofNat 2), .int .i64 (.ofNat 1), .int .i64 (.ofNat 1), .slice (some ⟨4, 0, none⟩) 2 18446744073709551616, .int .i64 (.ofNat 2), .slice none 0 0]⟩, .int .i64 (.negSucc 0)], 5,
   [(0, .cells false 0 [.int .i64 (.negSucc 0), .int .i64 (.negSucc 0)]),
    (1, .dead),
    (2, .cells false 0 [.int .i64 (.ofNat 6), .int .i64 (.ofNat 6), .int .i64 (.ofNat 6), .int .i64 (.ofNat 6), .int .i64 (.ofNat 6)]),
    (3, .dead),
    (4, .cells true 3 [.int .i64 (.ofNat 1), .int .i64 (.ofNat 1), .int .i64 (.ofNat 1), .int .i64 (.ofNat 1)])],
   [],
   .tuple ⟨[.agg ⟨[.int .i64 (.ofNat 0), .int .i64 (.ofNat 0)]⟩, .int .i64 (.ofNat 30)]⟩⟩
theorem ce39_ok : ce39.okS EE.G = true := by kernel_rfl
theorem ce39_run : evT EE [] 1000000000 (.call ce39.f ce39.args) ce39.heap (keptK ce39) = some (.bool true) := by kernel_rfl
theorem ce39_h : ce39.holds EE := ent_run envOk (fun _ h => by cases h) _ _ ce39_ok ce39_run
-- decani/cold.Wrong, 708 steps
noncomputable def ce46 : Ent :=
  ⟨29, [.agg ⟨[.int .i64 (.ofNat 4), .int .i64 (.ofNat 5), .int .i64 (.ofNat 3), .int .i64 (.ofNat 0), .int .i64 (.ofNat 1), .int .i64 (.ofNat 2), .int .i64 (.ofNat 1), .int .i64 (.ofNat 1), .slice (some ⟨4, 0, none⟩) 2 18446744073709551616, .int .i64 (.ofNat 2), .slice none 0 0]⟩], 5,
   [(0, .cells false 0 [.int .i64 (.negSucc 0), .int .i64 (.negSucc 0)]),
    (1, .dead),
    (2, .cells false 0 [.int .i64 (.ofNat 6), .int .i64 (.ofNat 6), .int .i64 (.ofNat 6), .int .i64 (.ofNat 6), .int .i64 (.ofNat 6)]),
    (3, .dead),
    (4, .cells true 3 [.int .i64 (.ofNat 1), .int .i64 (.ofNat 1), .int .i64 (.ofNat 1), .int .i64 (.ofNat 1)])],
   [],
   .tuple ⟨[.slice none 0 0, .int .i64 (.ofNat 30)]⟩⟩
theorem ce46_ok : ce46.okS EE.G = true := by kernel_rfl
theorem ce46_run : evT EE [] 1000000000 (.call ce46.f ce46.args) ce46.heap (keptK ce46) = some (.bool true) := by kernel_rfl
theorem ce46_h : ce46.holds EE := ent_run envOk (fun _ h => by cases h) _ _ ce46_ok ce46_run
-- decani/cold.Coughs, 659 steps
noncomputable def ce54 : Ent :=
  ⟨23, [.agg ⟨[.int .i64 (.ofNat 4), .int .i64 (.ofNat 5), .int .i64 (.ofNat 3), .int .i64 (.ofNat 0), .int .i64 (.ofNat 1), .int .i64 (.ofNat 2), .int .i64 (.ofNat 1), .int .i64 (.ofNat 1), .slice none 0 0, .int .i64 (.ofNat 2), .slice (some ⟨4, 0, none⟩) 1 1]⟩, .int .i64 (.negSucc 0), .int .i64 (.ofNat 0)], 5,
   [(0, .cells false 0 [.int .i64 (.negSucc 0), .int .i64 (.negSucc 0)]),
    (1, .dead),
    (2, .cells false 0 [.int .i64 (.ofNat 6), .int .i64 (.ofNat 6), .int .i64 (.ofNat 6), .int .i64 (.ofNat 6), .int .i64 (.ofNat 6)]),
    (3, .dead),
    (4, .cells true 0 [.int .i64 (.ofNat 0), .int .i64 (.ofNat 5), .bool true])],
   [],
   .tuple ⟨[.int .i64 (.ofNat 0), .int .i64 (.ofNat 30)]⟩⟩
theorem ce54_ok : ce54.okS EE.G = true := by kernel_rfl
theorem ce54_run : evT EE [] 1000000000 (.call ce54.f ce54.args) ce54.heap (keptK ce54) = some (.bool true) := by kernel_rfl
theorem ce54_h : ce54.holds EE := ent_run envOk (fun _ h => by cases h) _ _ ce54_ok ce54_run
-- decani/cold.Takes, 627 steps
noncomputable def ce62 : Ent :=
  ⟨25, [.agg ⟨[.int .i64 (.ofNat 4), .int .i64 (.ofNat 5), .int .i64 (.ofNat 3), .int .i64 (.ofNat 0), .int .i64 (.ofNat 1), .int .i64 (.ofNat 2), .int .i64 (.ofNat 1), .int .i64 (.ofNat 1), .slice none 0 0, .int .i64 (.ofNat 2), .slice (some ⟨4, 0, none⟩) 1 1]⟩, .int .i64 (.ofNat 2)], 5,
   [(0, .cells false 0 [.int .i64 (.negSucc 0), .int .i64 (.negSucc 0)]),
    (1, .dead),
    (2, .cells false 0 [.int .i64 (.ofNat 6), .int .i64 (.ofNat 6), .int .i64 (.ofNat 6), .int .i64 (.ofNat 6), .int .i64 (.ofNat 6)]),
    (3, .dead),
    (4, .cells true 0 [.int .i64 (.ofNat 0), .int .i64 (.ofNat 5), .bool true])],
   [],
   .tuple ⟨[.agg ⟨[.int .i64 (.ofNat 0), .int .i64 (.ofNat 0)]⟩, .int .i64 (.ofNat 30)]⟩⟩
theorem ce62_ok : ce62.okS EE.G = true := by kernel_rfl
theorem ce62_run : evT EE [] 1000000000 (.call ce62.f ce62.args) ce62.heap (keptK ce62) = some (.bool true) := by kernel_rfl
theorem ce62_h : ce62.holds EE := ent_run envOk (fun _ h => by cases h) _ _ ce62_ok ce62_run
-- decani/cold.Apart, 614 steps
noncomputable def ce70 : Ent :=
  ⟨27, [.agg ⟨[.int .i64 (.ofNat 4), .int .i64 (.ofNat 5), .int .i64 (.ofNat 3), .int .i64 (.ofNat 0), .int .i64 (.ofNat 1), .int .i64 (.ofNat 2), .int .i64 (.ofNat 1), .int .i64 (.ofNat 1), .slice none 0 0, .int .i64 (.ofNat 2), .slice (some ⟨4, 0, none⟩) 1 1]⟩, .int .i64 (.ofNat 0)], 5,
   [(0, .cells false 0 [.int .i64 (.negSucc 0), .int .i64 (.negSucc 0)]),
    (1, .dead),
    (2, .cells false 0 [.int .i64 (.ofNat 6), .int .i64 (.ofNat 6), .int .i64 (.ofNat 6), .int .i64 (.ofNat 6), .int .i64 (.ofNat 6)]),
    (3, .dead),
    (4, .cells true 0 [.int .i64 (.ofNat 4), .int .i64 (.ofNat 0), .bool true])],
   [],
   .tuple ⟨[.slice none 0 0, .int .i64 (.ofNat 30)]⟩⟩
theorem ce70_ok : ce70.okS EE.G = true := by kernel_rfl
theorem ce70_run : evT EE [] 1000000000 (.call ce70.f ce70.args) ce70.heap (keptK ce70) = some (.bool true) := by kernel_rfl
theorem ce70_h : ce70.holds EE := ent_run envOk (fun _ h => by cases h) _ _ ce70_ok ce70_run
-- decani/cold.Right, 581 steps
noncomputable def ce78 : Ent :=
  ⟨20, [.agg ⟨[.int .i64 (.ofNat 4), .int .i64 (.ofNat 5), .int .i64 (.ofNat 3), .int .i64 (.ofNat 0), .int .i64 (.ofNat 1), .int .i64 (.ofNat 2), .int .i64 (.ofNat 1), .int .i64 (.ofNat 1), .slice (some ⟨4, 0, none⟩) 1 1, .int .i64 (.ofNat 2), .slice none 0 0]⟩], 5,
   [(0, .cells false 0 [.int .i64 (.negSucc 0), .int .i64 (.negSucc 0)]),
    (1, .dead),
    (2, .cells false 0 [.int .i64 (.ofNat 6), .int .i64 (.ofNat 6), .int .i64 (.ofNat 6), .int .i64 (.ofNat 6), .int .i64 (.ofNat 6)]),
    (3, .dead),
    (4, .cells true 0 [.int .i64 (.ofNat 1), .int .i64 (.ofNat 0)])],
   [],
   .tuple ⟨[.bool false, .int .i64 (.ofNat 30)]⟩⟩
theorem ce78_ok : ce78.okS EE.G = true := by kernel_rfl
theorem ce78_run : evT EE [] 1000000000 (.call ce78.f ce78.args) ce78.heap (keptK ce78) = some (.bool true) := by kernel_rfl
theorem ce78_h : ce78.holds EE := ent_run envOk (fun _ h => by cases h) _ _ ce78_ok ce78_run
-- decani/cold.Check, 554 steps
noncomputable def ce86 : Ent :=
  ⟨30, [.agg ⟨[.int .i64 (.ofNat 4), .int .i64 (.ofNat 5), .int .i64 (.ofNat 3), .int .i64 (.ofNat 0), .int .i64 (.ofNat 1), .int .i64 (.ofNat 2), .int .i64 (.ofNat 1), .int .i64 (.ofNat 1), .slice (some ⟨4, 0, none⟩) 1 1, .int .i64 (.ofNat 2), .slice none 0 0]⟩], 5,
   [(0, .cells false 0 [.int .i64 (.negSucc 0), .int .i64 (.negSucc 0)]),
    (1, .dead),
    (2, .cells false 0 [.int .i64 (.ofNat 6), .int .i64 (.ofNat 6), .int .i64 (.ofNat 6), .int .i64 (.ofNat 6), .int .i64 (.ofNat 6)]),
    (3, .dead),
    (4, .cells true 0 [.int .i64 (.ofNat 1), .int .i64 (.ofNat 0)])],
   [],
   .int .i64 (.ofNat 30)⟩
theorem ce86_ok : ce86.okS EE.G = true := by kernel_rfl
theorem ce86_run : evT EE [] 1000000000 (.call ce86.f ce86.args) ce86.heap (keptK ce86) = some (.bool true) := by kernel_rfl
theorem ce86_h : ce86.holds EE := ent_run envOk (fun _ h => by cases h) _ _ ce86_ok ce86_run
-- decani/cold.Right, 526 steps
noncomputable def ce94 : Ent :=
  ⟨20, [.agg ⟨[.int .i64 (.ofNat 4), .int .i64 (.ofNat 5), .int .i64 (.ofNat 3), .int .i64 (.ofNat 0), .int .i64 (.ofNat 1), .int .i64 (.ofNat 2), .int .i64 (.ofNat 1), .int .i64 (.ofNat 1), .slice none 0 0, .int .i64 (.ofNat 2), .slice (some ⟨4, 0, none⟩) 1 1]⟩], 5,
   [(0, .cells false 0 [.int .i64 (.negSucc 0), .int .i64 (.negSucc 0)]),
    (1, .dead),
    (2, .cells false 0 [.int .i64 (.ofNat 6), .int .i64 (.ofNat 6), .int .i64 (.ofNat 6), .int .i64 (.ofNat 6), .int .i64 (.ofNat 6)]),
    (3, .dead),
    (4, .cells true 0 [.int .i64 (.ofNat 4), .int .i64 (.ofNat 0), .bool true])],
   [],
   .tuple ⟨[.bool false, .int .i64 (.ofNat 30)]⟩⟩
theorem ce94_ok : ce94.okS EE.G = true := by kernel_rfl
theorem ce94_run : evT EE [] 1000000000 (.call ce94.f ce94.args) ce94.heap (keptK ce94) = some (.bool true) := by kernel_rfl
theorem ce94_h : ce94.holds EE := ent_run envOk (fun _ h => by cases h) _ _ ce94_ok ce94_run
-- decani/cold.Clean, 468 steps
noncomputable def ce102 : Ent :=
  ⟨26, [.agg ⟨[.int .i64 (.ofNat 4), .int .i64 (.ofNat 5), .int .i64 (.ofNat 3), .int .i64 (.ofNat 0), .int .i64 (.ofNat 1), .int .i64 (.ofNat 2), .int .i64 (.ofNat 1), .int .i64 (.ofNat 1), .slice none 0 0, .int .i64 (.ofNat 2), .slice (some ⟨4, 0, none⟩) 5 5]⟩], 5,
   [(0, .cells false 0 [.int .i64 (.negSucc 0), .int .i64 (.negSucc 0)]),
    (1, .dead),
    (2, .cells false 0 [.int .i64 (.ofNat 6), .int .i64 (.ofNat 6), .int .i64 (.ofNat 6), .int .i64 (.ofNat 6), .int .i64 (.ofNat 6)]),
    (3, .dead),
    (4, .cells true 0 [.int .i64 (.ofNat 0), .int .i64 (.ofNat 0), .bool false, .int .i64 (.ofNat 0), .int .i64 (.ofNat 0), .bool false, .int .i64 (.ofNat 0), .int .i64 (.ofNat 0), .bool false, .int .i64 (.ofNat 0), .int .i64 (.ofNat 0), .bool false, .int .i64 (.ofNat 0), .int .i64 (.ofNat 0), .bool false])],
   [],
   .tuple ⟨[.slice none 0 0, .int .i64 (.ofNat 30)]⟩⟩
theorem ce102_ok : ce102.okS EE.G = true := by kernel_rfl
theorem ce102_run : evT EE [] 1000000000 (.call ce102.f ce102.args) ce102.heap (keptK ce102) = some (.bool true) := by kernel_rfl
theorem ce102_h : ce102.holds EE := ent_run envOk (fun _ h => by cases h) _ _ ce102_ok ce102_run
-- decani/cold.Right, 435 steps
noncomputable def ce111 : Ent :=
  ⟨20, [.agg ⟨[.int .i64 (.ofNat 4), .int .i64 (.ofNat 5), .int .i64 (.ofNat 3), .int .i64 (.ofNat 0), .int .i64 (.ofNat 1), .int .i64 (.ofNat 2), .int .i64 (.ofNat 1), .int .i64 (.ofNat 1), .slice none 0 0, .int .i64 (.ofNat 2), .slice (some ⟨4, 0, none⟩) 5 5]⟩], 5,
   [(0, .cells false 0 [.int .i64 (.negSucc 0), .int .i64 (.negSucc 0)]),
    (1, .dead),
    (2, .cells false 0 [.int .i64 (.ofNat 6), .int .i64 (.ofNat 6), .int .i64 (.ofNat 6), .int .i64 (.ofNat 6), .int .i64 (.ofNat 6)]),
    (3, .dead),
    (4, .cells true 0 [.int .i64 (.ofNat 0), .int .i64 (.ofNat 0), .bool false, .int .i64 (.ofNat 0), .int .i64 (.ofNat 0), .bool false, .int .i64 (.ofNat 0), .int .i64 (.ofNat 0), .bool false, .int .i64 (.ofNat 0), .int .i64 (.ofNat 0), .bool false, .int .i64 (.ofNat 0), .int .i64 (.ofNat 0), .bool false])],
   [],
   .tuple ⟨[.bool false, .int .i64 (.ofNat 30)]⟩⟩
theorem ce111_ok : ce111.okS EE.G = true := by kernel_rfl
theorem ce111_run : evT EE [] 1000000000 (.call ce111.f ce111.args) ce111.heap (keptK ce111) = some (.bool true) := by kernel_rfl
theorem ce111_h : ce111.holds EE := ent_run envOk (fun _ h => by cases h) _ _ ce111_ok ce111_run
-- decani/cold.Takes, 425 steps
noncomputable def ce118 : Ent :=
  ⟨25, [.agg ⟨[.int .i64 (.ofNat 4), .int .i64 (.ofNat 5), .int .i64 (.ofNat 3), .int .i64 (.ofNat 0), .int .i64 (.ofNat 1), .int .i64 (.ofNat 2), .int .i64 (.ofNat 4), .int .i64 (.ofNat 4), .slice none 0 0, .int .i64 (.ofNat 2), .slice none 0 0]⟩, .int .i64 (.ofNat 2)], 4,
   [(0, .cells false 0 [.int .i64 (.negSucc 0), .int .i64 (.negSucc 0)]),
    (1, .dead),
    (2, .cells false 0 [.int .i64 (.ofNat 6), .int .i64 (.ofNat 6), .int .i64 (.ofNat 6), .int .i64 (.ofNat 6), .int .i64 (.ofNat 6)]),
    (3, .dead)],
   [],
   .tuple ⟨[.agg ⟨[.int .i64 (.ofNat 0), .int .i64 (.ofNat 0)]⟩, .int .i64 (.ofNat 30)]⟩⟩
theorem ce118_ok : ce118.okS EE.G = true := by kernel_rfl
theorem ce118_run : evT EE [] 1000000000 (.call ce118.f ce118.args) ce118.heap (keptK ce118) = some (.bool true) := by kernel_rfl
theorem ce118_h : ce118.holds EE := ent_run envOk (fun _ h => by cases h) _ _ ce118_ok ce118_run
-- decani/cold.Apart, 371 steps
noncomputable def ce127 : Ent :=
  ⟨27, [.agg ⟨[.int .i64 (.ofNat 4), .int .i64 (.ofNat 5), .int .i64 (.ofNat 3), .int .i64 (.ofNat 0), .int .i64 (.ofNat 1), .int .i64 (.ofNat 3), .int .i64 (.ofNat 1), .int .i64 (.ofNat 1), .slice none 0 0, .int .i64 (.ofNat 2), .slice none 0 0]⟩, .int .i64 (.ofNat 0)], 4,
   [(0, .cells false 0 [.int .i64 (.negSucc 0), .int .i64 (.negSucc 0)]),
    (1, .dead),
    (2, .cells false 0 [.int .i64 (.ofNat 6), .int .i64 (.ofNat 6), .int .i64 (.ofNat 6), .int .i64 (.ofNat 6), .int .i64 (.ofNat 6)]),
    (3, .dead)],
   [],
   .tuple ⟨[.slice none 0 0, .int .i64 (.ofNat 30)]⟩⟩
theorem ce127_ok : ce127.okS EE.G = true := by kernel_rfl
theorem ce127_run : evT EE [] 1000000000 (.call ce127.f ce127.args) ce127.heap (keptK ce127) = some (.bool true) := by kernel_rfl
theorem ce127_h : ce127.holds EE := ent_run envOk (fun _ h => by cases h) _ _ ce127_ok ce127_run
-- decani/cold.Check, 331 steps
noncomputable def ce135 : Ent :=
  ⟨30, [.agg ⟨[.int .i64 (.ofNat 4), .int .i64 (.ofNat 5), .int .i64 (.ofNat 3), .int .i64 (.ofNat 0), .int .i64 (.ofNat 1), .int .i64 (.ofNat 2), .int .i64 (.ofNat 4), .int .i64 (.ofNat 4), .slice none 0 0, .int .i64 (.ofNat 2), .slice none 0 0]⟩], 4,
   [(0, .cells false 0 [.int .i64 (.negSucc 0), .int .i64 (.negSucc 0)]),
    (1, .dead),
    (2, .cells false 0 [.int .i64 (.ofNat 6), .int .i64 (.ofNat 6), .int .i64 (.ofNat 6), .int .i64 (.ofNat 6), .int .i64 (.ofNat 6)]),
    (3, .dead)],
   [],
   .int .i64 (.ofNat 30)⟩
theorem ce135_ok : ce135.okS EE.G = true := by kernel_rfl
theorem ce135_run : evT EE [] 1000000000 (.call ce135.f ce135.args) ce135.heap (keptK ce135) = some (.bool true) := by kernel_rfl
theorem ce135_h : ce135.holds EE := ent_run envOk (fun _ h => by cases h) _ _ ce135_ok ce135_run
-- decani/cold.Fits, 297 steps
noncomputable def ce143 : Ent :=
  ⟨28, [.agg ⟨[.int .i64 (.ofNat 4), .int .i64 (.ofNat 5), .int .i64 (.ofNat 3), .int .i64 (.ofNat 0), .int .i64 (.ofNat 1), .int .i64 (.ofNat 2), .int .i64 (.ofNat 1), .int .i64 (.ofNat 1), .slice none 0 0, .int .i64 (.negSucc 0), .slice none 0 0]⟩, .agg ⟨[.int .i64 (.negSucc 0), .int .i64 (.ofNat 0), .bool true]⟩], 4,
   [(0, .cells false 0 [.int .i64 (.negSucc 0), .int .i64 (.negSucc 0)]),
    (1, .dead),
    (2, .cells false 0 [.int .i64 (.ofNat 6), .int .i64 (.ofNat 6), .int .i64 (.ofNat 6), .int .i64 (.ofNat 6), .int .i64 (.ofNat 6)]),
    (3, .dead)],
   [],
   .tuple ⟨[.bool false, .int .i64 (.ofNat 30)]⟩⟩
theorem ce143_ok : ce143.okS EE.G = true := by kernel_rfl
theorem ce143_run : evT EE [] 1000000000 (.call ce143.f ce143.args) ce143.heap (keptK ce143) = some (.bool true) := by kernel_rfl
theorem ce143_h : ce143.holds EE := ent_run envOk (fun _ h => by cases h) _ _ ce143_ok ce143_run
-- decani/cold.Caught, 276 steps
noncomputable def ce151 : Ent :=
  ⟨22, [.agg ⟨[.int .i64 (.ofNat 4), .int .i64 (.ofNat 5), .int .i64 (.ofNat 3), .int .i64 (.ofNat 0), .int .i64 (.ofNat 1), .int .i64 (.ofNat 2), .int .i64 (.ofNat 1), .int .i64 (.ofNat 1), .slice none 0 0, .int .i64 (.ofNat 4), .slice none 0 0]⟩, .int .i64 (.negSucc 0)], 4,
   [(0, .cells false 0 [.int .i64 (.negSucc 0), .int .i64 (.negSucc 0)]),
    (1, .dead),
    (2, .cells false 0 [.int .i64 (.ofNat 6), .int .i64 (.ofNat 6), .int .i64 (.ofNat 6), .int .i64 (.ofNat 6), .int .i64 (.ofNat 6)]),
    (3, .dead)],
   [],
   .tuple ⟨[.agg ⟨[.int .i64 (.ofNat 0), .int .i64 (.ofNat 0)]⟩, .int .i64 (.ofNat 30)]⟩⟩
theorem ce151_ok : ce151.okS EE.G = true := by kernel_rfl
theorem ce151_run : evT EE [] 1000000000 (.call ce151.f ce151.args) ce151.heap (keptK ce151) = some (.bool true) := by kernel_rfl
theorem ce151_h : ce151.holds EE := ent_run envOk (fun _ h => by cases h) _ _ ce151_ok ce151_run
-- decani/cold.Ill, 251 steps
noncomputable def ce159 : Ent :=
  ⟨21, [.agg ⟨[.int .i64 (.ofNat 1), .int .i64 (.ofNat 5), .int .i64 (.ofNat 3), .int .i64 (.ofNat 0), .int .i64 (.ofNat 1), .int .i64 (.ofNat 2), .int .i64 (.ofNat 1), .int .i64 (.ofNat 1), .slice none 0 0, .int .i64 (.ofNat 2), .slice none 0 0]⟩, .int .i64 (.negSucc 0), .int .i64 (.ofNat 0)], 4,
   [(0, .cells false 0 [.int .i64 (.negSucc 0), .int .i64 (.negSucc 0)]),
    (1, .dead),
    (2, .cells false 0 [.int .i64 (.ofNat 6), .int .i64 (.ofNat 6), .int .i64 (.ofNat 6), .int .i64 (.ofNat 6), .int .i64 (.ofNat 6)]),
    (3, .dead)],
   [],
   .tuple ⟨[.int .i64 (.ofNat 0), .int .i64 (.ofNat 30)]⟩⟩
theorem ce159_ok : ce159.okS EE.G = true := by kernel_rfl
theorem ce159_run : evT EE [] 1000000000 (.call ce159.f ce159.args) ce159.heap (keptK ce159) = some (.bool true) := by kernel_rfl
theorem ce159_h : ce159.holds EE := ent_run envOk (fun _ h => by cases h) _ _ ce159_ok ce159_run
-- decani/cold.Fits, 245 steps
noncomputable def ce166 : Ent :=
  ⟨28, [.agg ⟨[.int .i64 (.ofNat 4), .int .i64 (.ofNat 5), .int .i64 (.ofNat 0), .int .i64 (.ofNat 0), .int .i64 (.ofNat 1), .int .i64 (.ofNat 2), .int .i64 (.ofNat 1), .int .i64 (.ofNat 1), .slice none 0 0, .int .i64 (.ofNat 2), .slice none 0 0]⟩, .agg ⟨[.int .i64 (.negSucc 0), .int .i64 (.ofNat 0), .bool true]⟩], 4,
   [(0, .cells false 0 [.int .i64 (.negSucc 0), .int .i64 (.negSucc 0)]),
    (1, .dead),
    (2, .cells false 0 [.int .i64 (.ofNat 6), .int .i64 (.ofNat 6), .int .i64 (.ofNat 6), .int .i64 (.ofNat 6), .int .i64 (.ofNat 6)]),
    (3, .dead)],
   [],
   .tuple ⟨[.bool false, .int .i64 (.ofNat 30)]⟩⟩
theorem ce166_ok : ce166.okS EE.G = true := by kernel_rfl
theorem ce166_run : evT EE [] 1000000000 (.call ce166.f ce166.args) ce166.heap (keptK ce166) = some (.bool true) := by kernel_rfl
theorem ce166_h : ce166.holds EE := ent_run envOk (fun _ h => by cases h) _ _ ce166_ok ce166_run
-- decani/cold.Clean, 237 steps
noncomputable def ce174 : Ent :=
  ⟨26, [.agg ⟨[.int .i64 (.ofNat 4), .int .i64 (.ofNat 5), .int .i64 (.ofNat 3), .int .i64 (.ofNat 0), .int .i64 (.ofNat 1), .int .i64 (.ofNat 2), .int .i64 (.ofNat 1), .int .i64 (.ofNat 1), .slice none 0 0, .int .i64 (.negSucc 0), .slice none 0 0]⟩], 4,
   [(0, .cells false 0 [.int .i64 (.negSucc 0), .int .i64 (.negSucc 0)]),
    (1, .dead),
    (2, .cells false 0 [.int .i64 (.ofNat 6), .int .i64 (.ofNat 6), .int .i64 (.ofNat 6), .int .i64 (.ofNat 6), .int .i64 (.ofNat 6)]),
    (3, .dead)],
   [],
   .tuple ⟨[.slice none 0 0, .int .i64 (.ofNat 30)]⟩⟩
theorem ce174_ok : ce174.okS EE.G = true := by kernel_rfl
theorem ce174_run : evT EE [] 1000000000 (.call ce174.f ce174.args) ce174.heap (keptK ce174) = some (.bool true) := by kernel_rfl
theorem ce174_h : ce174.holds EE := ent_run envOk (fun _ h => by cases h) _ _ ce174_ok ce174_run
-- decani/cold.Ill, 206 steps
noncomputable def ce183 : Ent :=
  ⟨21, [.agg ⟨[.int .i64 (.ofNat 4), .int .i64 (.ofNat 7), .int .i64 (.ofNat 3), .int .i64 (.ofNat 0), .int .i64 (.ofNat 1), .int .i64 (.ofNat 2), .int .i64 (.ofNat 1), .int .i64 (.ofNat 1), .slice none 0 0, .int .i64 (.ofNat 2), .slice none 0 0]⟩, .int .i64 (.negSucc 0), .int .i64 (.ofNat 0)], 4,
   [(0, .cells false 0 [.int .i64 (.negSucc 0), .int .i64 (.negSucc 0)]),
    (1, .dead),
    (2, .cells false 0 [.int .i64 (.ofNat 6), .int .i64 (.ofNat 6), .int .i64 (.ofNat 6), .int .i64 (.ofNat 6), .int .i64 (.ofNat 6)]),
    (3, .dead)],
   [],
   .tuple ⟨[.int .i64 (.ofNat 0), .int .i64 (.ofNat 30)]⟩⟩
theorem ce183_ok : ce183.okS EE.G = true := by kernel_rfl
theorem ce183_run : evT EE [] 1000000000 (.call ce183.f ce183.args) ce183.heap (keptK ce183) = some (.bool true) := by kernel_rfl
theorem ce183_h : ce183.holds EE := ent_run envOk (fun _ h => by cases h) _ _ ce183_ok ce183_run
-- decani/cold.Fits, 200 steps
noncomputable def ce189 : Ent :=
  ⟨28, [.agg ⟨[.int .i64 (.ofNat 4), .int .i64 (.ofNat 7), .int .i64 (.ofNat 3), .int .i64 (.ofNat 0), .int .i64 (.ofNat 1), .int .i64 (.ofNat 2), .int .i64 (.ofNat 1), .int .i64 (.ofNat 1), .slice none 0 0, .int .i64 (.ofNat 2), .slice none 0 0]⟩, .agg ⟨[.int .i64 (.negSucc 0), .int .i64 (.ofNat 0), .bool true]⟩], 4,
   [(0, .cells false 0 [.int .i64 (.negSucc 0), .int .i64 (.negSucc 0)]),
    (1, .dead),
    (2, .cells false 0 [.int .i64 (.ofNat 6), .int .i64 (.ofNat 6), .int .i64 (.ofNat 6), .int .i64 (.ofNat 6), .int .i64 (.ofNat 6)]),
    (3, .dead)],
   [],
   .tuple ⟨[.bool false, .int .i64 (.ofNat 30)]⟩⟩
theorem ce189_ok : ce189.okS EE.G = true := by kernel_rfl
theorem ce189_run : evT EE [] 1000000000 (.call ce189.f ce189.args) ce189.heap (keptK ce189) = some (.bool true) := by kernel_rfl
theorem ce189_h : ce189.holds EE := ent_run envOk (fun _ h => by cases h) _ _ ce189_ok ce189_run
-- decani/cold.Clean, 185 steps
noncomputable def ce198 : Ent :=
  ⟨26, [.agg ⟨[.int .i64 (.ofNat 1), .int .i64 (.ofNat 5), .int .i64 (.ofNat 3), .int .i64 (.ofNat 0), .int .i64 (.ofNat 1), .int .i64 (.ofNat 2), .int .i64 (.ofNat 1), .int .i64 (.ofNat 1), .slice none 0 0, .int .i64 (.ofNat 2), .slice none 0 0]⟩], 4,
   [(0, .cells false 0 [.int .i64 (.negSucc 0), .int .i64 (.negSucc 0)]),
    (1, .dead),
    (2, .cells false 0 [.int .i64 (.ofNat 6), .int .i64 (.ofNat 6), .int .i64 (.ofNat 6), .int .i64 (.ofNat 6), .int .i64 (.ofNat 6)]),
    (3, .dead)],
   [],
   .tuple ⟨[.slice none 0 0, .int .i64 (.ofNat 30)]⟩⟩
theorem ce198_ok : ce198.okS EE.G = true := by kernel_rfl
theorem ce198_run : evT EE [] 1000000000 (.call ce198.f ce198.args) ce198.heap (keptK ce198) = some (.bool true) := by kernel_rfl
theorem ce198_h : ce198.holds EE := ent_run envOk (fun _ h => by cases h) _ _ ce198_ok ce198_run
-- decani/cold.Apart, 177 steps
noncomputable def ce206 : Ent :=
  ⟨27, [.agg ⟨[.int .i64 (.ofNat 0), .int .i64 (.ofNat 0), .int .i64 (.ofNat 0), .int .i64 (.ofNat 0), .int .i64 (.ofNat 0), .int .i64 (.ofNat 0), .int .i64 (.ofNat 0), .int .i64 (.ofNat 0), .slice none 0 0, .int .i64 (.ofNat 0), .slice none 0 0]⟩, .int .i64 (.ofNat 0)], 4,
   [(0, .cells false 0 [.int .i64 (.negSucc 0), .int .i64 (.negSucc 0)]),
    (1, .dead),
    (2, .cells false 0 [.int .i64 (.ofNat 6), .int .i64 (.ofNat 6), .int .i64 (.ofNat 6), .int .i64 (.ofNat 6), .int .i64 (.ofNat 6)]),
    (3, .dead)],
   [],
   .tuple ⟨[.slice none 0 0, .int .i64 (.ofNat 30)]⟩⟩
theorem ce206_ok : ce206.okS EE.G = true := by kernel_rfl
theorem ce206_run : evT EE [] 1000000000 (.call ce206.f ce206.args) ce206.heap (keptK ce206) = some (.bool true) := by kernel_rfl
theorem ce206_h : ce206.holds EE := ent_run envOk (fun _ h => by cases h) _ _ ce206_ok ce206_run
-- decani/cold.Takes, 156 steps
noncomputable def ce214 : Ent :=
  ⟨25, [.agg ⟨[.int .i64 (.ofNat 0), .int .i64 (.ofNat 0), .int .i64 (.ofNat 0), .int .i64 (.ofNat 0), .int .i64 (.ofNat 0), .int .i64 (.ofNat 0), .int .i64 (.ofNat 0), .int .i64 (.ofNat 0), .slice none 0 0, .int .i64 (.ofNat 0), .slice none 0 0]⟩, .int .i64 (.ofNat 2)], 4,
   [(0, .cells false 0 [.int .i64 (.negSucc 0), .int .i64 (.negSucc 0)]),
    (1, .dead),
    (2, .cells false 0 [.int .i64 (.ofNat 6), .int .i64 (.ofNat 6), .int .i64 (.ofNat 6), .int .i64 (.ofNat 6), .int .i64 (.ofNat 6)]),
    (3, .dead)],
   [],
   .tuple ⟨[.agg ⟨[.int .i64 (.ofNat 0), .int .i64 (.ofNat 0)]⟩, .int .i64 (.ofNat 30)]⟩⟩
theorem ce214_ok : ce214.okS EE.G = true := by kernel_rfl
theorem ce214_run : evT EE [] 1000000000 (.call ce214.f ce214.args) ce214.heap (keptK ce214) = some (.bool true) := by kernel_rfl
theorem ce214_h : ce214.holds EE := ent_run envOk (fun _ h => by cases h) _ _ ce214_ok ce214_run
-- decani/cold.Wrong, 152 steps
noncomputable def ce221 : Ent :=
  ⟨29, [.agg ⟨[.int .i64 (.ofNat 4), .int .i64 (.ofNat 5), .int .i64 (.ofNat 16), .int .i64 (.ofNat 0), .int .i64 (.ofNat 1), .int .i64 (.ofNat 2), .int .i64 (.ofNat 1), .int .i64 (.ofNat 1), .slice none 0 0, .int .i64 (.ofNat 2), .slice none 0 0]⟩], 4,
   [(0, .cells false 0 [.int .i64 (.negSucc 0), .int .i64 (.negSucc 0)]),
    (1, .dead),
    (2, .cells false 0 [.int .i64 (.ofNat 6), .int .i64 (.ofNat 6), .int .i64 (.ofNat 6), .int .i64 (.ofNat 6), .int .i64 (.ofNat 6)]),
    (3, .dead)],
   [],
   .tuple ⟨[.slice none 0 0, .int .i64 (.ofNat 30)]⟩⟩
theorem ce221_ok : ce221.okS EE.G = true := by kernel_rfl
theorem ce221_run : evT EE [] 1000000000 (.call ce221.f ce221.args) ce221.heap (keptK ce221) = some (.bool true) := by kernel_rfl
theorem ce221_h : ce221.holds EE := ent_run envOk (fun _ h => by cases h) _ _ ce221_ok ce221_run
-- decani/cold.Right, 107 steps
noncomputable def ce231 : Ent :=
  ⟨20, [.agg ⟨[.int .i64 (.ofNat 4), .int .i64 (.ofNat 7), .int .i64 (.ofNat 3), .int .i64 (.ofNat 0), .int .i64 (.ofNat 1), .int .i64 (.ofNat 2), .int .i64 (.ofNat 1), .int .i64 (.ofNat 1), .slice none 0 0, .int .i64 (.ofNat 2), .slice none 0 0]⟩], 4,
   [(0, .cells false 0 [.int .i64 (.negSucc 0), .int .i64 (.negSucc 0)]),
    (1, .dead),
    (2, .cells false 0 [.int .i64 (.ofNat 6), .int .i64 (.ofNat 6), .int .i64 (.ofNat 6), .int .i64 (.ofNat 6), .int .i64 (.ofNat 6)]),
    (3, .dead)],
   [],
   .tuple ⟨[.bool false, .int .i64 (.ofNat 30)]⟩⟩
theorem ce231_ok : ce231.okS EE.G = true := by kernel_rfl
theorem ce231_run : evT EE [] 1000000000 (.call ce231.f ce231.args) ce231.heap (keptK ce231) = some (.bool true) := by kernel_rfl
theorem ce231_h : ce231.holds EE := ent_run envOk (fun _ h => by cases h) _ _ ce231_ok ce231_run
-- decani/cold.Check, 80 steps
noncomputable def ce237 : Ent :=
  ⟨30, [.agg ⟨[.int .i64 (.ofNat 4), .int .i64 (.ofNat 7), .int .i64 (.ofNat 3), .int .i64 (.ofNat 0), .int .i64 (.ofNat 1), .int .i64 (.ofNat 2), .int .i64 (.ofNat 1), .int .i64 (.ofNat 1), .slice none 0 0, .int .i64 (.ofNat 2), .slice none 0 0]⟩], 4,
   [(0, .cells false 0 [.int .i64 (.negSucc 0), .int .i64 (.negSucc 0)]),
    (1, .dead),
    (2, .cells false 0 [.int .i64 (.ofNat 6), .int .i64 (.ofNat 6), .int .i64 (.ofNat 6), .int .i64 (.ofNat 6), .int .i64 (.ofNat 6)]),
    (3, .dead)],
   [],
   .int .i64 (.ofNat 30)⟩
theorem ce237_ok : ce237.okS EE.G = true := by kernel_rfl
theorem ce237_run : evT EE [] 1000000000 (.call ce237.f ce237.args) ce237.heap (keptK ce237) = some (.bool true) := by kernel_rfl
theorem ce237_h : ce237.holds EE := ent_run envOk (fun _ h => by cases h) _ _ ce237_ok ce237_run
end Go.Proofs.YtbhgicggpkibeaaDoor
