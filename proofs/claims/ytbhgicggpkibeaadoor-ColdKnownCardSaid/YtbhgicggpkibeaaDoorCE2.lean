/- Known calls, part 2: what single calls hand back, at small heaps, by the kernel's own run of the evaluator. No conditions. -/
import Derived.Test.YtbhgicggpkibeaaDoorEnv
set_option linter.all false
namespace Go.Proofs.YtbhgicggpkibeaaDoor
open Go.Ai
set_option maxRecDepth 1000000
-- decani/cold.Apart, 21918 steps
noncomputable def ce2 : Ent :=
  ⟨27, [.agg ⟨[.int .i64 (.ofNat 4), .int .i64 (.ofNat 5), .int .i64 (.ofNat 3), .int .i64 (.ofNat 0), .int .i64 (.ofNat 1), .int .i64 (.ofNat 2), .int .i64 (.ofNat 1), .int .i64 (.ofNat 1), .slice none 0 0, .int .i64 (.ofNat 2), .slice none 0 0]⟩, .int .i64 (.ofNat 1)], 4,
   [(0, .cells false 0 [.int .i64 (.negSucc 0), .int .i64 (.negSucc 0)]),
    (1, .dead),
    (2, .cells false 0 [.int .i64 (.ofNat 6), .int .i64 (.ofNat 6), .int .i64 (.ofNat 6), .int .i64 (.ofNat 6), .int .i64 (.ofNat 6)]),
    (3, .dead)],
   [(2, [.int .i64 (.ofNat 1)])],
   .tuple ⟨[.slice (some ⟨4, 0, none⟩) 1 18446744073709551616, .int .i64 (.ofNat 0)]⟩⟩
theorem ce2_ok : ce2.okS EE.G = true := by kernel_rfl
theorem ce2_run : evT EE [] 1000000000 (.call ce2.f ce2.args) ce2.heap (keptK ce2) = some (.bool true) := by kernel_rfl
theorem ce2_h : ce2.holds EE := ent_run envOk (fun _ h => by cases h) _ _ ce2_ok ce2_run
-- decani/cold.Fits, 8623 steps
noncomputable def ce16 : Ent :=
  ⟨28, [.agg ⟨[.int .i64 (.ofNat 4), .int .i64 (.ofNat 5), .int .i64 (.ofNat 3), .int .i64 (.ofNat 0), .int .i64 (.ofNat 1), .int .i64 (.ofNat 2), .int .i64 (.ofNat 1), .int .i64 (.ofNat 1), .slice none 0 0, .int .i64 (.ofNat 2), .slice none 0 0]⟩, .agg ⟨[.int .i64 (.ofNat 3), .int .i64 (.ofNat 2), .bool true]⟩], 4,
   [(0, .cells false 0 [.int .i64 (.negSucc 0), .int .i64 (.negSucc 0)]),
    (1, .dead),
    (2, .cells false 0 [.int .i64 (.ofNat 6), .int .i64 (.ofNat 6), .int .i64 (.ofNat 6), .int .i64 (.ofNat 6), .int .i64 (.ofNat 6)]),
    (3, .dead)],
   [],
   .tuple ⟨[.bool false, .int .i64 (.ofNat 0)]⟩⟩
theorem ce16_ok : ce16.okS EE.G = true := by kernel_rfl
theorem ce16_run : evT EE [] 1000000000 (.call ce16.f ce16.args) ce16.heap (keptK ce16) = some (.bool true) := by kernel_rfl
theorem ce16_h : ce16.holds EE := ent_run envOk (fun _ h => by cases h) _ _ ce16_ok ce16_run
-- decani/cold.Right, 7226 steps
noncomputable def ce24 : Ent :=
  ⟨20, [.agg ⟨[.int .i64 (.ofNat 4), .int .i64 (.ofNat 5), .int .i64 (.ofNat 3), .int .i64 (.ofNat 0), .int .i64 (.ofNat 1), .int .i64 (.ofNat 2), .int .i64 (.ofNat 1), .int .i64 (.ofNat 1), .slice none 0 0, .int .i64 (.ofNat 2), .slice (some ⟨4, 0, none⟩) 2 2]⟩], 5,
   [(0, .cells false 0 [.int .i64 (.negSucc 0), .int .i64 (.negSucc 0)]),
    (1, .dead),
    (2, .cells false 0 [.int .i64 (.ofNat 6), .int .i64 (.ofNat 6), .int .i64 (.ofNat 6), .int .i64 (.ofNat 6), .int .i64 (.ofNat 6)]),
    (3, .dead),
    (4, .cells true 0 [.int .i64 (.ofNat 0), .int .i64 (.ofNat 1), .bool true, .int .i64 (.ofNat 2), .int .i64 (.ofNat 2), .bool true])],
   [],
   .tuple ⟨[.bool false, .int .i64 (.ofNat 0)]⟩⟩
theorem ce24_ok : ce24.okS EE.G = true := by kernel_rfl
theorem ce24_run : evT EE [] 1000000000 (.call ce24.f ce24.args) ce24.heap (keptK ce24) = some (.bool true) := by kernel_rfl
theorem ce24_h : ce24.holds EE := ent_run envOk (fun _ h => by cases h) _ _ ce24_ok ce24_run
-- decani/cold.Fits, 794 steps
noncomputable def ce36 : Ent :=
  ⟨28, [.agg ⟨[.int .i64 (.ofNat 4), .int .i64 (.ofNat 5), .int .i64 (.ofNat 3), .int .i64 (.ofNat 0), .int .i64 (.ofNat 1), .int .i64 (.ofNat 2), .int .i64 (.ofNat 1), .int .i64 (.ofNat 1), .slice none 0 0, .int .i64 (.ofNat 2), .slice (some ⟨4, 0, none⟩) 2 2]⟩, .agg ⟨[.int .i64 (.ofNat 4), .int .i64 (.ofNat 0), .bool true]⟩], 5,
   [(0, .cells false 0 [.int .i64 (.negSucc 0), .int .i64 (.negSucc 0)]),
    (1, .dead),
    (2, .cells false 0 [.int .i64 (.ofNat 6), .int .i64 (.ofNat 6), .int .i64 (.ofNat 6), .int .i64 (.ofNat 6), .int .i64 (.ofNat 6)]),
    (3, .dead),
    (4, .cells true 0 [.int .i64 (.ofNat 0), .int .i64 (.ofNat 1), .bool true, .int .i64 (.ofNat 2), .int .i64 (.ofNat 2), .bool true])],
   [],
   .tuple ⟨[.bool false, .int .i64 (.ofNat 31)]⟩⟩
theorem ce36_ok : ce36.okS EE.G = true := by kernel_rfl
theorem ce36_run : evT EE [] 1000000000 (.call ce36.f ce36.args) ce36.heap (keptK ce36) = some (.bool true) := by kernel_rfl
theorem ce36_h : ce36.holds EE := ent_run envOk (fun _ h => by cases h) _ _ ce36_ok ce36_run
-- decani/cold.Takes, 775 steps
noncomputable def ce40 : Ent :=
  ⟨25, [.agg ⟨[.int .i64 (.ofNat 4), .int .i64 (.ofNat 5), .int .i64 (.ofNat 3), .int .i64 (.ofNat 0), .int .i64 (.ofNat 1), .int .i64 (.ofNat 2), .int .i64 (.ofNat 1), .int .i64 (.ofNat 1), .slice (some ⟨4, 0, none⟩) 2 18446744073709551616, .int .i64 (.ofNat 2), .slice none 0 0]⟩, .int .i64 (.ofNat 2)], 5,
   [(0, .cells false 0 [.int .i64 (.negSucc 0), .int .i64 (.negSucc 0)]),
    (1, .dead),
    (2, .cells false 0 [.int .i64 (.ofNat 6), .int .i64 (.ofNat 6), .int .i64 (.ofNat 6), .int .i64 (.ofNat 6), .int .i64 (.ofNat 6)]),
    (3, .dead),
    (4, .cells true 3 [.int .i64 (.ofNat 1), .int .i64 (.ofNat 1), .int .i64 (.ofNat 1), .int .i64 (.ofNat 1)])],
   [],
   .tuple ⟨[.agg ⟨[.int .i64 (.ofNat 0), .int .i64 (.ofNat 0)]⟩, .int .i64 (.ofNat 30)]⟩⟩
theorem ce40_ok : ce40.okS EE.G = true := by kernel_rfl
theorem ce40_run : evT EE [] 1000000000 (.call ce40.f ce40.args) ce40.heap (keptK ce40) = some (.bool true) := by kernel_rfl
theorem ce40_h : ce40.holds EE := ent_run envOk (fun _ h => by cases h) _ _ ce40_ok ce40_run
-- decani/cold.Check, 681 steps
noncomputable def ce47 : Ent :=
  ⟨30, [.agg ⟨[.int .i64 (.ofNat 4), .int .i64 (.ofNat 5), .int .i64 (.ofNat 3), .int .i64 (.ofNat 0), .int .i64 (.ofNat 1), .int .i64 (.ofNat 2), .int .i64 (.ofNat 1), .int .i64 (.ofNat 1), .slice (some ⟨4, 0, none⟩) 2 18446744073709551616, .int .i64 (.ofNat 2), .slice none 0 0]⟩], 5,
   [(0, .cells false 0 [.int .i64 (.negSucc 0), .int .i64 (.negSucc 0)]),
    (1, .dead),
    (2, .cells false 0 [.int .i64 (.ofNat 6), .int .i64 (.ofNat 6), .int .i64 (.ofNat 6), .int .i64 (.ofNat 6), .int .i64 (.ofNat 6)]),
    (3, .dead),
    (4, .cells true 3 [.int .i64 (.ofNat 1), .int .i64 (.ofNat 1), .int .i64 (.ofNat 1), .int .i64 (.ofNat 1)])],
   [],
   .int .i64 (.ofNat 30)⟩
theorem ce47_ok : ce47.okS EE.G = true := by kernel_rfl
theorem ce47_run : evT EE [] 1000000000 (.call ce47.f ce47.args) ce47.heap (keptK ce47) = some (.bool true) := by kernel_rfl
theorem ce47_h : ce47.holds EE := ent_run envOk (fun _ h => by cases h) _ _ ce47_ok ce47_run
-- decani/cold.Caught, 653 steps
noncomputable def ce55 : Ent :=
  ⟨22, [.agg ⟨[.int .i64 (.ofNat 4), .int .i64 (.ofNat 5), .int .i64 (.ofNat 3), .int .i64 (.ofNat 0), .int .i64 (.ofNat 1), .int .i64 (.ofNat 2), .int .i64 (.ofNat 1), .int .i64 (.ofNat 1), .slice (some ⟨4, 0, none⟩) 1 1, .int .i64 (.ofNat 2), .slice none 0 0]⟩, .int .i64 (.negSucc 0)], 5,
   [(0, .cells false 0 [.int .i64 (.negSucc 0), .int .i64 (.negSucc 0)]),
    (1, .dead),
    (2, .cells false 0 [.int .i64 (.ofNat 6), .int .i64 (.ofNat 6), .int .i64 (.ofNat 6), .int .i64 (.ofNat 6), .int .i64 (.ofNat 6)]),
    (3, .dead),
    (4, .cells true 0 [.int .i64 (.ofNat 1), .int .i64 (.ofNat 0)])],
   [],
   .tuple ⟨[.agg ⟨[.int .i64 (.ofNat 0), .int .i64 (.ofNat 0)]⟩, .int .i64 (.ofNat 30)]⟩⟩
theorem ce55_ok : ce55.okS EE.G = true := by kernel_rfl
theorem ce55_run : evT EE [] 1000000000 (.call ce55.f ce55.args) ce55.heap (keptK ce55) = some (.bool true) := by kernel_rfl
theorem ce55_h : ce55.holds EE := ent_run envOk (fun _ h => by cases h) _ _ ce55_ok ce55_run
-- decani/cold.Ill, 625 steps
noncomputable def ce63 : Ent :=
  ⟨21, [.agg ⟨[.int .i64 (.ofNat 4), .int .i64 (.ofNat 5), .int .i64 (.ofNat 3), .int .i64 (.ofNat 0), .int .i64 (.ofNat 1), .int .i64 (.ofNat 2), .int .i64 (.ofNat 1), .int .i64 (.ofNat 1), .slice none 0 0, .int .i64 (.ofNat 2), .slice (some ⟨4, 0, none⟩) 1 1]⟩, .int .i64 (.negSucc 0), .int .i64 (.ofNat 0)], 5,
   [(0, .cells false 0 [.int .i64 (.negSucc 0), .int .i64 (.negSucc 0)]),
    (1, .dead),
    (2, .cells false 0 [.int .i64 (.ofNat 6), .int .i64 (.ofNat 6), .int .i64 (.ofNat 6), .int .i64 (.ofNat 6), .int .i64 (.ofNat 6)]),
    (3, .dead),
    (4, .cells true 0 [.int .i64 (.ofNat 4), .int .i64 (.ofNat 0), .bool true])],
   [],
   .tuple ⟨[.int .i64 (.ofNat 0), .int .i64 (.ofNat 30)]⟩⟩
theorem ce63_ok : ce63.okS EE.G = true := by kernel_rfl
theorem ce63_run : evT EE [] 1000000000 (.call ce63.f ce63.args) ce63.heap (keptK ce63) = some (.bool true) := by kernel_rfl
theorem ce63_h : ce63.holds EE := ent_run envOk (fun _ h => by cases h) _ _ ce63_ok ce63_run
-- decani/cold.Check, 606 steps
noncomputable def ce71 : Ent :=
  ⟨30, [.agg ⟨[.int .i64 (.ofNat 4), .int .i64 (.ofNat 5), .int .i64 (.ofNat 3), .int .i64 (.ofNat 0), .int .i64 (.ofNat 1), .int .i64 (.ofNat 2), .int .i64 (.ofNat 1), .int .i64 (.ofNat 1), .slice (some ⟨4, 0, none⟩) 1 1, .int .i64 (.ofNat 2), .slice none 0 0]⟩], 5,
   [(0, .cells false 0 [.int .i64 (.negSucc 0), .int .i64 (.negSucc 0)]),
    (1, .dead),
    (2, .cells false 0 [.int .i64 (.ofNat 6), .int .i64 (.ofNat 6), .int .i64 (.ofNat 6), .int .i64 (.ofNat 6), .int .i64 (.ofNat 6)]),
    (3, .dead),
    (4, .cells true 0 [.int .i64 (.ofNat 1), .int .i64 (.ofNat 1)])],
   [],
   .int .i64 (.ofNat 0)⟩
theorem ce71_ok : ce71.okS EE.G = true := by kernel_rfl
theorem ce71_run : evT EE [] 1000000000 (.call ce71.f ce71.args) ce71.heap (keptK ce71) = some (.bool true) := by kernel_rfl
theorem ce71_h : ce71.holds EE := ent_run envOk (fun _ h => by cases h) _ _ ce71_ok ce71_run
-- decani/cold.Wrong, 581 steps
noncomputable def ce79 : Ent :=
  ⟨29, [.agg ⟨[.int .i64 (.ofNat 4), .int .i64 (.ofNat 5), .int .i64 (.ofNat 3), .int .i64 (.ofNat 0), .int .i64 (.ofNat 1), .int .i64 (.ofNat 2), .int .i64 (.ofNat 1), .int .i64 (.ofNat 1), .slice (some ⟨4, 0, none⟩) 1 1, .int .i64 (.ofNat 2), .slice none 0 0]⟩], 5,
   [(0, .cells false 0 [.int .i64 (.negSucc 0), .int .i64 (.negSucc 0)]),
    (1, .dead),
    (2, .cells false 0 [.int .i64 (.ofNat 6), .int .i64 (.ofNat 6), .int .i64 (.ofNat 6), .int .i64 (.ofNat 6), .int .i64 (.ofNat 6)]),
    (3, .dead),
    (4, .cells true 0 [.int .i64 (.ofNat 1), .int .i64 (.ofNat 0)])],
   [],
   .tuple ⟨[.slice none 0 0, .int .i64 (.ofNat 30)]⟩⟩
theorem ce79_ok : ce79.okS EE.G = true := by kernel_rfl
theorem ce79_run : evT EE [] 1000000000 (.call ce79.f ce79.args) ce79.heap (keptK ce79) = some (.bool true) := by kernel_rfl
theorem ce79_h : ce79.holds EE := ent_run envOk (fun _ h => by cases h) _ _ ce79_ok ce79_run
-- decani/cold.Check, 547 steps
noncomputable def ce87 : Ent :=
  ⟨30, [.agg ⟨[.int .i64 (.ofNat 4), .int .i64 (.ofNat 5), .int .i64 (.ofNat 3), .int .i64 (.ofNat 0), .int .i64 (.ofNat 1), .int .i64 (.ofNat 2), .int .i64 (.ofNat 1), .int .i64 (.ofNat 1), .slice none 0 0, .int .i64 (.ofNat 2), .slice (some ⟨4, 0, none⟩) 1 1]⟩], 5,
   [(0, .cells false 0 [.int .i64 (.negSucc 0), .int .i64 (.negSucc 0)]),
    (1, .dead),
    (2, .cells false 0 [.int .i64 (.ofNat 6), .int .i64 (.ofNat 6), .int .i64 (.ofNat 6), .int .i64 (.ofNat 6), .int .i64 (.ofNat 6)]),
    (3, .dead),
    (4, .cells true 0 [.int .i64 (.ofNat 0), .int .i64 (.ofNat 1), .bool true])],
   [],
   .int .i64 (.ofNat 0)⟩
theorem ce87_ok : ce87.okS EE.G = true := by kernel_rfl
theorem ce87_run : evT EE [] 1000000000 (.call ce87.f ce87.args) ce87.heap (keptK ce87) = some (.bool true) := by kernel_rfl
theorem ce87_h : ce87.holds EE := ent_run envOk (fun _ h => by cases h) _ _ ce87_ok ce87_run
-- decani/cold.Wrong, 526 steps
noncomputable def ce95 : Ent :=
  ⟨29, [.agg ⟨[.int .i64 (.ofNat 4), .int .i64 (.ofNat 5), .int .i64 (.ofNat 3), .int .i64 (.ofNat 0), .int .i64 (.ofNat 1), .int .i64 (.ofNat 2), .int .i64 (.ofNat 1), .int .i64 (.ofNat 1), .slice none 0 0, .int .i64 (.ofNat 2), .slice (some ⟨4, 0, none⟩) 1 1]⟩], 5,
   [(0, .cells false 0 [.int .i64 (.negSucc 0), .int .i64 (.negSucc 0)]),
    (1, .dead),
    (2, .cells false 0 [.int .i64 (.ofNat 6), .int .i64 (.ofNat 6), .int .i64 (.ofNat 6), .int .i64 (.ofNat 6), .int .i64 (.ofNat 6)]),
    (3, .dead),
    (4, .cells true 0 [.int .i64 (.ofNat 4), .int .i64 (.ofNat 0), .bool true])],
   [],
   .tuple ⟨[.slice none 0 0, .int .i64 (.ofNat 30)]⟩⟩
theorem ce95_ok : ce95.okS EE.G = true := by kernel_rfl
theorem ce95_run : evT EE [] 1000000000 (.call ce95.f ce95.args) ce95.heap (keptK ce95) = some (.bool true) := by kernel_rfl
theorem ce95_h : ce95.holds EE := ent_run envOk (fun _ h => by cases h) _ _ ce95_ok ce95_run
-- decani/cold.Ill, 457 steps
noncomputable def ce103 : Ent :=
  ⟨21, [.agg ⟨[.int .i64 (.ofNat 4), .int .i64 (.ofNat 5), .int .i64 (.ofNat 3), .int .i64 (.ofNat 0), .int .i64 (.ofNat 1), .int .i64 (.ofNat 2), .int .i64 (.ofNat 0), .int .i64 (.ofNat 0), .slice none 0 0, .int .i64 (.ofNat 2), .slice none 0 0]⟩, .int .i64 (.negSucc 0), .int .i64 (.ofNat 0)], 4,
   [(0, .cells false 0 [.int .i64 (.negSucc 0), .int .i64 (.negSucc 0)]),
    (1, .dead),
    (2, .cells false 0 [.int .i64 (.ofNat 6), .int .i64 (.ofNat 6), .int .i64 (.ofNat 6), .int .i64 (.ofNat 6), .int .i64 (.ofNat 6)]),
    (3, .dead)],
   [],
   .tuple ⟨[.int .i64 (.ofNat 0), .int .i64 (.ofNat 30)]⟩⟩
theorem ce103_ok : ce103.okS EE.G = true := by kernel_rfl
theorem ce103_run : evT EE [] 1000000000 (.call ce103.f ce103.args) ce103.heap (keptK ce103) = some (.bool true) := by kernel_rfl
theorem ce103_h : ce103.holds EE := ent_run envOk (fun _ h => by cases h) _ _ ce103_ok ce103_run
-- decani/cold.Apart, 446 steps
noncomputable def ce110 : Ent :=
  ⟨27, [.agg ⟨[.int .i64 (.ofNat 4), .int .i64 (.ofNat 5), .int .i64 (.ofNat 3), .int .i64 (.ofNat 0), .int .i64 (.ofNat 1), .int .i64 (.ofNat 2), .int .i64 (.ofNat 4), .int .i64 (.ofNat 4), .slice none 0 0, .int .i64 (.ofNat 2), .slice none 0 0]⟩, .int .i64 (.ofNat 0)], 4,
   [(0, .cells false 0 [.int .i64 (.negSucc 0), .int .i64 (.negSucc 0)]),
    (1, .dead),
    (2, .cells false 0 [.int .i64 (.ofNat 6), .int .i64 (.ofNat 6), .int .i64 (.ofNat 6), .int .i64 (.ofNat 6), .int .i64 (.ofNat 6)]),
    (3, .dead)],
   [],
   .tuple ⟨[.slice none 0 0, .int .i64 (.ofNat 30)]⟩⟩
theorem ce110_ok : ce110.okS EE.G = true := by kernel_rfl
theorem ce110_run : evT EE [] 1000000000 (.call ce110.f ce110.args) ce110.heap (keptK ce110) = some (.bool true) := by kernel_rfl
theorem ce110_h : ce110.holds EE := ent_run envOk (fun _ h => by cases h) _ _ ce110_ok ce110_run
-- decani/cold.Check, 408 steps
noncomputable def ce119 : Ent :=
  ⟨30, [.agg ⟨[.int .i64 (.ofNat 4), .int .i64 (.ofNat 5), .int .i64 (.ofNat 3), .int .i64 (.ofNat 0), .int .i64 (.ofNat 1), .int .i64 (.ofNat 2), .int .i64 (.ofNat 1), .int .i64 (.ofNat 1), .slice none 0 0, .int .i64 (.ofNat 2), .slice (some ⟨4, 0, none⟩) 5 5]⟩], 5,
   [(0, .cells false 0 [.int .i64 (.negSucc 0), .int .i64 (.negSucc 0)]),
    (1, .dead),
    (2, .cells false 0 [.int .i64 (.ofNat 6), .int .i64 (.ofNat 6), .int .i64 (.ofNat 6), .int .i64 (.ofNat 6), .int .i64 (.ofNat 6)]),
    (3, .dead),
    (4, .cells true 0 [.int .i64 (.ofNat 0), .int .i64 (.ofNat 0), .bool false, .int .i64 (.ofNat 0), .int .i64 (.ofNat 0), .bool false, .int .i64 (.ofNat 0), .int .i64 (.ofNat 0), .bool false, .int .i64 (.ofNat 0), .int .i64 (.ofNat 0), .bool false, .int .i64 (.ofNat 0), .int .i64 (.ofNat 0), .bool false])],
   [],
   .int .i64 (.ofNat 30)⟩
theorem ce119_ok : ce119.okS EE.G = true := by kernel_rfl
theorem ce119_run : evT EE [] 1000000000 (.call ce119.f ce119.args) ce119.heap (keptK ce119) = some (.bool true) := by kernel_rfl
theorem ce119_h : ce119.holds EE := ent_run envOk (fun _ h => by cases h) _ _ ce119_ok ce119_run
-- decani/cold.Fits, 376 steps
noncomputable def ce126 : Ent :=
  ⟨28, [.agg ⟨[.int .i64 (.ofNat 4), .int .i64 (.ofNat 5), .int .i64 (.ofNat 3), .int .i64 (.ofNat 0), .int .i64 (.ofNat 1), .int .i64 (.ofNat 3), .int .i64 (.ofNat 1), .int .i64 (.ofNat 1), .slice none 0 0, .int .i64 (.ofNat 2), .slice none 0 0]⟩, .agg ⟨[.int .i64 (.negSucc 0), .int .i64 (.ofNat 0), .bool true]⟩], 4,
   [(0, .cells false 0 [.int .i64 (.negSucc 0), .int .i64 (.negSucc 0)]),
    (1, .dead),
    (2, .cells false 0 [.int .i64 (.ofNat 6), .int .i64 (.ofNat 6), .int .i64 (.ofNat 6), .int .i64 (.ofNat 6), .int .i64 (.ofNat 6)]),
    (3, .dead)],
   [],
   .tuple ⟨[.bool false, .int .i64 (.ofNat 30)]⟩⟩
theorem ce126_ok : ce126.okS EE.G = true := by kernel_rfl
theorem ce126_run : evT EE [] 1000000000 (.call ce126.f ce126.args) ce126.heap (keptK ce126) = some (.bool true) := by kernel_rfl
theorem ce126_h : ce126.holds EE := ent_run envOk (fun _ h => by cases h) _ _ ce126_ok ce126_run
-- decani/cold.Check, 331 steps
noncomputable def ce134 : Ent :=
  ⟨30, [.agg ⟨[.int .i64 (.ofNat 4), .int .i64 (.ofNat 5), .int .i64 (.ofNat 3), .int .i64 (.ofNat 0), .int .i64 (.ofNat 1), .int .i64 (.ofNat 2), .int .i64 (.ofNat 0), .int .i64 (.ofNat 0), .slice none 0 0, .int .i64 (.ofNat 2), .slice none 0 0]⟩], 4,
   [(0, .cells false 0 [.int .i64 (.negSucc 0), .int .i64 (.negSucc 0)]),
    (1, .dead),
    (2, .cells false 0 [.int .i64 (.ofNat 6), .int .i64 (.ofNat 6), .int .i64 (.ofNat 6), .int .i64 (.ofNat 6), .int .i64 (.ofNat 6)]),
    (3, .dead)],
   [],
   .int .i64 (.ofNat 30)⟩
theorem ce134_ok : ce134.okS EE.G = true := by kernel_rfl
theorem ce134_run : evT EE [] 1000000000 (.call ce134.f ce134.args) ce134.heap (keptK ce134) = some (.bool true) := by kernel_rfl
theorem ce134_h : ce134.holds EE := ent_run envOk (fun _ h => by cases h) _ _ ce134_ok ce134_run
-- decani/cold.Coughs, 303 steps
noncomputable def ce141 : Ent :=
  ⟨23, [.agg ⟨[.int .i64 (.ofNat 4), .int .i64 (.ofNat 5), .int .i64 (.ofNat 3), .int .i64 (.ofNat 0), .int .i64 (.ofNat 1), .int .i64 (.ofNat 2), .int .i64 (.ofNat 1), .int .i64 (.ofNat 1), .slice none 0 0, .int .i64 (.negSucc 0), .slice none 0 0]⟩, .int .i64 (.negSucc 0), .int .i64 (.ofNat 0)], 4,
   [(0, .cells false 0 [.int .i64 (.negSucc 0), .int .i64 (.negSucc 0)]),
    (1, .dead),
    (2, .cells false 0 [.int .i64 (.ofNat 6), .int .i64 (.ofNat 6), .int .i64 (.ofNat 6), .int .i64 (.ofNat 6), .int .i64 (.ofNat 6)]),
    (3, .dead)],
   [],
   .tuple ⟨[.int .i64 (.ofNat 0), .int .i64 (.ofNat 30)]⟩⟩
theorem ce141_ok : ce141.okS EE.G = true := by kernel_rfl
theorem ce141_run : evT EE [] 1000000000 (.call ce141.f ce141.args) ce141.heap (keptK ce141) = some (.bool true) := by kernel_rfl
theorem ce141_h : ce141.holds EE := ent_run envOk (fun _ h => by cases h) _ _ ce141_ok ce141_run
-- decani/cold.Fits, 279 steps
noncomputable def ce150 : Ent :=
  ⟨28, [.agg ⟨[.int .i64 (.ofNat 4), .int .i64 (.ofNat 5), .int .i64 (.ofNat 3), .int .i64 (.ofNat 5), .int .i64 (.ofNat 1), .int .i64 (.ofNat 2), .int .i64 (.ofNat 1), .int .i64 (.ofNat 1), .slice none 0 0, .int .i64 (.ofNat 2), .slice none 0 0]⟩, .agg ⟨[.int .i64 (.negSucc 0), .int .i64 (.ofNat 0), .bool true]⟩], 4,
   [(0, .cells false 0 [.int .i64 (.negSucc 0), .int .i64 (.negSucc 0)]),
    (1, .dead),
    (2, .cells false 0 [.int .i64 (.ofNat 6), .int .i64 (.ofNat 6), .int .i64 (.ofNat 6), .int .i64 (.ofNat 6), .int .i64 (.ofNat 6)]),
    (3, .dead)],
   [],
   .tuple ⟨[.bool false, .int .i64 (.ofNat 30)]⟩⟩
theorem ce150_ok : ce150.okS EE.G = true := by kernel_rfl
theorem ce150_run : evT EE [] 1000000000 (.call ce150.f ce150.args) ce150.heap (keptK ce150) = some (.bool true) := by kernel_rfl
theorem ce150_h : ce150.holds EE := ent_run envOk (fun _ h => by cases h) _ _ ce150_ok ce150_run
-- decani/cold.Takes, 253 steps
noncomputable def ce158 : Ent :=
  ⟨25, [.agg ⟨[.int .i64 (.ofNat 4), .int .i64 (.ofNat 5), .int .i64 (.ofNat 3), .int .i64 (.ofNat 5), .int .i64 (.ofNat 1), .int .i64 (.ofNat 2), .int .i64 (.ofNat 1), .int .i64 (.ofNat 1), .slice none 0 0, .int .i64 (.ofNat 2), .slice none 0 0]⟩, .int .i64 (.ofNat 2)], 4,
   [(0, .cells false 0 [.int .i64 (.negSucc 0), .int .i64 (.negSucc 0)]),
    (1, .dead),
    (2, .cells false 0 [.int .i64 (.ofNat 6), .int .i64 (.ofNat 6), .int .i64 (.ofNat 6), .int .i64 (.ofNat 6), .int .i64 (.ofNat 6)]),
    (3, .dead)],
   [],
   .tuple ⟨[.agg ⟨[.int .i64 (.ofNat 0), .int .i64 (.ofNat 0)]⟩, .int .i64 (.ofNat 30)]⟩⟩
theorem ce158_ok : ce158.okS EE.G = true := by kernel_rfl
theorem ce158_run : evT EE [] 1000000000 (.call ce158.f ce158.args) ce158.heap (keptK ce158) = some (.bool true) := by kernel_rfl
theorem ce158_h : ce158.holds EE := ent_run envOk (fun _ h => by cases h) _ _ ce158_ok ce158_run
-- decani/cold.Fits, 245 steps
noncomputable def ce165 : Ent :=
  ⟨28, [.agg ⟨[.int .i64 (.ofNat 1), .int .i64 (.ofNat 5), .int .i64 (.ofNat 3), .int .i64 (.ofNat 0), .int .i64 (.ofNat 1), .int .i64 (.ofNat 2), .int .i64 (.ofNat 1), .int .i64 (.ofNat 1), .slice none 0 0, .int .i64 (.ofNat 2), .slice none 0 0]⟩, .agg ⟨[.int .i64 (.negSucc 0), .int .i64 (.ofNat 0), .bool true]⟩], 4,
   [(0, .cells false 0 [.int .i64 (.negSucc 0), .int .i64 (.negSucc 0)]),
    (1, .dead),
    (2, .cells false 0 [.int .i64 (.ofNat 6), .int .i64 (.ofNat 6), .int .i64 (.ofNat 6), .int .i64 (.ofNat 6), .int .i64 (.ofNat 6)]),
    (3, .dead)],
   [],
   .tuple ⟨[.bool false, .int .i64 (.ofNat 30)]⟩⟩
theorem ce165_ok : ce165.okS EE.G = true := by kernel_rfl
theorem ce165_run : evT EE [] 1000000000 (.call ce165.f ce165.args) ce165.heap (keptK ce165) = some (.bool true) := by kernel_rfl
theorem ce165_h : ce165.holds EE := ent_run envOk (fun _ h => by cases h) _ _ ce165_ok ce165_run
-- decani/cold.From, 237 steps
noncomputable def ce173 : Ent :=
  ⟨24, [.agg ⟨[.int .i64 (.ofNat 4), .int .i64 (.ofNat 5), .int .i64 (.ofNat 3), .int .i64 (.ofNat 0), .int .i64 (.ofNat 1), .int .i64 (.ofNat 2), .int .i64 (.ofNat 1), .int .i64 (.ofNat 1), .slice none 0 0, .int .i64 (.negSucc 0), .slice none 0 0]⟩], 4,
   [(0, .cells false 0 [.int .i64 (.negSucc 0), .int .i64 (.negSucc 0)]),
    (1, .dead),
    (2, .cells false 0 [.int .i64 (.ofNat 6), .int .i64 (.ofNat 6), .int .i64 (.ofNat 6), .int .i64 (.ofNat 6), .int .i64 (.ofNat 6)]),
    (3, .dead)],
   [],
   .tuple ⟨[.slice none 0 0, .int .i64 (.ofNat 30)]⟩⟩
theorem ce173_ok : ce173.okS EE.G = true := by kernel_rfl
theorem ce173_run : evT EE [] 1000000000 (.call ce173.f ce173.args) ce173.heap (keptK ce173) = some (.bool true) := by kernel_rfl
theorem ce173_h : ce173.holds EE := ent_run envOk (fun _ h => by cases h) _ _ ce173_ok ce173_run
-- decani/cold.Clean, 219 steps
noncomputable def ce182 : Ent :=
  ⟨26, [.agg ⟨[.int .i64 (.ofNat 4), .int .i64 (.ofNat 5), .int .i64 (.ofNat 3), .int .i64 (.ofNat 5), .int .i64 (.ofNat 1), .int .i64 (.ofNat 2), .int .i64 (.ofNat 1), .int .i64 (.ofNat 1), .slice none 0 0, .int .i64 (.ofNat 2), .slice none 0 0]⟩], 4,
   [(0, .cells false 0 [.int .i64 (.negSucc 0), .int .i64 (.negSucc 0)]),
    (1, .dead),
    (2, .cells false 0 [.int .i64 (.ofNat 6), .int .i64 (.ofNat 6), .int .i64 (.ofNat 6), .int .i64 (.ofNat 6), .int .i64 (.ofNat 6)]),
    (3, .dead)],
   [],
   .tuple ⟨[.slice none 0 0, .int .i64 (.ofNat 30)]⟩⟩
theorem ce182_ok : ce182.okS EE.G = true := by kernel_rfl
theorem ce182_run : evT EE [] 1000000000 (.call ce182.f ce182.args) ce182.heap (keptK ce182) = some (.bool true) := by kernel_rfl
theorem ce182_h : ce182.holds EE := ent_run envOk (fun _ h => by cases h) _ _ ce182_ok ce182_run
-- decani/cold.Ill, 188 steps
noncomputable def ce191 : Ent :=
  ⟨21, [.agg ⟨[.int .i64 (.ofNat 0), .int .i64 (.ofNat 0), .int .i64 (.ofNat 0), .int .i64 (.ofNat 0), .int .i64 (.ofNat 0), .int .i64 (.ofNat 0), .int .i64 (.ofNat 0), .int .i64 (.ofNat 0), .slice none 0 0, .int .i64 (.ofNat 0), .slice none 0 0]⟩, .int .i64 (.negSucc 0), .int .i64 (.ofNat 0)], 4,
   [(0, .cells false 0 [.int .i64 (.negSucc 0), .int .i64 (.negSucc 0)]),
    (1, .dead),
    (2, .cells false 0 [.int .i64 (.ofNat 6), .int .i64 (.ofNat 6), .int .i64 (.ofNat 6), .int .i64 (.ofNat 6), .int .i64 (.ofNat 6)]),
    (3, .dead)],
   [],
   .tuple ⟨[.int .i64 (.ofNat 0), .int .i64 (.ofNat 30)]⟩⟩
theorem ce191_ok : ce191.okS EE.G = true := by kernel_rfl
theorem ce191_run : evT EE [] 1000000000 (.call ce191.f ce191.args) ce191.heap (keptK ce191) = some (.bool true) := by kernel_rfl
theorem ce191_h : ce191.holds EE := ent_run envOk (fun _ h => by cases h) _ _ ce191_ok ce191_run
-- decani/cold.From, 185 steps
noncomputable def ce199 : Ent :=
  ⟨24, [.agg ⟨[.int .i64 (.ofNat 4), .int .i64 (.ofNat 5), .int .i64 (.ofNat 0), .int .i64 (.ofNat 0), .int .i64 (.ofNat 1), .int .i64 (.ofNat 2), .int .i64 (.ofNat 1), .int .i64 (.ofNat 1), .slice none 0 0, .int .i64 (.ofNat 2), .slice none 0 0]⟩], 4,
   [(0, .cells false 0 [.int .i64 (.negSucc 0), .int .i64 (.negSucc 0)]),
    (1, .dead),
    (2, .cells false 0 [.int .i64 (.ofNat 6), .int .i64 (.ofNat 6), .int .i64 (.ofNat 6), .int .i64 (.ofNat 6), .int .i64 (.ofNat 6)]),
    (3, .dead)],
   [],
   .tuple ⟨[.slice none 0 0, .int .i64 (.ofNat 30)]⟩⟩
theorem ce199_ok : ce199.okS EE.G = true := by kernel_rfl
theorem ce199_run : evT EE [] 1000000000 (.call ce199.f ce199.args) ce199.heap (keptK ce199) = some (.bool true) := by kernel_rfl
theorem ce199_h : ce199.holds EE := ent_run envOk (fun _ h => by cases h) _ _ ce199_ok ce199_run
-- decani/cold.Apart, 177 steps
noncomputable def ce207 : Ent :=
  ⟨27, [.agg ⟨[.int .i64 (.ofNat 6), .int .i64 (.ofNat 5), .int .i64 (.ofNat 3), .int .i64 (.ofNat 0), .int .i64 (.ofNat 1), .int .i64 (.ofNat 2), .int .i64 (.ofNat 1), .int .i64 (.ofNat 1), .slice none 0 0, .int .i64 (.ofNat 2), .slice none 0 0]⟩, .int .i64 (.ofNat 0)], 4,
   [(0, .cells false 0 [.int .i64 (.negSucc 0), .int .i64 (.negSucc 0)]),
    (1, .dead),
    (2, .cells false 0 [.int .i64 (.ofNat 6), .int .i64 (.ofNat 6), .int .i64 (.ofNat 6), .int .i64 (.ofNat 6), .int .i64 (.ofNat 6)]),
    (3, .dead)],
   [],
   .tuple ⟨[.slice none 0 0, .int .i64 (.ofNat 30)]⟩⟩
theorem ce207_ok : ce207.okS EE.G = true := by kernel_rfl
theorem ce207_run : evT EE [] 1000000000 (.call ce207.f ce207.args) ce207.heap (keptK ce207) = some (.bool true) := by kernel_rfl
theorem ce207_h : ce207.holds EE := ent_run envOk (fun _ h => by cases h) _ _ ce207_ok ce207_run
-- decani/cold.Takes, 156 steps
noncomputable def ce215 : Ent :=
  ⟨25, [.agg ⟨[.int .i64 (.ofNat 6), .int .i64 (.ofNat 5), .int .i64 (.ofNat 3), .int .i64 (.ofNat 0), .int .i64 (.ofNat 1), .int .i64 (.ofNat 2), .int .i64 (.ofNat 1), .int .i64 (.ofNat 1), .slice none 0 0, .int .i64 (.ofNat 2), .slice none 0 0]⟩, .int .i64 (.ofNat 2)], 4,
   [(0, .cells false 0 [.int .i64 (.negSucc 0), .int .i64 (.negSucc 0)]),
    (1, .dead),
    (2, .cells false 0 [.int .i64 (.ofNat 6), .int .i64 (.ofNat 6), .int .i64 (.ofNat 6), .int .i64 (.ofNat 6), .int .i64 (.ofNat 6)]),
    (3, .dead)],
   [],
   .tuple ⟨[.agg ⟨[.int .i64 (.ofNat 0), .int .i64 (.ofNat 0)]⟩, .int .i64 (.ofNat 30)]⟩⟩
theorem ce215_ok : ce215.okS EE.G = true := by kernel_rfl
theorem ce215_run : evT EE [] 1000000000 (.call ce215.f ce215.args) ce215.heap (keptK ce215) = some (.bool true) := by kernel_rfl
theorem ce215_h : ce215.holds EE := ent_run envOk (fun _ h => by cases h) _ _ ce215_ok ce215_run
-- decani/cold.From, 140 steps
noncomputable def ce222 : Ent :=
  ⟨24, [.agg ⟨[.int .i64 (.ofNat 4), .int .i64 (.ofNat 7), .int .i64 (.ofNat 3), .int .i64 (.ofNat 0), .int .i64 (.ofNat 1), .int .i64 (.ofNat 2), .int .i64 (.ofNat 1), .int .i64 (.ofNat 1), .slice none 0 0, .int .i64 (.ofNat 2), .slice none 0 0]⟩], 4,
   [(0, .cells false 0 [.int .i64 (.negSucc 0), .int .i64 (.negSucc 0)]),
    (1, .dead),
    (2, .cells false 0 [.int .i64 (.ofNat 6), .int .i64 (.ofNat 6), .int .i64 (.ofNat 6), .int .i64 (.ofNat 6), .int .i64 (.ofNat 6)]),
    (3, .dead)],
   [],
   .tuple ⟨[.slice none 0 0, .int .i64 (.ofNat 30)]⟩⟩
theorem ce222_ok : ce222.okS EE.G = true := by kernel_rfl
theorem ce222_run : evT EE [] 1000000000 (.call ce222.f ce222.args) ce222.heap (keptK ce222) = some (.bool true) := by kernel_rfl
theorem ce222_h : ce222.holds EE := ent_run envOk (fun _ h => by cases h) _ _ ce222_ok ce222_run
-- decani/cold.From, 122 steps
noncomputable def ce229 : Ent :=
  ⟨24, [.agg ⟨[.int .i64 (.ofNat 6), .int .i64 (.ofNat 5), .int .i64 (.ofNat 3), .int .i64 (.ofNat 0), .int .i64 (.ofNat 1), .int .i64 (.ofNat 2), .int .i64 (.ofNat 1), .int .i64 (.ofNat 1), .slice none 0 0, .int .i64 (.ofNat 2), .slice none 0 0]⟩], 4,
   [(0, .cells false 0 [.int .i64 (.negSucc 0), .int .i64 (.negSucc 0)]),
    (1, .dead),
    (2, .cells false 0 [.int .i64 (.ofNat 6), .int .i64 (.ofNat 6), .int .i64 (.ofNat 6), .int .i64 (.ofNat 6), .int .i64 (.ofNat 6)]),
    (3, .dead)],
   [],
   .tuple ⟨[.slice none 0 0, .int .i64 (.ofNat 30)]⟩⟩
theorem ce229_ok : ce229.okS EE.G = true := by kernel_rfl
theorem ce229_run : evT EE [] 1000000000 (.call ce229.f ce229.args) ce229.heap (keptK ce229) = some (.bool true) := by kernel_rfl
theorem ce229_h : ce229.holds EE := ent_run envOk (fun _ h => by cases h) _ _ ce229_ok ce229_run
-- decani/cold.Check, 62 steps
noncomputable def ce238 : Ent :=
  ⟨30, [.agg ⟨[.int .i64 (.ofNat 0), .int .i64 (.ofNat 0), .int .i64 (.ofNat 0), .int .i64 (.ofNat 0), .int .i64 (.ofNat 0), .int .i64 (.ofNat 0), .int .i64 (.ofNat 0), .int .i64 (.ofNat 0), .slice none 0 0, .int .i64 (.ofNat 0), .slice none 0 0]⟩], 4,
   [(0, .cells false 0 [.int .i64 (.negSucc 0), .int .i64 (.negSucc 0)]),
    (1, .dead),
    (2, .cells false 0 [.int .i64 (.ofNat 6), .int .i64 (.ofNat 6), .int .i64 (.ofNat 6), .int .i64 (.ofNat 6), .int .i64 (.ofNat 6)]),
    (3, .dead)],
   [],
   .int .i64 (.ofNat 30)⟩
theorem ce238_ok : ce238.okS EE.G = true := by kernel_rfl
theorem ce238_run : evT EE [] 1000000000 (.call ce238.f ce238.args) ce238.heap (keptK ce238) = some (.bool true) := by kernel_rfl
theorem ce238_h : ce238.holds EE := ent_run envOk (fun _ h => by cases h) _ _ ce238_ok ce238_run
end Go.Proofs.YtbhgicggpkibeaaDoor
