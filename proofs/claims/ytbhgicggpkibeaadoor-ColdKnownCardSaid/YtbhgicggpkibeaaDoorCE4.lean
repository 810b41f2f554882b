/- Known calls, part 4: what single calls hand back, at small heaps, by the kernel's own run of the evaluator. No conditions. -/
import Derived.Test.YtbhgicggpkibeaaDoorEnv
set_option linter.all false
namespace Go.Proofs.YtbhgicggpkibeaaDoor
open Go.Ai
set_option maxRecDepth 1000000
-- decani/cold.Apart, 14721 steps
noncomputable def ce4 : Ent :=
  ⟨27, [.agg ⟨[.int .i64 (.ofNat 4), .int .i64 (.ofNat 5), .int .i64 (.ofNat 3), .int .i64 (.ofNat 0), .int .i64 (.ofNat 1), .int .i64 (.ofNat 2), .int .i64 (.ofNat 1), .int .i64 (.ofNat 1), .slice none 0 0, .int .i64 (.ofNat 2), .slice none 0 0]⟩, .int .i64 (.ofNat 4)], 4,
   [(0, .cells false 0 [.int .i64 (.negSucc 0), .int .i64 (.negSucc 0)]),
    (1, .dead),
    (2, .cells false 0 [.int .i64 (.ofNat 6), .int .i64 (.ofNat 6), .int .i64 (.ofNat 6), .int .i64 (.ofNat 6), .int .i64 (.ofNat 6)]),
    (3, .dead)],
   [],
   .tuple ⟨[.slice none 0 0, .int .i64 (.ofNat 0)]⟩⟩
theorem ce4_ok : ce4.okS EE.G = true := by kernel_rfl
theorem ce4_run : evT EE [] 1000000000 (.call ce4.f ce4.args) ce4.heap (keptK ce4) = some (.bool true) := by kernel_rfl
theorem ce4_h : ce4.holds EE := ent_run envOk (fun _ h => by cases h) _ _ ce4_ok ce4_run
-- decani/cold.Caught, 8727 steps
noncomputable def ce11 : Ent :=
  ⟨22, [.agg ⟨[.int .i64 (.ofNat 4), .int .i64 (.ofNat 5), .int .i64 (.ofNat 3), .int .i64 (.ofNat 0), .int .i64 (.ofNat 1), .int .i64 (.ofNat 2), .int .i64 (.ofNat 1), .int .i64 (.ofNat 1), .slice none 0 0, .int .i64 (.ofNat 2), .slice none 0 0]⟩, .int .i64 (.ofNat 3)], 4,
   [(0, .cells false 0 [.int .i64 (.negSucc 0), .int .i64 (.negSucc 0)]),
    (1, .dead),
    (2, .cells false 0 [.int .i64 (.ofNat 6), .int .i64 (.ofNat 6), .int .i64 (.ofNat 6), .int .i64 (.ofNat 6), .int .i64 (.ofNat 6)]),
    (3, .dead)],
   [],
   .tuple ⟨[.agg ⟨[.int .i64 (.ofNat 2), .int .i64 (.ofNat 3)]⟩, .int .i64 (.ofNat 0)]⟩⟩
theorem ce11_ok : ce11.okS EE.G = true := by kernel_rfl
theorem ce11_run : evT EE [] 1000000000 (.call ce11.f ce11.args) ce11.heap (keptK ce11) = some (.bool true) := by kernel_rfl
theorem ce11_h : ce11.holds EE := ent_run envOk (fun _ h => by cases h) _ _ ce11_ok ce11_run
-- decani/cold.Ill, 8458 steps
noncomputable def ce18 : Ent :=
  ⟨21, [.agg ⟨[.int .i64 (.ofNat 4), .int .i64 (.ofNat 5), .int .i64 (.ofNat 3), .int .i64 (.ofNat 0), .int .i64 (.ofNat 1), .int .i64 (.ofNat 2), .int .i64 (.ofNat 1), .int .i64 (.ofNat 1), .slice none 0 0, .int .i64 (.ofNat 2), .slice none 0 0]⟩, .int .i64 (.ofNat 3), .int .i64 (.ofNat 3)], 4,
   [(0, .cells false 0 [.int .i64 (.negSucc 0), .int .i64 (.negSucc 0)]),
    (1, .dead),
    (2, .cells false 0 [.int .i64 (.ofNat 6), .int .i64 (.ofNat 6), .int .i64 (.ofNat 6), .int .i64 (.ofNat 6), .int .i64 (.ofNat 6)]),
    (3, .dead)],
   [],
   .tuple ⟨[.int .i64 (.ofNat 2), .int .i64 (.ofNat 0)]⟩⟩
theorem ce18_ok : ce18.okS EE.G = true := by kernel_rfl
theorem ce18_run : evT EE [] 1000000000 (.call ce18.f ce18.args) ce18.heap (keptK ce18) = some (.bool true) := by kernel_rfl
theorem ce18_h : ce18.holds EE := ent_run envOk (fun _ h => by cases h) _ _ ce18_ok ce18_run
-- decani/cold.Coughs, 6997 steps
noncomputable def ce26 : Ent :=
  ⟨23, [.agg ⟨[.int .i64 (.ofNat 4), .int .i64 (.ofNat 5), .int .i64 (.ofNat 3), .int .i64 (.ofNat 0), .int .i64 (.ofNat 1), .int .i64 (.ofNat 2), .int .i64 (.ofNat 1), .int .i64 (.ofNat 1), .slice none 0 0, .int .i64 (.ofNat 2), .slice none 0 0]⟩, .int .i64 (.ofNat 0), .int .i64 (.ofNat 1)], 4,
   [(0, .cells false 0 [.int .i64 (.negSucc 0), .int .i64 (.negSucc 0)]),
    (1, .dead),
    (2, .cells false 0 [.int .i64 (.ofNat 6), .int .i64 (.ofNat 6), .int .i64 (.ofNat 6), .int .i64 (.ofNat 6), .int .i64 (.ofNat 6)]),
    (3, .dead)],
   [],
   .tuple ⟨[.int .i64 (.ofNat 1), .int .i64 (.ofNat 0)]⟩⟩
theorem ce26_ok : ce26.okS EE.G = true := by kernel_rfl
theorem ce26_run : evT EE [] 1000000000 (.call ce26.f ce26.args) ce26.heap (keptK ce26) = some (.bool true) := by kernel_rfl
theorem ce26_h : ce26.holds EE := ent_run envOk (fun _ h => by cases h) _ _ ce26_ok ce26_run
-- decani/cold.Takes, 768 steps
noncomputable def ce42 : Ent :=
  ⟨25, [.agg ⟨[.int .i64 (.ofNat 4), .int .i64 (.ofNat 5), .int .i64 (.ofNat 3), .int .i64 (.ofNat 0), .int .i64 (.ofNat 1), .int .i64 (.ofNat 2), .int .i64 (.ofNat 1), .int .i64 (.ofNat 1), .slice none 0 0, .int .i64 (.ofNat 2), .slice (some ⟨4, 0, none⟩) 2 2]⟩, .int .i64 (.ofNat 2)], 5,
   [(0, .cells false 0 [.int .i64 (.negSucc 0), .int .i64 (.negSucc 0)]),
    (1, .dead),
    (2, .cells false 0 [.int .i64 (.ofNat 6), .int .i64 (.ofNat 6), .int .i64 (.ofNat 6), .int .i64 (.ofNat 6), .int .i64 (.ofNat 6)]),
    (3, .dead),
    (4, .cells true 0 [.int .i64 (.ofNat 0), .int .i64 (.ofNat 1), .bool true, .int .i64 (.ofNat 2), .int .i64 (.ofNat 2), .bool true])],
   [],
   .tuple ⟨[.agg ⟨[.int .i64 (.ofNat 0), .int .i64 (.ofNat 0)]⟩, .int .i64 (.ofNat 31)]⟩⟩
theorem ce42_ok : ce42.okS EE.G = true := by kernel_rfl
theorem ce42_run : evT EE [] 1000000000 (.call ce42.f ce42.args) ce42.heap (keptK ce42) = some (.bool true) := by kernel_rfl
theorem ce42_h : ce42.holds EE := ent_run envOk (fun _ h => by cases h) _ _ ce42_ok ce42_run
-- decani/cold.Fits, 674 steps
noncomputable def ce50 : Ent :=
  ⟨28, [.agg ⟨[.int .i64 (.ofNat 4), .int .i64 (.ofNat 5), .int .i64 (.ofNat 3), .int .i64 (.ofNat 0), .int .i64 (.ofNat 1), .int .i64 (.ofNat 2), .int .i64 (.ofNat 1), .int .i64 (.ofNat 1), .slice (some ⟨4, 0, none⟩) 1 1, .int .i64 (.ofNat 2), .slice none 0 0]⟩, .agg ⟨[.int .i64 (.negSucc 0), .int .i64 (.ofNat 0), .bool true]⟩], 5,
   [(0, .cells false 0 [.int .i64 (.negSucc 0), .int .i64 (.negSucc 0)]),
    (1, .dead),
    (2, .cells false 0 [.int .i64 (.ofNat 6), .int .i64 (.ofNat 6), .int .i64 (.ofNat 6), .int .i64 (.ofNat 6), .int .i64 (.ofNat 6)]),
    (3, .dead),
    (4, .cells true 0 [.int .i64 (.ofNat 1), .int .i64 (.ofNat 0)])],
   [],
   .tuple ⟨[.bool false, .int .i64 (.ofNat 30)]⟩⟩
theorem ce50_ok : ce50.okS EE.G = true := by kernel_rfl
theorem ce50_run : evT EE [] 1000000000 (.call ce50.f ce50.args) ce50.heap (keptK ce50) = some (.bool true) := by kernel_rfl
theorem ce50_h : ce50.holds EE := ent_run envOk (fun _ h => by cases h) _ _ ce50_ok ce50_run
-- decani/cold.Apart, 648 steps
noncomputable def ce58 : Ent :=
  ⟨27, [.agg ⟨[.int .i64 (.ofNat 4), .int .i64 (.ofNat 5), .int .i64 (.ofNat 3), .int .i64 (.ofNat 0), .int .i64 (.ofNat 1), .int .i64 (.ofNat 2), .int .i64 (.ofNat 1), .int .i64 (.ofNat 1), .slice none 0 0, .int .i64 (.ofNat 2), .slice (some ⟨4, 0, none⟩) 1 1]⟩, .int .i64 (.ofNat 0)], 5,
   [(0, .cells false 0 [.int .i64 (.negSucc 0), .int .i64 (.negSucc 0)]),
    (1, .dead),
    (2, .cells false 0 [.int .i64 (.ofNat 6), .int .i64 (.ofNat 6), .int .i64 (.ofNat 6), .int .i64 (.ofNat 6), .int .i64 (.ofNat 6)]),
    (3, .dead),
    (4, .cells true 0 [.int .i64 (.ofNat 0), .int .i64 (.ofNat 5), .bool true])],
   [],
   .tuple ⟨[.slice none 0 0, .int .i64 (.ofNat 30)]⟩⟩
theorem ce58_ok : ce58.okS EE.G = true := by kernel_rfl
theorem ce58_run : evT EE [] 1000000000 (.call ce58.f ce58.args) ce58.heap (keptK ce58) = some (.bool true) := by kernel_rfl
theorem ce58_h : ce58.holds EE := ent_run envOk (fun _ h => by cases h) _ _ ce58_ok ce58_run
-- decani/cold.Fits, 619 steps
noncomputable def ce66 : Ent :=
  ⟨28, [.agg ⟨[.int .i64 (.ofNat 4), .int .i64 (.ofNat 5), .int .i64 (.ofNat 3), .int .i64 (.ofNat 0), .int .i64 (.ofNat 1), .int .i64 (.ofNat 2), .int .i64 (.ofNat 1), .int .i64 (.ofNat 1), .slice none 0 0, .int .i64 (.ofNat 2), .slice (some ⟨4, 0, none⟩) 1 1]⟩, .agg ⟨[.int .i64 (.negSucc 0), .int .i64 (.ofNat 0), .bool true]⟩], 5,
   [(0, .cells false 0 [.int .i64 (.negSucc 0), .int .i64 (.negSucc 0)]),
    (1, .dead),
    (2, .cells false 0 [.int .i64 (.ofNat 6), .int .i64 (.ofNat 6), .int .i64 (.ofNat 6), .int .i64 (.ofNat 6), .int .i64 (.ofNat 6)]),
    (3, .dead),
    (4, .cells true 0 [.int .i64 (.ofNat 4), .int .i64 (.ofNat 0), .bool true])],
   [],
   .tuple ⟨[.bool false, .int .i64 (.ofNat 30)]⟩⟩
theorem ce66_ok : ce66.okS EE.G = true := by kernel_rfl
theorem ce66_run : evT EE [] 1000000000 (.call ce66.f ce66.args) ce66.heap (keptK ce66) = some (.bool true) := by kernel_rfl
theorem ce66_h : ce66.holds EE := ent_run envOk (fun _ h => by cases h) _ _ ce66_ok ce66_run
-- decani/cold.Takes, 596 steps
noncomputable def ce74 : Ent :=
  ⟨25, [.agg ⟨[.int .i64 (.ofNat 4), .int .i64 (.ofNat 5), .int .i64 (.ofNat 3), .int .i64 (.ofNat 0), .int .i64 (.ofNat 1), .int .i64 (.ofNat 2), .int .i64 (.ofNat 1), .int .i64 (.ofNat 1), .slice (some ⟨4, 0, none⟩) 1 1, .int .i64 (.ofNat 2), .slice none 0 0]⟩, .int .i64 (.ofNat 2)], 5,
   [(0, .cells false 0 [.int .i64 (.negSucc 0), .int .i64 (.negSucc 0)]),
    (1, .dead),
    (2, .cells false 0 [.int .i64 (.ofNat 6), .int .i64 (.ofNat 6), .int .i64 (.ofNat 6), .int .i64 (.ofNat 6), .int .i64 (.ofNat 6)]),
    (3, .dead),
    (4, .cells true 0 [.int .i64 (.ofNat 4), .int .i64 (.ofNat 1)])],
   [],
   .tuple ⟨[.agg ⟨[.int .i64 (.ofNat 0), .int .i64 (.ofNat 0)]⟩, .int .i64 (.ofNat 30)]⟩⟩
theorem ce74_ok : ce74.okS EE.G = true := by kernel_rfl
theorem ce74_run : evT EE [] 1000000000 (.call ce74.f ce74.args) ce74.heap (keptK ce74) = some (.bool true) := by kernel_rfl
theorem ce74_h : ce74.holds EE := ent_run envOk (fun _ h => by cases h) _ _ ce74_ok ce74_run
-- decani/cold.Right, 560 steps
noncomputable def ce82 : Ent :=
  ⟨20, [.agg ⟨[.int .i64 (.ofNat 4), .int .i64 (.ofNat 5), .int .i64 (.ofNat 3), .int .i64 (.ofNat 0), .int .i64 (.ofNat 1), .int .i64 (.ofNat 2), .int .i64 (.ofNat 1), .int .i64 (.ofNat 1), .slice none 0 0, .int .i64 (.ofNat 2), .slice (some ⟨4, 0, none⟩) 1 1]⟩], 5,
   [(0, .cells false 0 [.int .i64 (.negSucc 0), .int .i64 (.negSucc 0)]),
    (1, .dead),
    (2, .cells false 0 [.int .i64 (.ofNat 6), .int .i64 (.ofNat 6), .int .i64 (.ofNat 6), .int .i64 (.ofNat 6), .int .i64 (.ofNat 6)]),
    (3, .dead),
    (4, .cells true 0 [.int .i64 (.ofNat 0), .int .i64 (.ofNat 5), .bool true])],
   [],
   .tuple ⟨[.bool false, .int .i64 (.ofNat 30)]⟩⟩
theorem ce82_ok : ce82.okS EE.G = true := by kernel_rfl
theorem ce82_run : evT EE [] 1000000000 (.call ce82.f ce82.args) ce82.heap (keptK ce82) = some (.bool true) := by kernel_rfl
theorem ce82_h : ce82.holds EE := ent_run envOk (fun _ h => by cases h) _ _ ce82_ok ce82_run
-- decani/cold.Coughs, 534 steps
noncomputable def ce89 : Ent :=
  ⟨23, [.agg ⟨[.int .i64 (.ofNat 4), .int .i64 (.ofNat 5), .int .i64 (.ofNat 3), .int .i64 (.ofNat 0), .int .i64 (.ofNat 1), .int .i64 (.ofNat 2), .int .i64 (.ofNat 1), .int .i64 (.ofNat 1), .slice none 0 0, .int .i64 (.ofNat 2), .slice (some ⟨4, 0, none⟩) 5 5]⟩, .int .i64 (.negSucc 0), .int .i64 (.ofNat 0)], 5,
   [(0, .cells false 0 [.int .i64 (.negSucc 0), .int .i64 (.negSucc 0)]),
    (1, .dead),
    (2, .cells false 0 [.int .i64 (.ofNat 6), .int .i64 (.ofNat 6), .int .i64 (.ofNat 6), .int .i64 (.ofNat 6), .int .i64 (.ofNat 6)]),
    (3, .dead),
    (4, .cells true 0 [.int .i64 (.ofNat 0), .int .i64 (.ofNat 0), .bool false, .int .i64 (.ofNat 0), .int .i64 (.ofNat 0), .bool false, .int .i64 (.ofNat 0), .int .i64 (.ofNat 0), .bool false, .int .i64 (.ofNat 0), .int .i64 (.ofNat 0), .bool false, .int .i64 (.ofNat 0), .int .i64 (.ofNat 0), .bool false])],
   [],
   .tuple ⟨[.int .i64 (.ofNat 0), .int .i64 (.ofNat 30)]⟩⟩
theorem ce89_ok : ce89.okS EE.G = true := by kernel_rfl
theorem ce89_run : evT EE [] 1000000000 (.call ce89.f ce89.args) ce89.heap (keptK ce89) = some (.bool true) := by kernel_rfl
theorem ce89_h : ce89.holds EE := ent_run envOk (fun _ h => by cases h) _ _ ce89_ok ce89_run
-- decani/cold.Check, 502 steps
noncomputable def ce98 : Ent :=
  ⟨30, [.agg ⟨[.int .i64 (.ofNat 4), .int .i64 (.ofNat 5), .int .i64 (.ofNat 3), .int .i64 (.ofNat 0), .int .i64 (.ofNat 1), .int .i64 (.ofNat 2), .int .i64 (.ofNat 1), .int .i64 (.ofNat 1), .slice (some ⟨4, 0, none⟩) 1 1, .int .i64 (.ofNat 2), .slice none 0 0]⟩], 5,
   [(0, .cells false 0 [.int .i64 (.negSucc 0), .int .i64 (.negSucc 0)]),
    (1, .dead),
    (2, .cells false 0 [.int .i64 (.ofNat 6), .int .i64 (.ofNat 6), .int .i64 (.ofNat 6), .int .i64 (.ofNat 6), .int .i64 (.ofNat 6)]),
    (3, .dead),
    (4, .cells true 0 [.int .i64 (.ofNat 4), .int .i64 (.ofNat 1)])],
   [],
   .int .i64 (.ofNat 30)⟩
theorem ce98_ok : ce98.okS EE.G = true := by kernel_rfl
theorem ce98_run : evT EE [] 1000000000 (.call ce98.f ce98.args) ce98.heap (keptK ce98) = some (.bool true) := by kernel_rfl
theorem ce98_h : ce98.holds EE := ent_run envOk (fun _ h => by cases h) _ _ ce98_ok ce98_run
-- decani/cold.Ill, 457 steps
noncomputable def ce105 : Ent :=
  ⟨21, [.agg ⟨[.int .i64 (.ofNat 4), .int .i64 (.ofNat 5), .int .i64 (.ofNat 3), .int .i64 (.ofNat 0), .int .i64 (.ofNat 1), .int .i64 (.ofNat 2), .int .i64 (.ofNat 4), .int .i64 (.ofNat 4), .slice none 0 0, .int .i64 (.ofNat 2), .slice none 0 0]⟩, .int .i64 (.negSucc 0), .int .i64 (.ofNat 0)], 4,
   [(0, .cells false 0 [.int .i64 (.negSucc 0), .int .i64 (.negSucc 0)]),
    (1, .dead),
    (2, .cells false 0 [.int .i64 (.ofNat 6), .int .i64 (.ofNat 6), .int .i64 (.ofNat 6), .int .i64 (.ofNat 6), .int .i64 (.ofNat 6)]),
    (3, .dead)],
   [],
   .tuple ⟨[.int .i64 (.ofNat 0), .int .i64 (.ofNat 30)]⟩⟩
theorem ce105_ok : ce105.okS EE.G = true := by kernel_rfl
theorem ce105_run : evT EE [] 1000000000 (.call ce105.f ce105.args) ce105.heap (keptK ce105) = some (.bool true) := by kernel_rfl
theorem ce105_h : ce105.holds EE := ent_run envOk (fun _ h => by cases h) _ _ ce105_ok ce105_run
-- decani/cold.Caught, 430 steps
noncomputable def ce113 : Ent :=
  ⟨22, [.agg ⟨[.int .i64 (.ofNat 4), .int .i64 (.ofNat 5), .int .i64 (.ofNat 3), .int .i64 (.ofNat 0), .int .i64 (.ofNat 1), .int .i64 (.ofNat 2), .int .i64 (.ofNat 0), .int .i64 (.ofNat 0), .slice none 0 0, .int .i64 (.ofNat 2), .slice none 0 0]⟩, .int .i64 (.negSucc 0)], 4,
   [(0, .cells false 0 [.int .i64 (.negSucc 0), .int .i64 (.negSucc 0)]),
    (1, .dead),
    (2, .cells false 0 [.int .i64 (.ofNat 6), .int .i64 (.ofNat 6), .int .i64 (.ofNat 6), .int .i64 (.ofNat 6), .int .i64 (.ofNat 6)]),
    (3, .dead)],
   [],
   .tuple ⟨[.agg ⟨[.int .i64 (.ofNat 0), .int .i64 (.ofNat 0)]⟩, .int .i64 (.ofNat 30)]⟩⟩
theorem ce113_ok : ce113.okS EE.G = true := by kernel_rfl
theorem ce113_run : evT EE [] 1000000000 (.call ce113.f ce113.args) ce113.heap (keptK ce113) = some (.bool true) := by kernel_rfl
theorem ce113_h : ce113.holds EE := ent_run envOk (fun _ h => by cases h) _ _ ce113_ok ce113_run
-- decani/cold.Clean, 391 steps
noncomputable def ce121 : Ent :=
  ⟨26, [.agg ⟨[.int .i64 (.ofNat 4), .int .i64 (.ofNat 5), .int .i64 (.ofNat 3), .int .i64 (.ofNat 0), .int .i64 (.ofNat 1), .int .i64 (.ofNat 2), .int .i64 (.ofNat 0), .int .i64 (.ofNat 0), .slice none 0 0, .int .i64 (.ofNat 2), .slice none 0 0]⟩], 4,
   [(0, .cells false 0 [.int .i64 (.negSucc 0), .int .i64 (.negSucc 0)]),
    (1, .dead),
    (2, .cells false 0 [.int .i64 (.ofNat 6), .int .i64 (.ofNat 6), .int .i64 (.ofNat 6), .int .i64 (.ofNat 6), .int .i64 (.ofNat 6)]),
    (3, .dead)],
   [],
   .tuple ⟨[.slice none 0 0, .int .i64 (.ofNat 30)]⟩⟩
theorem ce121_ok : ce121.okS EE.G = true := by kernel_rfl
theorem ce121_run : evT EE [] 1000000000 (.call ce121.f ce121.args) ce121.heap (keptK ce121) = some (.bool true) := by kernel_rfl
theorem ce121_h : ce121.holds EE := ent_run envOk (fun _ h => by cases h) _ _ ce121_ok ce121_run
-- decani/cold.Wrong, 358 steps
noncomputable def ce129 : Ent :=
  ⟨29, [.agg ⟨[.int .i64 (.ofNat 4), .int .i64 (.ofNat 5), .int .i64 (.ofNat 3), .int .i64 (.ofNat 0), .int .i64 (.ofNat 1), .int .i64 (.ofNat 2), .int .i64 (.ofNat 0), .int .i64 (.ofNat 0), .slice none 0 0, .int .i64 (.ofNat 2), .slice none 0 0]⟩], 4,
   [(0, .cells false 0 [.int .i64 (.negSucc 0), .int .i64 (.negSucc 0)]),
    (1, .dead),
    (2, .cells false 0 [.int .i64 (.ofNat 6), .int .i64 (.ofNat 6), .int .i64 (.ofNat 6), .int .i64 (.ofNat 6), .int .i64 (.ofNat 6)]),
    (3, .dead)],
   [],
   .tuple ⟨[.slice none 0 0, .int .i64 (.ofNat 30)]⟩⟩
theorem ce129_ok : ce129.okS EE.G = true := by kernel_rfl
theorem ce129_run : evT EE [] 1000000000 (.call ce129.f ce129.args) ce129.heap (keptK ce129) = some (.bool true) := by kernel_rfl
theorem ce129_h : ce129.holds EE := ent_run envOk (fun _ h => by cases h) _ _ ce129_ok ce129_run
-- decani/cold.Clean, 316 steps
noncomputable def ce137 : Ent :=
  ⟨26, [.agg ⟨[.int .i64 (.ofNat 4), .int .i64 (.ofNat 5), .int .i64 (.ofNat 3), .int .i64 (.ofNat 0), .int .i64 (.ofNat 1), .int .i64 (.ofNat 3), .int .i64 (.ofNat 1), .int .i64 (.ofNat 1), .slice none 0 0, .int .i64 (.ofNat 2), .slice none 0 0]⟩], 4,
   [(0, .cells false 0 [.int .i64 (.negSucc 0), .int .i64 (.negSucc 0)]),
    (1, .dead),
    (2, .cells false 0 [.int .i64 (.ofNat 6), .int .i64 (.ofNat 6), .int .i64 (.ofNat 6), .int .i64 (.ofNat 6), .int .i64 (.ofNat 6)]),
    (3, .dead)],
   [],
   .tuple ⟨[.slice none 0 0, .int .i64 (.ofNat 30)]⟩⟩
theorem ce137_ok : ce137.okS EE.G = true := by kernel_rfl
theorem ce137_run : evT EE [] 1000000000 (.call ce137.f ce137.args) ce137.heap (keptK ce137) = some (.bool true) := by kernel_rfl
theorem ce137_h : ce137.holds EE := ent_run envOk (fun _ h => by cases h) _ _ ce137_ok ce137_run
-- decani/cold.Ill, 285 steps
noncomputable def ce146 : Ent :=
  ⟨21, [.agg ⟨[.int .i64 (.ofNat 4), .int .i64 (.ofNat 5), .int .i64 (.ofNat 3), .int .i64 (.ofNat 5), .int .i64 (.ofNat 1), .int .i64 (.ofNat 2), .int .i64 (.ofNat 1), .int .i64 (.ofNat 1), .slice none 0 0, .int .i64 (.ofNat 2), .slice none 0 0]⟩, .int .i64 (.negSucc 0), .int .i64 (.ofNat 0)], 4,
   [(0, .cells false 0 [.int .i64 (.negSucc 0), .int .i64 (.negSucc 0)]),
    (1, .dead),
    (2, .cells false 0 [.int .i64 (.ofNat 6), .int .i64 (.ofNat 6), .int .i64 (.ofNat 6), .int .i64 (.ofNat 6), .int .i64 (.ofNat 6)]),
    (3, .dead)],
   [],
   .tuple ⟨[.int .i64 (.ofNat 0), .int .i64 (.ofNat 30)]⟩⟩
theorem ce146_ok : ce146.okS EE.G = true := by kernel_rfl
theorem ce146_run : evT EE [] 1000000000 (.call ce146.f ce146.args) ce146.heap (keptK ce146) = some (.bool true) := by kernel_rfl
theorem ce146_h : ce146.holds EE := ent_run envOk (fun _ h => by cases h) _ _ ce146_ok ce146_run
-- decani/cold.Takes, 271 steps
noncomputable def ce154 : Ent :=
  ⟨25, [.agg ⟨[.int .i64 (.ofNat 4), .int .i64 (.ofNat 5), .int .i64 (.ofNat 3), .int .i64 (.ofNat 0), .int .i64 (.ofNat 1), .int .i64 (.ofNat 2), .int .i64 (.ofNat 1), .int .i64 (.ofNat 1), .slice none 0 0, .int .i64 (.ofNat 4), .slice none 0 0]⟩, .int .i64 (.ofNat 2)], 4,
   [(0, .cells false 0 [.int .i64 (.negSucc 0), .int .i64 (.negSucc 0)]),
    (1, .dead),
    (2, .cells false 0 [.int .i64 (.ofNat 6), .int .i64 (.ofNat 6), .int .i64 (.ofNat 6), .int .i64 (.ofNat 6), .int .i64 (.ofNat 6)]),
    (3, .dead)],
   [],
   .tuple ⟨[.agg ⟨[.int .i64 (.ofNat 0), .int .i64 (.ofNat 0)]⟩, .int .i64 (.ofNat 30)]⟩⟩
theorem ce154_ok : ce154.okS EE.G = true := by kernel_rfl
theorem ce154_run : evT EE [] 1000000000 (.call ce154.f ce154.args) ce154.heap (keptK ce154) = some (.bool true) := by kernel_rfl
theorem ce154_h : ce154.holds EE := ent_run envOk (fun _ h => by cases h) _ _ ce154_ok ce154_run
-- decani/cold.Ill, 251 steps
noncomputable def ce161 : Ent :=
  ⟨21, [.agg ⟨[.int .i64 (.ofNat 4), .int .i64 (.ofNat 5), .int .i64 (.ofNat 0), .int .i64 (.ofNat 0), .int .i64 (.ofNat 1), .int .i64 (.ofNat 2), .int .i64 (.ofNat 1), .int .i64 (.ofNat 1), .slice none 0 0, .int .i64 (.ofNat 2), .slice none 0 0]⟩, .int .i64 (.negSucc 0), .int .i64 (.ofNat 0)], 4,
   [(0, .cells false 0 [.int .i64 (.negSucc 0), .int .i64 (.negSucc 0)]),
    (1, .dead),
    (2, .cells false 0 [.int .i64 (.ofNat 6), .int .i64 (.ofNat 6), .int .i64 (.ofNat 6), .int .i64 (.ofNat 6), .int .i64 (.ofNat 6)]),
    (3, .dead)],
   [],
   .tuple ⟨[.int .i64 (.ofNat 0), .int .i64 (.ofNat 30)]⟩⟩
theorem ce161_ok : ce161.okS EE.G = true := by kernel_rfl
theorem ce161_run : evT EE [] 1000000000 (.call ce161.f ce161.args) ce161.heap (keptK ce161) = some (.bool true) := by kernel_rfl
theorem ce161_h : ce161.holds EE := ent_run envOk (fun _ h => by cases h) _ _ ce161_ok ce161_run
-- decani/cold.Apart, 240 steps
noncomputable def ce169 : Ent :=
  ⟨27, [.agg ⟨[.int .i64 (.ofNat 4), .int .i64 (.ofNat 5), .int .i64 (.ofNat 0), .int .i64 (.ofNat 0), .int .i64 (.ofNat 1), .int .i64 (.ofNat 2), .int .i64 (.ofNat 1), .int .i64 (.ofNat 1), .slice none 0 0, .int .i64 (.ofNat 2), .slice none 0 0]⟩, .int .i64 (.ofNat 0)], 4,
   [(0, .cells false 0 [.int .i64 (.negSucc 0), .int .i64 (.negSucc 0)]),
    (1, .dead),
    (2, .cells false 0 [.int .i64 (.ofNat 6), .int .i64 (.ofNat 6), .int .i64 (.ofNat 6), .int .i64 (.ofNat 6), .int .i64 (.ofNat 6)]),
    (3, .dead)],
   [],
   .tuple ⟨[.slice none 0 0, .int .i64 (.ofNat 30)]⟩⟩
theorem ce169_ok : ce169.okS EE.G = true := by kernel_rfl
theorem ce169_run : evT EE [] 1000000000 (.call ce169.f ce169.args) ce169.heap (keptK ce169) = some (.bool true) := by kernel_rfl
theorem ce169_h : ce169.holds EE := ent_run envOk (fun _ h => by cases h) _ _ ce169_ok ce169_run
-- decani/cold.Caught, 224 steps
noncomputable def ce177 : Ent :=
  ⟨22, [.agg ⟨[.int .i64 (.ofNat 4), .int .i64 (.ofNat 5), .int .i64 (.ofNat 16), .int .i64 (.ofNat 0), .int .i64 (.ofNat 1), .int .i64 (.ofNat 2), .int .i64 (.ofNat 1), .int .i64 (.ofNat 1), .slice none 0 0, .int .i64 (.ofNat 2), .slice none 0 0]⟩, .int .i64 (.negSucc 0)], 4,
   [(0, .cells false 0 [.int .i64 (.negSucc 0), .int .i64 (.negSucc 0)]),
    (1, .dead),
    (2, .cells false 0 [.int .i64 (.ofNat 6), .int .i64 (.ofNat 6), .int .i64 (.ofNat 6), .int .i64 (.ofNat 6), .int .i64 (.ofNat 6)]),
    (3, .dead)],
   [],
   .tuple ⟨[.agg ⟨[.int .i64 (.ofNat 0), .int .i64 (.ofNat 0)]⟩, .int .i64 (.ofNat 30)]⟩⟩
theorem ce177_ok : ce177.okS EE.G = true := by kernel_rfl
theorem ce177_run : evT EE [] 1000000000 (.call ce177.f ce177.args) ce177.heap (keptK ce177) = some (.bool true) := by kernel_rfl
theorem ce177_h : ce177.holds EE := ent_run envOk (fun _ h => by cases h) _ _ ce177_ok ce177_run
-- decani/cold.Wrong, 204 steps
noncomputable def ce186 : Ent :=
  ⟨29, [.agg ⟨[.int .i64 (.ofNat 4), .int .i64 (.ofNat 5), .int .i64 (.ofNat 3), .int .i64 (.ofNat 0), .int .i64 (.ofNat 1), .int .i64 (.ofNat 2), .int .i64 (.ofNat 1), .int .i64 (.ofNat 1), .slice none 0 0, .int .i64 (.ofNat 4), .slice none 0 0]⟩], 4,
   [(0, .cells false 0 [.int .i64 (.negSucc 0), .int .i64 (.negSucc 0)]),
    (1, .dead),
    (2, .cells false 0 [.int .i64 (.ofNat 6), .int .i64 (.ofNat 6), .int .i64 (.ofNat 6), .int .i64 (.ofNat 6), .int .i64 (.ofNat 6)]),
    (3, .dead)],
   [],
   .tuple ⟨[.slice none 0 0, .int .i64 (.ofNat 30)]⟩⟩
theorem ce186_ok : ce186.okS EE.G = true := by kernel_rfl
theorem ce186_run : evT EE [] 1000000000 (.call ce186.f ce186.args) ce186.heap (keptK ce186) = some (.bool true) := by kernel_rfl
theorem ce186_h : ce186.holds EE := ent_run envOk (fun _ h => by cases h) _ _ ce186_ok ce186_run
-- decani/cold.Coughs, 188 steps
noncomputable def ce194 : Ent :=
  ⟨23, [.agg ⟨[.int .i64 (.ofNat 6), .int .i64 (.ofNat 5), .int .i64 (.ofNat 3), .int .i64 (.ofNat 0), .int .i64 (.ofNat 1), .int .i64 (.ofNat 2), .int .i64 (.ofNat 1), .int .i64 (.ofNat 1), .slice none 0 0, .int .i64 (.ofNat 2), .slice none 0 0]⟩, .int .i64 (.negSucc 0), .int .i64 (.ofNat 0)], 4,
   [(0, .cells false 0 [.int .i64 (.negSucc 0), .int .i64 (.negSucc 0)]),
    (1, .dead),
    (2, .cells false 0 [.int .i64 (.ofNat 6), .int .i64 (.ofNat 6), .int .i64 (.ofNat 6), .int .i64 (.ofNat 6), .int .i64 (.ofNat 6)]),
    (3, .dead)],
   [],
   .tuple ⟨[.int .i64 (.ofNat 0), .int .i64 (.ofNat 30)]⟩⟩
theorem ce194_ok : ce194.okS EE.G = true := by kernel_rfl
theorem ce194_run : evT EE [] 1000000000 (.call ce194.f ce194.args) ce194.heap (keptK ce194) = some (.bool true) := by kernel_rfl
theorem ce194_h : ce194.holds EE := ent_run envOk (fun _ h => by cases h) _ _ ce194_ok ce194_run
-- decani/cold.Clean, 185 steps
noncomputable def ce202 : Ent :=
  ⟨26, [.agg ⟨[.int .i64 (.ofNat 4), .int .i64 (.ofNat 5), .int .i64 (.ofNat 16), .int .i64 (.ofNat 0), .int .i64 (.ofNat 1), .int .i64 (.ofNat 2), .int .i64 (.ofNat 1), .int .i64 (.ofNat 1), .slice none 0 0, .int .i64 (.ofNat 2), .slice none 0 0]⟩], 4,
   [(0, .cells false 0 [.int .i64 (.negSucc 0), .int .i64 (.negSucc 0)]),
    (1, .dead),
    (2, .cells false 0 [.int .i64 (.ofNat 6), .int .i64 (.ofNat 6), .int .i64 (.ofNat 6), .int .i64 (.ofNat 6), .int .i64 (.ofNat 6)]),
    (3, .dead)],
   [],
   .tuple ⟨[.slice none 0 0, .int .i64 (.ofNat 30)]⟩⟩
theorem ce202_ok : ce202.okS EE.G = true := by kernel_rfl
theorem ce202_run : evT EE [] 1000000000 (.call ce202.f ce202.args) ce202.heap (keptK ce202) = some (.bool true) := by kernel_rfl
theorem ce202_h : ce202.holds EE := ent_run envOk (fun _ h => by cases h) _ _ ce202_ok ce202_run
-- decani/cold.Takes, 174 steps
noncomputable def ce210 : Ent :=
  ⟨25, [.agg ⟨[.int .i64 (.ofNat 4), .int .i64 (.ofNat 7), .int .i64 (.ofNat 3), .int .i64 (.ofNat 0), .int .i64 (.ofNat 1), .int .i64 (.ofNat 2), .int .i64 (.ofNat 1), .int .i64 (.ofNat 1), .slice none 0 0, .int .i64 (.ofNat 2), .slice none 0 0]⟩, .int .i64 (.ofNat 2)], 4,
   [(0, .cells false 0 [.int .i64 (.negSucc 0), .int .i64 (.negSucc 0)]),
    (1, .dead),
    (2, .cells false 0 [.int .i64 (.ofNat 6), .int .i64 (.ofNat 6), .int .i64 (.ofNat 6), .int .i64 (.ofNat 6), .int .i64 (.ofNat 6)]),
    (3, .dead)],
   [],
   .tuple ⟨[.agg ⟨[.int .i64 (.ofNat 0), .int .i64 (.ofNat 0)]⟩, .int .i64 (.ofNat 30)]⟩⟩
theorem ce210_ok : ce210.okS EE.G = true := by kernel_rfl
theorem ce210_run : evT EE [] 1000000000 (.call ce210.f ce210.args) ce210.heap (keptK ce210) = some (.bool true) := by kernel_rfl
theorem ce210_h : ce210.holds EE := ent_run envOk (fun _ h => by cases h) _ _ ce210_ok ce210_run
-- decani/cold.Right, 152 steps
noncomputable def ce218 : Ent :=
  ⟨20, [.agg ⟨[.int .i64 (.ofNat 4), .int .i64 (.ofNat 5), .int .i64 (.ofNat 0), .int .i64 (.ofNat 0), .int .i64 (.ofNat 1), .int .i64 (.ofNat 2), .int .i64 (.ofNat 1), .int .i64 (.ofNat 1), .slice none 0 0, .int .i64 (.ofNat 2), .slice none 0 0]⟩], 4,
   [(0, .cells false 0 [.int .i64 (.negSucc 0), .int .i64 (.negSucc 0)]),
    (1, .dead),
    (2, .cells false 0 [.int .i64 (.ofNat 6), .int .i64 (.ofNat 6), .int .i64 (.ofNat 6), .int .i64 (.ofNat 6), .int .i64 (.ofNat 6)]),
    (3, .dead)],
   [],
   .tuple ⟨[.bool false, .int .i64 (.ofNat 30)]⟩⟩
theorem ce218_ok : ce218.okS EE.G = true := by kernel_rfl
theorem ce218_run : evT EE [] 1000000000 (.call ce218.f ce218.args) ce218.heap (keptK ce218) = some (.bool true) := by kernel_rfl
theorem ce218_h : ce218.holds EE := ent_run envOk (fun _ h => by cases h) _ _ ce218_ok ce218_run
-- decani/cold.Check, 125 steps
noncomputable def ce226 : Ent :=
  ⟨30, [.agg ⟨[.int .i64 (.ofNat 4), .int .i64 (.ofNat 5), .int .i64 (.ofNat 16), .int .i64 (.ofNat 0), .int .i64 (.ofNat 1), .int .i64 (.ofNat 2), .int .i64 (.ofNat 1), .int .i64 (.ofNat 1), .slice none 0 0, .int .i64 (.ofNat 2), .slice none 0 0]⟩], 4,
   [(0, .cells false 0 [.int .i64 (.negSucc 0), .int .i64 (.negSucc 0)]),
    (1, .dead),
    (2, .cells false 0 [.int .i64 (.ofNat 6), .int .i64 (.ofNat 6), .int .i64 (.ofNat 6), .int .i64 (.ofNat 6), .int .i64 (.ofNat 6)]),
    (3, .dead)],
   [],
   .int .i64 (.ofNat 30)⟩
theorem ce226_ok : ce226.okS EE.G = true := by kernel_rfl
theorem ce226_run : evT EE [] 1000000000 (.call ce226.f ce226.args) ce226.heap (keptK ce226) = some (.bool true) := by kernel_rfl
theorem ce226_h : ce226.holds EE := ent_run envOk (fun _ h => by cases h) _ _ ce226_ok ce226_run
-- decani/cold.Wrong, 89 steps
noncomputable def ce234 : Ent :=
  ⟨29, [.agg ⟨[.int .i64 (.ofNat 0), .int .i64 (.ofNat 0), .int .i64 (.ofNat 0), .int .i64 (.ofNat 0), .int .i64 (.ofNat 0), .int .i64 (.ofNat 0), .int .i64 (.ofNat 0), .int .i64 (.ofNat 0), .slice none 0 0, .int .i64 (.ofNat 0), .slice none 0 0]⟩], 4,
   [(0, .cells false 0 [.int .i64 (.negSucc 0), .int .i64 (.negSucc 0)]),
    (1, .dead),
    (2, .cells false 0 [.int .i64 (.ofNat 6), .int .i64 (.ofNat 6), .int .i64 (.ofNat 6), .int .i64 (.ofNat 6), .int .i64 (.ofNat 6)]),
    (3, .dead)],
   [],
   .tuple ⟨[.slice none 0 0, .int .i64 (.ofNat 30)]⟩⟩
theorem ce234_ok : ce234.okS EE.G = true := by kernel_rfl
theorem ce234_run : evT EE [] 1000000000 (.call ce234.f ce234.args) ce234.heap (keptK ce234) = some (.bool true) := by kernel_rfl
theorem ce234_h : ce234.holds EE := ent_run envOk (fun _ h => by cases h) _ _ ce234_ok ce234_run
end Go.Proofs.YtbhgicggpkibeaaDoor
