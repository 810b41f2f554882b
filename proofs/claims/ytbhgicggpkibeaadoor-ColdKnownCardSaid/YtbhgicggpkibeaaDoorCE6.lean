/- Known calls, part 6: what single calls hand back, at small heaps, by the kernel's own run of the evaluator. No conditions. -/
import Derived.Test.YtbhgicggpkibeaaDoorEnv
set_option linter.all false
namespace Go.Proofs.YtbhgicggpkibeaaDoor
open Go.Ai
set_option maxRecDepth 1000000
-- decani/cold.Coughs, 8917 steps
noncomputable def ce6 : Ent :=
  ⟨23, [.agg ⟨[.int .i64 (.ofNat 4), .int .i64 (.ofNat 5), .int .i64 (.ofNat 3), .int .i64 (.ofNat 0), .int .i64 (.ofNat 1), .int .i64 (.ofNat 2), .int .i64 (.ofNat 1), .int .i64 (.ofNat 1), .slice none 0 0, .int .i64 (.ofNat 2), .slice (some ⟨4, 0, none⟩) 1 1]⟩, .int .i64 (.ofNat 0), .int .i64 (.ofNat 1)], 5,
   [(0, .cells false 0 [.int .i64 (.negSucc 0), .int .i64 (.negSucc 0)]),
    (1, .dead),
    (2, .cells false 0 [.int .i64 (.ofNat 6), .int .i64 (.ofNat 6), .int .i64 (.ofNat 6), .int .i64 (.ofNat 6), .int .i64 (.ofNat 6)]),
    (3, .dead),
    (4, .cells true 0 [.int .i64 (.ofNat 0), .int .i64 (.ofNat 1), .bool true])],
   [],
   .tuple ⟨[.int .i64 (.ofNat 2), .int .i64 (.ofNat 0)]⟩⟩
theorem ce6_ok : ce6.okS EE.G = true := by kernel_rfl
theorem ce6_run : evT EE [] 1000000000 (.call ce6.f ce6.args) ce6.heap (keptK ce6) = some (.bool true) := by kernel_rfl
theorem ce6_h : ce6.holds EE := ent_run envOk (fun _ h => by cases h) _ _ ce6_ok ce6_run
-- decani/cold.Clean, 8821 steps
noncomputable def ce9 : Ent :=
  ⟨26, [.agg ⟨[.int .i64 (.ofNat 4), .int .i64 (.ofNat 5), .int .i64 (.ofNat 3), .int .i64 (.ofNat 0), .int .i64 (.ofNat 1), .int .i64 (.ofNat 2), .int .i64 (.ofNat 1), .int .i64 (.ofNat 1), .slice none 0 0, .int .i64 (.ofNat 2), .slice none 0 0]⟩], 4,
   [(0, .cells false 0 [.int .i64 (.negSucc 0), .int .i64 (.negSucc 0)]),
    (1, .dead),
    (2, .cells false 0 [.int .i64 (.ofNat 6), .int .i64 (.ofNat 6), .int .i64 (.ofNat 6), .int .i64 (.ofNat 6), .int .i64 (.ofNat 6)]),
    (3, .dead)],
   [],
   .tuple ⟨[.slice none 0 0, .int .i64 (.ofNat 0)]⟩⟩
theorem ce9_ok : ce9.okS EE.G = true := by kernel_rfl
theorem ce9_run : evT EE [] 1000000000 (.call ce9.f ce9.args) ce9.heap (keptK ce9) = some (.bool true) := by kernel_rfl
theorem ce9_h : ce9.holds EE := ent_run envOk (fun _ h => by cases h) _ _ ce9_ok ce9_run
-- decani/cold.Caught, 8724 steps
noncomputable def ce12 : Ent :=
  ⟨22, [.agg ⟨[.int .i64 (.ofNat 4), .int .i64 (.ofNat 5), .int .i64 (.ofNat 3), .int .i64 (.ofNat 0), .int .i64 (.ofNat 1), .int .i64 (.ofNat 2), .int .i64 (.ofNat 1), .int .i64 (.ofNat 1), .slice none 0 0, .int .i64 (.ofNat 2), .slice none 0 0]⟩, .int .i64 (.ofNat 0)], 4,
   [(0, .cells false 0 [.int .i64 (.negSucc 0), .int .i64 (.negSucc 0)]),
    (1, .dead),
    (2, .cells false 0 [.int .i64 (.ofNat 6), .int .i64 (.ofNat 6), .int .i64 (.ofNat 6), .int .i64 (.ofNat 6), .int .i64 (.ofNat 6)]),
    (3, .dead)],
   [],
   .tuple ⟨[.agg ⟨[.int .i64 (.ofNat 0), .int .i64 (.ofNat 1)]⟩, .int .i64 (.ofNat 0)]⟩⟩
theorem ce12_ok : ce12.okS EE.G = true := by kernel_rfl
theorem ce12_run : evT EE [] 1000000000 (.call ce12.f ce12.args) ce12.heap (keptK ce12) = some (.bool true) := by kernel_rfl
theorem ce12_h : ce12.holds EE := ent_run envOk (fun _ h => by cases h) _ _ ce12_ok ce12_run
-- decani/cold.Wrong, 7868 steps
noncomputable def ce19 : Ent :=
  ⟨29, [.agg ⟨[.int .i64 (.ofNat 4), .int .i64 (.ofNat 5), .int .i64 (.ofNat 3), .int .i64 (.ofNat 0), .int .i64 (.ofNat 1), .int .i64 (.ofNat 2), .int .i64 (.ofNat 1), .int .i64 (.ofNat 1), .slice none 0 0, .int .i64 (.ofNat 2), .slice (some ⟨4, 0, none⟩) 1 1]⟩], 5,
   [(0, .cells false 0 [.int .i64 (.negSucc 0), .int .i64 (.negSucc 0)]),
    (1, .dead),
    (2, .cells false 0 [.int .i64 (.ofNat 6), .int .i64 (.ofNat 6), .int .i64 (.ofNat 6), .int .i64 (.ofNat 6), .int .i64 (.ofNat 6)]),
    (3, .dead),
    (4, .cells true 0 [.int .i64 (.ofNat 0), .int .i64 (.ofNat 1), .bool true])],
   [],
   .tuple ⟨[.slice none 0 0, .int .i64 (.ofNat 0)]⟩⟩
theorem ce19_ok : ce19.okS EE.G = true := by kernel_rfl
theorem ce19_run : evT EE [] 1000000000 (.call ce19.f ce19.args) ce19.heap (keptK ce19) = some (.bool true) := by kernel_rfl
theorem ce19_h : ce19.holds EE := ent_run envOk (fun _ h => by cases h) _ _ ce19_ok ce19_run
-- decani/cold.Caught, 4629 steps
noncomputable def ce28 : Ent :=
  ⟨22, [.agg ⟨[.int .i64 (.ofNat 4), .int .i64 (.ofNat 5), .int .i64 (.ofNat 3), .int .i64 (.ofNat 0), .int .i64 (.ofNat 1), .int .i64 (.ofNat 2), .int .i64 (.ofNat 1), .int .i64 (.ofNat 1), .slice (some ⟨4, 0, none⟩) 1 1, .int .i64 (.ofNat 2), .slice none 0 0]⟩, .int .i64 (.ofNat 2)], 5,
   [(0, .cells false 0 [.int .i64 (.negSucc 0), .int .i64 (.negSucc 0)]),
    (1, .dead),
    (2, .cells false 0 [.int .i64 (.ofNat 6), .int .i64 (.ofNat 6), .int .i64 (.ofNat 6), .int .i64 (.ofNat 6), .int .i64 (.ofNat 6)]),
    (3, .dead),
    (4, .cells true 0 [.int .i64 (.ofNat 1), .int .i64 (.ofNat 1)])],
   [],
   .tuple ⟨[.agg ⟨[.int .i64 (.ofNat 0), .int .i64 (.ofNat 0)]⟩, .int .i64 (.ofNat 4)]⟩⟩
theorem ce28_ok : ce28.okS EE.G = true := by kernel_rfl
theorem ce28_run : evT EE [] 1000000000 (.call ce28.f ce28.args) ce28.heap (keptK ce28) = some (.bool true) := by kernel_rfl
theorem ce28_h : ce28.holds EE := ent_run envOk (fun _ h => by cases h) _ _ ce28_ok ce28_run
-- decani/cold.Clean, 741 steps
noncomputable def ce44 : Ent :=
  ⟨26, [.agg ⟨[.int .i64 (.ofNat 4), .int .i64 (.ofNat 5), .int .i64 (.ofNat 3), .int .i64 (.ofNat 0), .int .i64 (.ofNat 1), .int .i64 (.ofNat 2), .int .i64 (.ofNat 1), .int .i64 (.ofNat 1), .slice (some ⟨4, 0, none⟩) 2 18446744073709551616, .int .i64 (.ofNat 2), .slice none 0 0]⟩], 5,
   [(0, .cells false 0 [.int .i64 (.negSucc 0), .int .i64 (.negSucc 0)]),
    (1, .dead),
    (2, .cells false 0 [.int .i64 (.ofNat 6), .int .i64 (.ofNat 6), .int .i64 (.ofNat 6), .int .i64 (.ofNat 6), .int .i64 (.ofNat 6)]),
    (3, .dead),
    (4, .cells true 3 [.int .i64 (.ofNat 1), .int .i64 (.ofNat 1), .int .i64 (.ofNat 1), .int .i64 (.ofNat 1)])],
   [],
   .tuple ⟨[.slice none 0 0, .int .i64 (.ofNat 30)]⟩⟩
theorem ce44_ok : ce44.okS EE.G = true := by kernel_rfl
theorem ce44_run : evT EE [] 1000000000 (.call ce44.f ce44.args) ce44.heap (keptK ce44) = some (.bool true) := by kernel_rfl
theorem ce44_h : ce44.holds EE := ent_run envOk (fun _ h => by cases h) _ _ ce44_ok ce44_run
-- decani/cold.Check, 667 steps
noncomputable def ce52 : Ent :=
  ⟨30, [.agg ⟨[.int .i64 (.ofNat 4), .int .i64 (.ofNat 5), .int .i64 (.ofNat 3), .int .i64 (.ofNat 0), .int .i64 (.ofNat 1), .int .i64 (.ofNat 2), .int .i64 (.ofNat 1), .int .i64 (.ofNat 1), .slice none 0 0, .int .i64 (.ofNat 2), .slice (some ⟨4, 0, none⟩) 2 2]⟩], 5,
   [(0, .cells false 0 [.int .i64 (.negSucc 0), .int .i64 (.negSucc 0)]),
    (1, .dead),
    (2, .cells false 0 [.int .i64 (.ofNat 6), .int .i64 (.ofNat 6), .int .i64 (.ofNat 6), .int .i64 (.ofNat 6), .int .i64 (.ofNat 6)]),
    (3, .dead),
    (4, .cells true 0 [.int .i64 (.ofNat 0), .int .i64 (.ofNat 1), .bool true, .int .i64 (.ofNat 2), .int .i64 (.ofNat 2), .bool true])],
   [],
   .int .i64 (.ofNat 0)⟩
theorem ce52_ok : ce52.okS EE.G = true := by kernel_rfl
theorem ce52_run : evT EE [] 1000000000 (.call ce52.f ce52.args) ce52.heap (keptK ce52) = some (.bool true) := by kernel_rfl
theorem ce52_h : ce52.holds EE := ent_run envOk (fun _ h => by cases h) _ _ ce52_ok ce52_run
-- decani/cold.Ill, 628 steps
noncomputable def ce60 : Ent :=
  ⟨21, [.agg ⟨[.int .i64 (.ofNat 4), .int .i64 (.ofNat 5), .int .i64 (.ofNat 3), .int .i64 (.ofNat 0), .int .i64 (.ofNat 1), .int .i64 (.ofNat 2), .int .i64 (.ofNat 1), .int .i64 (.ofNat 1), .slice (some ⟨4, 0, none⟩) 1 1, .int .i64 (.ofNat 2), .slice none 0 0]⟩, .int .i64 (.negSucc 0), .int .i64 (.ofNat 0)], 5,
   [(0, .cells false 0 [.int .i64 (.negSucc 0), .int .i64 (.negSucc 0)]),
    (1, .dead),
    (2, .cells false 0 [.int .i64 (.ofNat 6), .int .i64 (.ofNat 6), .int .i64 (.ofNat 6), .int .i64 (.ofNat 6), .int .i64 (.ofNat 6)]),
    (3, .dead),
    (4, .cells true 0 [.int .i64 (.ofNat 4), .int .i64 (.ofNat 1)])],
   [],
   .tuple ⟨[.int .i64 (.ofNat 0), .int .i64 (.ofNat 30)]⟩⟩
theorem ce60_ok : ce60.okS EE.G = true := by kernel_rfl
theorem ce60_run : evT EE [] 1000000000 (.call ce60.f ce60.args) ce60.heap (keptK ce60) = some (.bool true) := by kernel_rfl
theorem ce60_h : ce60.holds EE := ent_run envOk (fun _ h => by cases h) _ _ ce60_ok ce60_run
-- decani/cold.From, 614 steps
noncomputable def ce68 : Ent :=
  ⟨24, [.agg ⟨[.int .i64 (.ofNat 4), .int .i64 (.ofNat 5), .int .i64 (.ofNat 3), .int .i64 (.ofNat 0), .int .i64 (.ofNat 1), .int .i64 (.ofNat 2), .int .i64 (.ofNat 1), .int .i64 (.ofNat 1), .slice (some ⟨4, 0, none⟩) 1 1, .int .i64 (.ofNat 2), .slice none 0 0]⟩], 5,
   [(0, .cells false 0 [.int .i64 (.negSucc 0), .int .i64 (.negSucc 0)]),
    (1, .dead),
    (2, .cells false 0 [.int .i64 (.ofNat 6), .int .i64 (.ofNat 6), .int .i64 (.ofNat 6), .int .i64 (.ofNat 6), .int .i64 (.ofNat 6)]),
    (3, .dead),
    (4, .cells true 0 [.int .i64 (.ofNat 1), .int .i64 (.ofNat 0)])],
   [],
   .tuple ⟨[.slice none 0 0, .int .i64 (.ofNat 30)]⟩⟩
theorem ce68_ok : ce68.okS EE.G = true := by kernel_rfl
theorem ce68_run : evT EE [] 1000000000 (.call ce68.f ce68.args) ce68.heap (keptK ce68) = some (.bool true) := by kernel_rfl
theorem ce68_h : ce68.holds EE := ent_run envOk (fun _ h => by cases h) _ _ ce68_ok ce68_run
-- decani/cold.From, 593 steps
noncomputable def ce76 : Ent :=
  ⟨24, [.agg ⟨[.int .i64 (.ofNat 4), .int .i64 (.ofNat 5), .int .i64 (.ofNat 3), .int .i64 (.ofNat 0), .int .i64 (.ofNat 1), .int .i64 (.ofNat 2), .int .i64 (.ofNat 1), .int .i64 (.ofNat 1), .slice none 0 0, .int .i64 (.ofNat 2), .slice (some ⟨4, 0, none⟩) 1 1]⟩], 5,
   [(0, .cells false 0 [.int .i64 (.negSucc 0), .int .i64 (.negSucc 0)]),
    (1, .dead),
    (2, .cells false 0 [.int .i64 (.ofNat 6), .int .i64 (.ofNat 6), .int .i64 (.ofNat 6), .int .i64 (.ofNat 6), .int .i64 (.ofNat 6)]),
    (3, .dead),
    (4, .cells true 0 [.int .i64 (.ofNat 0), .int .i64 (.ofNat 5), .bool true])],
   [],
   .tuple ⟨[.slice none 0 0, .int .i64 (.ofNat 30)]⟩⟩
theorem ce76_ok : ce76.okS EE.G = true := by kernel_rfl
theorem ce76_run : evT EE [] 1000000000 (.call ce76.f ce76.args) ce76.heap (keptK ce76) = some (.bool true) := by kernel_rfl
theorem ce76_h : ce76.holds EE := ent_run envOk (fun _ h => by cases h) _ _ ce76_ok ce76_run
-- decani/cold.From, 559 steps
noncomputable def ce84 : Ent :=
  ⟨24, [.agg ⟨[.int .i64 (.ofNat 4), .int .i64 (.ofNat 5), .int .i64 (.ofNat 3), .int .i64 (.ofNat 0), .int .i64 (.ofNat 1), .int .i64 (.ofNat 2), .int .i64 (.ofNat 1), .int .i64 (.ofNat 1), .slice none 0 0, .int .i64 (.ofNat 2), .slice (some ⟨4, 0, none⟩) 1 1]⟩], 5,
   [(0, .cells false 0 [.int .i64 (.negSucc 0), .int .i64 (.negSucc 0)]),
    (1, .dead),
    (2, .cells false 0 [.int .i64 (.ofNat 6), .int .i64 (.ofNat 6), .int .i64 (.ofNat 6), .int .i64 (.ofNat 6), .int .i64 (.ofNat 6)]),
    (3, .dead),
    (4, .cells true 0 [.int .i64 (.ofNat 4), .int .i64 (.ofNat 0), .bool true])],
   [],
   .tuple ⟨[.slice none 0 0, .int .i64 (.ofNat 30)]⟩⟩
theorem ce84_ok : ce84.okS EE.G = true := by kernel_rfl
theorem ce84_run : evT EE [] 1000000000 (.call ce84.f ce84.args) ce84.heap (keptK ce84) = some (.bool true) := by kernel_rfl
theorem ce84_h : ce84.holds EE := ent_run envOk (fun _ h => by cases h) _ _ ce84_ok ce84_run
-- decani/cold.Wrong, 529 steps
noncomputable def ce92 : Ent :=
  ⟨29, [.agg ⟨[.int .i64 (.ofNat 4), .int .i64 (.ofNat 5), .int .i64 (.ofNat 3), .int .i64 (.ofNat 0), .int .i64 (.ofNat 1), .int .i64 (.ofNat 2), .int .i64 (.ofNat 1), .int .i64 (.ofNat 1), .slice (some ⟨4, 0, none⟩) 1 1, .int .i64 (.ofNat 2), .slice none 0 0]⟩], 5,
   [(0, .cells false 0 [.int .i64 (.negSucc 0), .int .i64 (.negSucc 0)]),
    (1, .dead),
    (2, .cells false 0 [.int .i64 (.ofNat 6), .int .i64 (.ofNat 6), .int .i64 (.ofNat 6), .int .i64 (.ofNat 6), .int .i64 (.ofNat 6)]),
    (3, .dead),
    (4, .cells true 0 [.int .i64 (.ofNat 4), .int .i64 (.ofNat 1)])],
   [],
   .tuple ⟨[.slice none 0 0, .int .i64 (.ofNat 30)]⟩⟩
theorem ce92_ok : ce92.okS EE.G = true := by kernel_rfl
theorem ce92_run : evT EE [] 1000000000 (.call ce92.f ce92.args) ce92.heap (keptK ce92) = some (.bool true) := by kernel_rfl
theorem ce92_h : ce92.holds EE := ent_run envOk (fun _ h => by cases h) _ _ ce92_ok ce92_run
-- decani/cold.Check, 499 steps
noncomputable def ce100 : Ent :=
  ⟨30, [.agg ⟨[.int .i64 (.ofNat 4), .int .i64 (.ofNat 5), .int .i64 (.ofNat 3), .int .i64 (.ofNat 0), .int .i64 (.ofNat 1), .int .i64 (.ofNat 2), .int .i64 (.ofNat 1), .int .i64 (.ofNat 1), .slice none 0 0, .int .i64 (.ofNat 2), .slice (some ⟨4, 0, none⟩) 1 1]⟩], 5,
   [(0, .cells false 0 [.int .i64 (.negSucc 0), .int .i64 (.negSucc 0)]),
    (1, .dead),
    (2, .cells false 0 [.int .i64 (.ofNat 6), .int .i64 (.ofNat 6), .int .i64 (.ofNat 6), .int .i64 (.ofNat 6), .int .i64 (.ofNat 6)]),
    (3, .dead),
    (4, .cells true 0 [.int .i64 (.ofNat 4), .int .i64 (.ofNat 0), .bool true])],
   [],
   .int .i64 (.ofNat 30)⟩
theorem ce100_ok : ce100.okS EE.G = true := by kernel_rfl
theorem ce100_run : evT EE [] 1000000000 (.call ce100.f ce100.args) ce100.heap (keptK ce100) = some (.bool true) := by kernel_rfl
theorem ce100_h : ce100.holds EE := ent_run envOk (fun _ h => by cases h) _ _ ce100_ok ce100_run
-- decani/cold.Fits, 451 steps
noncomputable def ce108 : Ent :=
  ⟨28, [.agg ⟨[.int .i64 (.ofNat 4), .int .i64 (.ofNat 5), .int .i64 (.ofNat 3), .int .i64 (.ofNat 0), .int .i64 (.ofNat 1), .int .i64 (.ofNat 2), .int .i64 (.ofNat 4), .int .i64 (.ofNat 4), .slice none 0 0, .int .i64 (.ofNat 2), .slice none 0 0]⟩, .agg ⟨[.int .i64 (.negSucc 0), .int .i64 (.ofNat 0), .bool true]⟩], 4,
   [(0, .cells false 0 [.int .i64 (.negSucc 0), .int .i64 (.negSucc 0)]),
    (1, .dead),
    (2, .cells false 0 [.int .i64 (.ofNat 6), .int .i64 (.ofNat 6), .int .i64 (.ofNat 6), .int .i64 (.ofNat 6), .int .i64 (.ofNat 6)]),
    (3, .dead)],
   [],
   .tuple ⟨[.bool false, .int .i64 (.ofNat 30)]⟩⟩
theorem ce108_ok : ce108.okS EE.G = true := by kernel_rfl
theorem ce108_run : evT EE [] 1000000000 (.call ce108.f ce108.args) ce108.heap (keptK ce108) = some (.bool true) := by kernel_rfl
theorem ce108_h : ce108.holds EE := ent_run envOk (fun _ h => by cases h) _ _ ce108_ok ce108_run
-- decani/cold.Check, 427 steps
noncomputable def ce116 : Ent :=
  ⟨30, [.agg ⟨[.int .i64 (.ofNat 4), .int .i64 (.ofNat 5), .int .i64 (.ofNat 3), .int .i64 (.ofNat 0), .int .i64 (.ofNat 1), .int .i64 (.ofNat 2), .int .i64 (.ofNat 1), .int .i64 (.ofNat 1), .slice none 0 0, .int .i64 (.ofNat 2), .slice none 0 0]⟩], 4,
   [(0, .cells false 0 [.int .i64 (.negSucc 0), .int .i64 (.negSucc 0)]),
    (1, .dead),
    (2, .cells false 0 [.int .i64 (.ofNat 6), .int .i64 (.ofNat 6), .int .i64 (.ofNat 6), .int .i64 (.ofNat 6), .int .i64 (.ofNat 6)]),
    (3, .dead)],
   [],
   .int .i64 (.ofNat 0)⟩
theorem ce116_ok : ce116.okS EE.G = true := by kernel_rfl
theorem ce116_run : evT EE [] 1000000000 (.call ce116.f ce116.args) ce116.heap (keptK ce116) = some (.bool true) := by kernel_rfl
theorem ce116_h : ce116.holds EE := ent_run envOk (fun _ h => by cases h) _ _ ce116_ok ce116_run
-- decani/cold.Ill, 382 steps
noncomputable def ce124 : Ent :=
  ⟨21, [.agg ⟨[.int .i64 (.ofNat 4), .int .i64 (.ofNat 5), .int .i64 (.ofNat 3), .int .i64 (.ofNat 0), .int .i64 (.ofNat 1), .int .i64 (.ofNat 3), .int .i64 (.ofNat 1), .int .i64 (.ofNat 1), .slice none 0 0, .int .i64 (.ofNat 2), .slice none 0 0]⟩, .int .i64 (.negSucc 0), .int .i64 (.ofNat 0)], 4,
   [(0, .cells false 0 [.int .i64 (.negSucc 0), .int .i64 (.negSucc 0)]),
    (1, .dead),
    (2, .cells false 0 [.int .i64 (.ofNat 6), .int .i64 (.ofNat 6), .int .i64 (.ofNat 6), .int .i64 (.ofNat 6), .int .i64 (.ofNat 6)]),
    (3, .dead)],
   [],
   .tuple ⟨[.int .i64 (.ofNat 0), .int .i64 (.ofNat 30)]⟩⟩
theorem ce124_ok : ce124.okS EE.G = true := by kernel_rfl
theorem ce124_run : evT EE [] 1000000000 (.call ce124.f ce124.args) ce124.heap (keptK ce124) = some (.bool true) := by kernel_rfl
theorem ce124_h : ce124.holds EE := ent_run envOk (fun _ h => by cases h) _ _ ce124_ok ce124_run
-- decani/cold.Caught, 355 steps
noncomputable def ce132 : Ent :=
  ⟨22, [.agg ⟨[.int .i64 (.ofNat 4), .int .i64 (.ofNat 5), .int .i64 (.ofNat 3), .int .i64 (.ofNat 0), .int .i64 (.ofNat 1), .int .i64 (.ofNat 3), .int .i64 (.ofNat 1), .int .i64 (.ofNat 1), .slice none 0 0, .int .i64 (.ofNat 2), .slice none 0 0]⟩, .int .i64 (.negSucc 0)], 4,
   [(0, .cells false 0 [.int .i64 (.negSucc 0), .int .i64 (.negSucc 0)]),
    (1, .dead),
    (2, .cells false 0 [.int .i64 (.ofNat 6), .int .i64 (.ofNat 6), .int .i64 (.ofNat 6), .int .i64 (.ofNat 6), .int .i64 (.ofNat 6)]),
    (3, .dead)],
   [],
   .tuple ⟨[.agg ⟨[.int .i64 (.ofNat 0), .int .i64 (.ofNat 0)]⟩, .int .i64 (.ofNat 30)]⟩⟩
theorem ce132_ok : ce132.okS EE.G = true := by kernel_rfl
theorem ce132_run : evT EE [] 1000000000 (.call ce132.f ce132.args) ce132.heap (keptK ce132) = some (.bool true) := by kernel_rfl
theorem ce132_h : ce132.holds EE := ent_run envOk (fun _ h => by cases h) _ _ ce132_ok ce132_run
-- decani/cold.Ill, 303 steps
noncomputable def ce140 : Ent :=
  ⟨21, [.agg ⟨[.int .i64 (.ofNat 4), .int .i64 (.ofNat 5), .int .i64 (.ofNat 3), .int .i64 (.ofNat 0), .int .i64 (.ofNat 1), .int .i64 (.ofNat 2), .int .i64 (.ofNat 1), .int .i64 (.ofNat 1), .slice none 0 0, .int .i64 (.negSucc 0), .slice none 0 0]⟩, .int .i64 (.negSucc 0), .int .i64 (.ofNat 0)], 4,
   [(0, .cells false 0 [.int .i64 (.negSucc 0), .int .i64 (.negSucc 0)]),
    (1, .dead),
    (2, .cells false 0 [.int .i64 (.ofNat 6), .int .i64 (.ofNat 6), .int .i64 (.ofNat 6), .int .i64 (.ofNat 6), .int .i64 (.ofNat 6)]),
    (3, .dead)],
   [],
   .tuple ⟨[.int .i64 (.ofNat 0), .int .i64 (.ofNat 30)]⟩⟩
theorem ce140_ok : ce140.okS EE.G = true := by kernel_rfl
theorem ce140_run : evT EE [] 1000000000 (.call ce140.f ce140.args) ce140.heap (keptK ce140) = some (.bool true) := by kernel_rfl
theorem ce140_h : ce140.holds EE := ent_run envOk (fun _ h => by cases h) _ _ ce140_ok ce140_run
-- decani/cold.Right, 283 steps
noncomputable def ce148 : Ent :=
  ⟨20, [.agg ⟨[.int .i64 (.ofNat 4), .int .i64 (.ofNat 5), .int .i64 (.ofNat 3), .int .i64 (.ofNat 0), .int .i64 (.ofNat 1), .int .i64 (.ofNat 3), .int .i64 (.ofNat 1), .int .i64 (.ofNat 1), .slice none 0 0, .int .i64 (.ofNat 2), .slice none 0 0]⟩], 4,
   [(0, .cells false 0 [.int .i64 (.negSucc 0), .int .i64 (.negSucc 0)]),
    (1, .dead),
    (2, .cells false 0 [.int .i64 (.ofNat 6), .int .i64 (.ofNat 6), .int .i64 (.ofNat 6), .int .i64 (.ofNat 6), .int .i64 (.ofNat 6)]),
    (3, .dead)],
   [],
   .tuple ⟨[.bool false, .int .i64 (.ofNat 30)]⟩⟩
theorem ce148_ok : ce148.okS EE.G = true := by kernel_rfl
theorem ce148_run : evT EE [] 1000000000 (.call ce148.f ce148.args) ce148.heap (keptK ce148) = some (.bool true) := by kernel_rfl
theorem ce148_h : ce148.holds EE := ent_run envOk (fun _ h => by cases h) _ _ ce148_ok ce148_run
-- decani/cold.Caught, 258 steps
noncomputable def ce156 : Ent :=
  ⟨22, [.agg ⟨[.int .i64 (.ofNat 4), .int .i64 (.ofNat 5), .int .i64 (.ofNat 3), .int .i64 (.ofNat 5), .int .i64 (.ofNat 1), .int .i64 (.ofNat 2), .int .i64 (.ofNat 1), .int .i64 (.ofNat 1), .slice none 0 0, .int .i64 (.ofNat 2), .slice none 0 0]⟩, .int .i64 (.negSucc 0)], 4,
   [(0, .cells false 0 [.int .i64 (.negSucc 0), .int .i64 (.negSucc 0)]),
    (1, .dead),
    (2, .cells false 0 [.int .i64 (.ofNat 6), .int .i64 (.ofNat 6), .int .i64 (.ofNat 6), .int .i64 (.ofNat 6), .int .i64 (.ofNat 6)]),
    (3, .dead)],
   [],
   .tuple ⟨[.agg ⟨[.int .i64 (.ofNat 0), .int .i64 (.ofNat 0)]⟩, .int .i64 (.ofNat 30)]⟩⟩
theorem ce156_ok : ce156.okS EE.G = true := by kernel_rfl
theorem ce156_run : evT EE [] 1000000000 (.call ce156.f ce156.args) ce156.heap (keptK ce156) = some (.bool true) := by kernel_rfl
theorem ce156_h : ce156.holds EE := ent_run envOk (fun _ h => by cases h) _ _ ce156_ok ce156_run
-- decani/cold.Coughs, 251 steps
noncomputable def ce164 : Ent :=
  ⟨23, [.agg ⟨[.int .i64 (.ofNat 4), .int .i64 (.ofNat 5), .int .i64 (.ofNat 16), .int .i64 (.ofNat 0), .int .i64 (.ofNat 1), .int .i64 (.ofNat 2), .int .i64 (.ofNat 1), .int .i64 (.ofNat 1), .slice none 0 0, .int .i64 (.ofNat 2), .slice none 0 0]⟩, .int .i64 (.negSucc 0), .int .i64 (.ofNat 0)], 4,
   [(0, .cells false 0 [.int .i64 (.negSucc 0), .int .i64 (.negSucc 0)]),
    (1, .dead),
    (2, .cells false 0 [.int .i64 (.ofNat 6), .int .i64 (.ofNat 6), .int .i64 (.ofNat 6), .int .i64 (.ofNat 6), .int .i64 (.ofNat 6)]),
    (3, .dead)],
   [],
   .tuple ⟨[.int .i64 (.ofNat 0), .int .i64 (.ofNat 30)]⟩⟩
theorem ce164_ok : ce164.okS EE.G = true := by kernel_rfl
theorem ce164_run : evT EE [] 1000000000 (.call ce164.f ce164.args) ce164.heap (keptK ce164) = some (.bool true) := by kernel_rfl
theorem ce164_h : ce164.holds EE := ent_run envOk (fun _ h => by cases h) _ _ ce164_ok ce164_run
-- decani/cold.Clean, 237 steps
noncomputable def ce172 : Ent :=
  ⟨26, [.agg ⟨[.int .i64 (.ofNat 4), .int .i64 (.ofNat 5), .int .i64 (.ofNat 3), .int .i64 (.ofNat 0), .int .i64 (.ofNat 1), .int .i64 (.ofNat 2), .int .i64 (.ofNat 1), .int .i64 (.ofNat 1), .slice none 0 0, .int .i64 (.ofNat 4), .slice none 0 0]⟩], 4,
   [(0, .cells false 0 [.int .i64 (.negSucc 0), .int .i64 (.negSucc 0)]),
    (1, .dead),
    (2, .cells false 0 [.int .i64 (.ofNat 6), .int .i64 (.ofNat 6), .int .i64 (.ofNat 6), .int .i64 (.ofNat 6), .int .i64 (.ofNat 6)]),
    (3, .dead)],
   [],
   .tuple ⟨[.slice none 0 0, .int .i64 (.ofNat 30)]⟩⟩
theorem ce172_ok : ce172.okS EE.G = true := by kernel_rfl
theorem ce172_run : evT EE [] 1000000000 (.call ce172.f ce172.args) ce172.heap (keptK ce172) = some (.bool true) := by kernel_rfl
theorem ce172_h : ce172.holds EE := ent_run envOk (fun _ h => by cases h) _ _ ce172_ok ce172_run
-- decani/cold.Takes, 219 steps
noncomputable def ce180 : Ent :=
  ⟨25, [.agg ⟨[.int .i64 (.ofNat 4), .int .i64 (.ofNat 5), .int .i64 (.ofNat 16), .int .i64 (.ofNat 0), .int .i64 (.ofNat 1), .int .i64 (.ofNat 2), .int .i64 (.ofNat 1), .int .i64 (.ofNat 1), .slice none 0 0, .int .i64 (.ofNat 2), .slice none 0 0]⟩, .int .i64 (.ofNat 2)], 4,
   [(0, .cells false 0 [.int .i64 (.negSucc 0), .int .i64 (.negSucc 0)]),
    (1, .dead),
    (2, .cells false 0 [.int .i64 (.ofNat 6), .int .i64 (.ofNat 6), .int .i64 (.ofNat 6), .int .i64 (.ofNat 6), .int .i64 (.ofNat 6)]),
    (3, .dead)],
   [],
   .tuple ⟨[.agg ⟨[.int .i64 (.ofNat 0), .int .i64 (.ofNat 0)]⟩, .int .i64 (.ofNat 30)]⟩⟩
theorem ce180_ok : ce180.okS EE.G = true := by kernel_rfl
theorem ce180_run : evT EE [] 1000000000 (.call ce180.f ce180.args) ce180.heap (keptK ce180) = some (.bool true) := by kernel_rfl
theorem ce180_h : ce180.holds EE := ent_run envOk (fun _ h => by cases h) _ _ ce180_ok ce180_run
-- decani/cold.Wrong, 204 steps
noncomputable def ce188 : Ent :=
  ⟨29, [.agg ⟨[.int .i64 (.ofNat 4), .int .i64 (.ofNat 5), .int .i64 (.ofNat 3), .int .i64 (.ofNat 0), .int .i64 (.ofNat 1), .int .i64 (.ofNat 2), .int .i64 (.ofNat 1), .int .i64 (.ofNat 1), .slice none 0 0, .int .i64 (.negSucc 0), .slice none 0 0]⟩], 4,
   [(0, .cells false 0 [.int .i64 (.negSucc 0), .int .i64 (.negSucc 0)]),
    (1, .dead),
    (2, .cells false 0 [.int .i64 (.ofNat 6), .int .i64 (.ofNat 6), .int .i64 (.ofNat 6), .int .i64 (.ofNat 6), .int .i64 (.ofNat 6)]),
    (3, .dead)],
   [],
   .tuple ⟨[.slice none 0 0, .int .i64 (.ofNat 30)]⟩⟩
theorem ce188_ok : ce188.okS EE.G = true := by kernel_rfl
theorem ce188_run : evT EE [] 1000000000 (.call ce188.f ce188.args) ce188.heap (keptK ce188) = some (.bool true) := by kernel_rfl
theorem ce188_h : ce188.holds EE := ent_run envOk (fun _ h => by cases h) _ _ ce188_ok ce188_run
-- decani/cold.Wrong, 186 steps
noncomputable def ce196 : Ent :=
  ⟨29, [.agg ⟨[.int .i64 (.ofNat 4), .int .i64 (.ofNat 5), .int .i64 (.ofNat 3), .int .i64 (.ofNat 5), .int .i64 (.ofNat 1), .int .i64 (.ofNat 2), .int .i64 (.ofNat 1), .int .i64 (.ofNat 1), .slice none 0 0, .int .i64 (.ofNat 2), .slice none 0 0]⟩], 4,
   [(0, .cells false 0 [.int .i64 (.negSucc 0), .int .i64 (.negSucc 0)]),
    (1, .dead),
    (2, .cells false 0 [.int .i64 (.ofNat 6), .int .i64 (.ofNat 6), .int .i64 (.ofNat 6), .int .i64 (.ofNat 6), .int .i64 (.ofNat 6)]),
    (3, .dead)],
   [],
   .tuple ⟨[.slice none 0 0, .int .i64 (.ofNat 30)]⟩⟩
theorem ce196_ok : ce196.okS EE.G = true := by kernel_rfl
theorem ce196_run : evT EE [] 1000000000 (.call ce196.f ce196.args) ce196.heap (keptK ce196) = some (.bool true) := by kernel_rfl
theorem ce196_h : ce196.holds EE := ent_run envOk (fun _ h => by cases h) _ _ ce196_ok ce196_run
-- decani/cold.Fits, 182 steps
noncomputable def ce204 : Ent :=
  ⟨28, [.agg ⟨[.int .i64 (.ofNat 6), .int .i64 (.ofNat 5), .int .i64 (.ofNat 3), .int .i64 (.ofNat 0), .int .i64 (.ofNat 1), .int .i64 (.ofNat 2), .int .i64 (.ofNat 1), .int .i64 (.ofNat 1), .slice none 0 0, .int .i64 (.ofNat 2), .slice none 0 0]⟩, .agg ⟨[.int .i64 (.negSucc 0), .int .i64 (.ofNat 0), .bool true]⟩], 4,
   [(0, .cells false 0 [.int .i64 (.negSucc 0), .int .i64 (.negSucc 0)]),
    (1, .dead),
    (2, .cells false 0 [.int .i64 (.ofNat 6), .int .i64 (.ofNat 6), .int .i64 (.ofNat 6), .int .i64 (.ofNat 6), .int .i64 (.ofNat 6)]),
    (3, .dead)],
   [],
   .tuple ⟨[.bool false, .int .i64 (.ofNat 30)]⟩⟩
theorem ce204_ok : ce204.okS EE.G = true := by kernel_rfl
theorem ce204_run : evT EE [] 1000000000 (.call ce204.f ce204.args) ce204.heap (keptK ce204) = some (.bool true) := by kernel_rfl
theorem ce204_h : ce204.holds EE := ent_run envOk (fun _ h => by cases h) _ _ ce204_ok ce204_run
-- decani/cold.Caught, 161 steps
noncomputable def ce212 : Ent :=
  ⟨22, [.agg ⟨[.int .i64 (.ofNat 6), .int .i64 (.ofNat 5), .int .i64 (.ofNat 3), .int .i64 (.ofNat 0), .int .i64 (.ofNat 1), .int .i64 (.ofNat 2), .int .i64 (.ofNat 1), .int .i64 (.ofNat 1), .slice none 0 0, .int .i64 (.ofNat 2), .slice none 0 0]⟩, .int .i64 (.negSucc 0)], 4,
   [(0, .cells false 0 [.int .i64 (.negSucc 0), .int .i64 (.negSucc 0)]),
    (1, .dead),
    (2, .cells false 0 [.int .i64 (.ofNat 6), .int .i64 (.ofNat 6), .int .i64 (.ofNat 6), .int .i64 (.ofNat 6), .int .i64 (.ofNat 6)]),
    (3, .dead)],
   [],
   .tuple ⟨[.agg ⟨[.int .i64 (.ofNat 0), .int .i64 (.ofNat 0)]⟩, .int .i64 (.ofNat 30)]⟩⟩
theorem ce212_ok : ce212.okS EE.G = true := by kernel_rfl
theorem ce212_run : evT EE [] 1000000000 (.call ce212.f ce212.args) ce212.heap (keptK ce212) = some (.bool true) := by kernel_rfl
theorem ce212_h : ce212.holds EE := ent_run envOk (fun _ h => by cases h) _ _ ce212_ok ce212_run
-- decani/cold.Right, 152 steps
noncomputable def ce220 : Ent :=
  ⟨20, [.agg ⟨[.int .i64 (.ofNat 4), .int .i64 (.ofNat 5), .int .i64 (.ofNat 16), .int .i64 (.ofNat 0), .int .i64 (.ofNat 1), .int .i64 (.ofNat 2), .int .i64 (.ofNat 1), .int .i64 (.ofNat 1), .slice none 0 0, .int .i64 (.ofNat 2), .slice none 0 0]⟩], 4,
   [(0, .cells false 0 [.int .i64 (.negSucc 0), .int .i64 (.negSucc 0)]),
    (1, .dead),
    (2, .cells false 0 [.int .i64 (.ofNat 6), .int .i64 (.ofNat 6), .int .i64 (.ofNat 6), .int .i64 (.ofNat 6), .int .i64 (.ofNat 6)]),
    (3, .dead)],
   [],
   .tuple ⟨[.bool false, .int .i64 (.ofNat 30)]⟩⟩
theorem ce220_ok : ce220.okS EE.G = true := by kernel_rfl
theorem ce220_run : evT EE [] 1000000000 (.call ce220.f ce220.args) ce220.heap (keptK ce220) = some (.bool true) := by kernel_rfl
theorem ce220_h : ce220.holds EE := ent_run envOk (fun _ h => by cases h) _ _ ce220_ok ce220_run
-- decani/cold.Clean, 122 steps
noncomputable def ce228 : Ent :=
  ⟨26, [.agg ⟨[.int .i64 (.ofNat 0), .int .i64 (.ofNat 0), .int .i64 (.ofNat 0), .int .i64 (.ofNat 0), .int .i64 (.ofNat 0), .int .i64 (.ofNat 0), .int .i64 (.ofNat 0), .int .i64 (.ofNat 0), .slice none 0 0, .int .i64 (.ofNat 0), .slice none 0 0]⟩], 4,
   [(0, .cells false 0 [.int .i64 (.negSucc 0), .int .i64 (.negSucc 0)]),
    (1, .dead),
    (2, .cells false 0 [.int .i64 (.ofNat 6), .int .i64 (.ofNat 6), .int .i64 (.ofNat 6), .int .i64 (.ofNat 6), .int .i64 (.ofNat 6)]),
    (3, .dead)],
   [],
   .tuple ⟨[.slice none 0 0, .int .i64 (.ofNat 30)]⟩⟩
theorem ce228_ok : ce228.okS EE.G = true := by kernel_rfl
theorem ce228_run : evT EE [] 1000000000 (.call ce228.f ce228.args) ce228.heap (keptK ce228) = some (.bool true) := by kernel_rfl
theorem ce228_h : ce228.holds EE := ent_run envOk (fun _ h => by cases h) _ _ ce228_ok ce228_run
-- decani/cold.Wrong, 89 steps
noncomputable def ce236 : Ent :=
  ⟨29, [.agg ⟨[.int .i64 (.ofNat 6), .int .i64 (.ofNat 5), .int .i64 (.ofNat 3), .int .i64 (.ofNat 0), .int .i64 (.ofNat 1), .int .i64 (.ofNat 2), .int .i64 (.ofNat 1), .int .i64 (.ofNat 1), .slice none 0 0, .int .i64 (.ofNat 2), .slice none 0 0]⟩], 4,
   [(0, .cells false 0 [.int .i64 (.negSucc 0), .int .i64 (.negSucc 0)]),
    (1, .dead),
    (2, .cells false 0 [.int .i64 (.ofNat 6), .int .i64 (.ofNat 6), .int .i64 (.ofNat 6), .int .i64 (.ofNat 6), .int .i64 (.ofNat 6)]),
    (3, .dead)],
   [],
   .tuple ⟨[.slice none 0 0, .int .i64 (.ofNat 30)]⟩⟩
theorem ce236_ok : ce236.okS EE.G = true := by kernel_rfl
theorem ce236_run : evT EE [] 1000000000 (.call ce236.f ce236.args) ce236.heap (keptK ce236) = some (.bool true) := by kernel_rfl
theorem ce236_h : ce236.holds EE := ent_run envOk (fun _ h => by cases h) _ _ ce236_ok ce236_run
end Go.Proofs.YtbhgicggpkibeaaDoor
