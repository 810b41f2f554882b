/- Known calls, part 1: what single calls hand back, at small heaps, by the kernel's own run of the evaluator. No conditions. -/
import Derived.Test.YtbhgicggpkibeaaDoorEnv
set_option linter.all false
namespace Go.Proofs.YtbhgicggpkibeaaDoor
open Go.Ai
set_option maxRecDepth 1000000
-- decani/cold.From, 23359 steps
noncomputable def ce1 : Ent :=
  ⟨24, [.agg ⟨[.int .i64 (.ofNat 4), .int .i64 (.ofNat 5), .int .i64 (.ofNat 3), .int .i64 (.ofNat 0), .int .i64 (.ofNat 1), .int .i64 (.ofNat 2), .int .i64 (.ofNat 1), .int .i64 (.ofNat 1), .slice none 0 0, .int .i64 (.ofNat 2), .slice (some ⟨4, 0, none⟩) 1 1]⟩], 5,
   [(0, .cells false 0 [.int .i64 (.negSucc 0), .int .i64 (.negSucc 0)]),
    (1, .dead),
    (2, .cells false 0 [.int .i64 (.ofNat 6), .int .i64 (.ofNat 6), .int .i64 (.ofNat 6), .int .i64 (.ofNat 6), .int .i64 (.ofNat 6)]),
    (3, .dead),
    (4, .cells true 0 [.int .i64 (.ofNat 0), .int .i64 (.ofNat 1), .bool true])],
   [(2, [.int .i64 (.ofNat 0)])],
   .tuple ⟨[.slice (some ⟨5, 0, none⟩) 1 18446744073709551616, .int .i64 (.ofNat 0)]⟩⟩
theorem ce1_ok : ce1.okS EE.G = true := by kernel_rfl
theorem ce1_run : evT EE [] 1000000000 (.call ce1.f ce1.args) ce1.heap (keptK ce1) = some (.bool true) := by kernel_rfl
theorem ce1_h : ce1.holds EE := ent_run envOk (fun _ h => by cases h) _ _ ce1_ok ce1_run
-- decani/cold.Ill, 8585 steps
noncomputable def ce17 : Ent :=
  ⟨21, [.agg ⟨[.int .i64 (.ofNat 4), .int .i64 (.ofNat 5), .int .i64 (.ofNat 3), .int .i64 (.ofNat 0), .int .i64 (.ofNat 1), .int .i64 (.ofNat 2), .int .i64 (.ofNat 1), .int .i64 (.ofNat 1), .slice none 0 0, .int .i64 (.ofNat 2), .slice none 0 0]⟩, .int .i64 (.ofNat 2), .int .i64 (.ofNat 1)], 4,
   [(0, .cells false 0 [.int .i64 (.negSucc 0), .int .i64 (.negSucc 0)]),
    (1, .dead),
    (2, .cells false 0 [.int .i64 (.ofNat 6), .int .i64 (.ofNat 6), .int .i64 (.ofNat 6), .int .i64 (.ofNat 6), .int .i64 (.ofNat 6)]),
    (3, .dead)],
   [],
   .tuple ⟨[.int .i64 (.ofNat 1), .int .i64 (.ofNat 0)]⟩⟩
theorem ce17_ok : ce17.okS EE.G = true := by kernel_rfl
theorem ce17_run : evT EE [] 1000000000 (.call ce17.f ce17.args) ce17.heap (keptK ce17) = some (.bool true) := by kernel_rfl
theorem ce17_h : ce17.holds EE := ent_run envOk (fun _ h => by cases h) _ _ ce17_ok ce17_run
-- decani/cold.Fits, 7123 steps
noncomputable def ce25 : Ent :=
  ⟨28, [.agg ⟨[.int .i64 (.ofNat 4), .int .i64 (.ofNat 5), .int .i64 (.ofNat 3), .int .i64 (.ofNat 0), .int .i64 (.ofNat 1), .int .i64 (.ofNat 2), .int .i64 (.ofNat 1), .int .i64 (.ofNat 1), .slice none 0 0, .int .i64 (.ofNat 2), .slice none 0 0]⟩, .agg ⟨[.int .i64 (.ofNat 3), .int .i64 (.ofNat 3), .bool true]⟩], 4,
   [(0, .cells false 0 [.int .i64 (.negSucc 0), .int .i64 (.negSucc 0)]),
    (1, .dead),
    (2, .cells false 0 [.int .i64 (.ofNat 6), .int .i64 (.ofNat 6), .int .i64 (.ofNat 6), .int .i64 (.ofNat 6), .int .i64 (.ofNat 6)]),
    (3, .dead)],
   [],
   .tuple ⟨[.bool true, .int .i64 (.ofNat 0)]⟩⟩
theorem ce25_ok : ce25.okS EE.G = true := by kernel_rfl
theorem ce25_run : evT EE [] 1000000000 (.call ce25.f ce25.args) ce25.heap (keptK ce25) = some (.bool true) := by kernel_rfl
theorem ce25_h : ce25.holds EE := ent_run envOk (fun _ h => by cases h) _ _ ce25_ok ce25_run
-- decani/cold.Caught, 773 steps
noncomputable def ce41 : Ent :=
  ⟨22, [.agg ⟨[.int .i64 (.ofNat 4), .int .i64 (.ofNat 5), .int .i64 (.ofNat 3), .int .i64 (.ofNat 0), .int .i64 (.ofNat 1), .int .i64 (.ofNat 2), .int .i64 (.ofNat 1), .int .i64 (.ofNat 1), .slice none 0 0, .int .i64 (.ofNat 2), .slice (some ⟨4, 0, none⟩) 2 2]⟩, .int .i64 (.negSucc 0)], 5,
   [(0, .cells false 0 [.int .i64 (.negSucc 0), .int .i64 (.negSucc 0)]),
    (1, .dead),
    (2, .cells false 0 [.int .i64 (.ofNat 6), .int .i64 (.ofNat 6), .int .i64 (.ofNat 6), .int .i64 (.ofNat 6), .int .i64 (.ofNat 6)]),
    (3, .dead),
    (4, .cells true 0 [.int .i64 (.ofNat 0), .int .i64 (.ofNat 1), .bool true, .int .i64 (.ofNat 2), .int .i64 (.ofNat 2), .bool true])],
   [],
   .tuple ⟨[.agg ⟨[.int .i64 (.ofNat 0), .int .i64 (.ofNat 0)]⟩, .int .i64 (.ofNat 31)]⟩⟩
theorem ce41_ok : ce41.okS EE.G = true := by kernel_rfl
theorem ce41_run : evT EE [] 1000000000 (.call ce41.f ce41.args) ce41.heap (keptK ce41) = some (.bool true) := by kernel_rfl
theorem ce41_h : ce41.holds EE := ent_run envOk (fun _ h => by cases h) _ _ ce41_ok ce41_run
-- decani/cold.Ill, 680 steps
noncomputable def ce48 : Ent :=
  ⟨21, [.agg ⟨[.int .i64 (.ofNat 4), .int .i64 (.ofNat 5), .int .i64 (.ofNat 3), .int .i64 (.ofNat 0), .int .i64 (.ofNat 1), .int .i64 (.ofNat 2), .int .i64 (.ofNat 1), .int .i64 (.ofNat 1), .slice (some ⟨4, 0, none⟩) 1 1, .int .i64 (.ofNat 2), .slice none 0 0]⟩, .int .i64 (.negSucc 0), .int .i64 (.ofNat 0)], 5,
   [(0, .cells false 0 [.int .i64 (.negSucc 0), .int .i64 (.negSucc 0)]),
    (1, .dead),
    (2, .cells false 0 [.int .i64 (.ofNat 6), .int .i64 (.ofNat 6), .int .i64 (.ofNat 6), .int .i64 (.ofNat 6), .int .i64 (.ofNat 6)]),
    (3, .dead),
    (4, .cells true 0 [.int .i64 (.ofNat 1), .int .i64 (.ofNat 0)])],
   [],
   .tuple ⟨[.int .i64 (.ofNat 0), .int .i64 (.ofNat 30)]⟩⟩
theorem ce48_ok : ce48.okS EE.G = true := by kernel_rfl
theorem ce48_run : evT EE [] 1000000000 (.call ce48.f ce48.args) ce48.heap (keptK ce48) = some (.bool true) := by kernel_rfl
theorem ce48_h : ce48.holds EE := ent_run envOk (fun _ h => by cases h) _ _ ce48_ok ce48_run
-- decani/cold.Fits, 653 steps
noncomputable def ce56 : Ent :=
  ⟨28, [.agg ⟨[.int .i64 (.ofNat 4), .int .i64 (.ofNat 5), .int .i64 (.ofNat 3), .int .i64 (.ofNat 0), .int .i64 (.ofNat 1), .int .i64 (.ofNat 2), .int .i64 (.ofNat 1), .int .i64 (.ofNat 1), .slice none 0 0, .int .i64 (.ofNat 2), .slice (some ⟨4, 0, none⟩) 1 1]⟩, .agg ⟨[.int .i64 (.negSucc 0), .int .i64 (.ofNat 0), .bool true]⟩], 5,
   [(0, .cells false 0 [.int .i64 (.negSucc 0), .int .i64 (.negSucc 0)]),
    (1, .dead),
    (2, .cells false 0 [.int .i64 (.ofNat 6), .int .i64 (.ofNat 6), .int .i64 (.ofNat 6), .int .i64 (.ofNat 6), .int .i64 (.ofNat 6)]),
    (3, .dead),
    (4, .cells true 0 [.int .i64 (.ofNat 0), .int .i64 (.ofNat 5), .bool true])],
   [],
   .tuple ⟨[.bool false, .int .i64 (.ofNat 30)]⟩⟩
theorem ce56_ok : ce56.okS EE.G = true := by kernel_rfl
theorem ce56_run : evT EE [] 1000000000 (.call ce56.f ce56.args) ce56.heap (keptK ce56) = some (.bool true) := by kernel_rfl
theorem ce56_h : ce56.holds EE := ent_run envOk (fun _ h => by cases h) _ _ ce56_ok ce56_run
-- decani/cold.Coughs, 625 steps
noncomputable def ce64 : Ent :=
  ⟨23, [.agg ⟨[.int .i64 (.ofNat 4), .int .i64 (.ofNat 5), .int .i64 (.ofNat 3), .int .i64 (.ofNat 0), .int .i64 (.ofNat 1), .int .i64 (.ofNat 2), .int .i64 (.ofNat 1), .int .i64 (.ofNat 1), .slice none 0 0, .int .i64 (.ofNat 2), .slice (some ⟨4, 0, none⟩) 1 1]⟩, .int .i64 (.negSucc 0), .int .i64 (.ofNat 0)], 5,
   [(0, .cells false 0 [.int .i64 (.negSucc 0), .int .i64 (.negSucc 0)]),
    (1, .dead),
    (2, .cells false 0 [.int .i64 (.ofNat 6), .int .i64 (.ofNat 6), .int .i64 (.ofNat 6), .int .i64 (.ofNat 6), .int .i64 (.ofNat 6)]),
    (3, .dead),
    (4, .cells true 0 [.int .i64 (.ofNat 4), .int .i64 (.ofNat 0), .bool true])],
   [],
   .tuple ⟨[.int .i64 (.ofNat 0), .int .i64 (.ofNat 30)]⟩⟩
theorem ce64_ok : ce64.okS EE.G = true := by kernel_rfl
theorem ce64_run : evT EE [] 1000000000 (.call ce64.f ce64.args) ce64.heap (keptK ce64) = some (.bool true) := by kernel_rfl
theorem ce64_h : ce64.holds EE := ent_run envOk (fun _ h => by cases h) _ _ ce64_ok ce64_run
-- decani/cold.Caught, 601 steps
noncomputable def ce72 : Ent :=
  ⟨22, [.agg ⟨[.int .i64 (.ofNat 4), .int .i64 (.ofNat 5), .int .i64 (.ofNat 3), .int .i64 (.ofNat 0), .int .i64 (.ofNat 1), .int .i64 (.ofNat 2), .int .i64 (.ofNat 1), .int .i64 (.ofNat 1), .slice (some ⟨4, 0, none⟩) 1 1, .int .i64 (.ofNat 2), .slice none 0 0]⟩, .int .i64 (.negSucc 0)], 5,
   [(0, .cells false 0 [.int .i64 (.negSucc 0), .int .i64 (.negSucc 0)]),
    (1, .dead),
    (2, .cells false 0 [.int .i64 (.ofNat 6), .int .i64 (.ofNat 6), .int .i64 (.ofNat 6), .int .i64 (.ofNat 6), .int .i64 (.ofNat 6)]),
    (3, .dead),
    (4, .cells true 0 [.int .i64 (.ofNat 4), .int .i64 (.ofNat 1)])],
   [],
   .tuple ⟨[.agg ⟨[.int .i64 (.ofNat 0), .int .i64 (.ofNat 0)]⟩, .int .i64 (.ofNat 30)]⟩⟩
theorem ce72_ok : ce72.okS EE.G = true := by kernel_rfl
theorem ce72_run : evT EE [] 1000000000 (.call ce72.f ce72.args) ce72.heap (keptK ce72) = some (.bool true) := by kernel_rfl
theorem ce72_h : ce72.holds EE := ent_run envOk (fun _ h => by cases h) _ _ ce72_ok ce72_run
-- decani/cold.From, 562 steps
noncomputable def ce80 : Ent :=
  ⟨24, [.agg ⟨[.int .i64 (.ofNat 4), .int .i64 (.ofNat 5), .int .i64 (.ofNat 3), .int .i64 (.ofNat 0), .int .i64 (.ofNat 1), .int .i64 (.ofNat 2), .int .i64 (.ofNat 1), .int .i64 (.ofNat 1), .slice (some ⟨4, 0, none⟩) 1 1, .int .i64 (.ofNat 2), .slice none 0 0]⟩], 5,
   [(0, .cells false 0 [.int .i64 (.negSucc 0), .int .i64 (.negSucc 0)]),
    (1, .dead),
    (2, .cells false 0 [.int .i64 (.ofNat 6), .int .i64 (.ofNat 6), .int .i64 (.ofNat 6), .int .i64 (.ofNat 6), .int .i64 (.ofNat 6)]),
    (3, .dead),
    (4, .cells true 0 [.int .i64 (.ofNat 4), .int .i64 (.ofNat 1)])],
   [],
   .tuple ⟨[.slice none 0 0, .int .i64 (.ofNat 30)]⟩⟩
theorem ce80_ok : ce80.okS EE.G = true := by kernel_rfl
theorem ce80_run : evT EE [] 1000000000 (.call ce80.f ce80.args) ce80.heap (keptK ce80) = some (.bool true) := by kernel_rfl
theorem ce80_h : ce80.holds EE := ent_run envOk (fun _ h => by cases h) _ _ ce80_ok ce80_run
-- decani/cold.Ill, 534 steps
noncomputable def ce88 : Ent :=
  ⟨21, [.agg ⟨[.int .i64 (.ofNat 4), .int .i64 (.ofNat 5), .int .i64 (.ofNat 3), .int .i64 (.ofNat 0), .int .i64 (.ofNat 1), .int .i64 (.ofNat 2), .int .i64 (.ofNat 1), .int .i64 (.ofNat 1), .slice none 0 0, .int .i64 (.ofNat 2), .slice (some ⟨4, 0, none⟩) 5 5]⟩, .int .i64 (.negSucc 0), .int .i64 (.ofNat 0)], 5,
   [(0, .cells false 0 [.int .i64 (.negSucc 0), .int .i64 (.negSucc 0)]),
    (1, .dead),
    (2, .cells false 0 [.int .i64 (.ofNat 6), .int .i64 (.ofNat 6), .int .i64 (.ofNat 6), .int .i64 (.ofNat 6), .int .i64 (.ofNat 6)]),
    (3, .dead),
    (4, .cells true 0 [.int .i64 (.ofNat 0), .int .i64 (.ofNat 0), .bool false, .int .i64 (.ofNat 0), .int .i64 (.ofNat 0), .bool false, .int .i64 (.ofNat 0), .int .i64 (.ofNat 0), .bool false, .int .i64 (.ofNat 0), .int .i64 (.ofNat 0), .bool false, .int .i64 (.ofNat 0), .int .i64 (.ofNat 0), .bool false])],
   [],
   .tuple ⟨[.int .i64 (.ofNat 0), .int .i64 (.ofNat 30)]⟩⟩
theorem ce88_ok : ce88.okS EE.G = true := by kernel_rfl
theorem ce88_run : evT EE [] 1000000000 (.call ce88.f ce88.args) ce88.heap (keptK ce88) = some (.bool true) := by kernel_rfl
theorem ce88_h : ce88.holds EE := ent_run envOk (fun _ h => by cases h) _ _ ce88_ok ce88_run
-- decani/cold.Apart, 523 steps
noncomputable def ce96 : Ent :=
  ⟨27, [.agg ⟨[.int .i64 (.ofNat 4), .int .i64 (.ofNat 5), .int .i64 (.ofNat 3), .int .i64 (.ofNat 0), .int .i64 (.ofNat 1), .int .i64 (.ofNat 2), .int .i64 (.ofNat 1), .int .i64 (.ofNat 1), .slice none 0 0, .int .i64 (.ofNat 2), .slice (some ⟨4, 0, none⟩) 5 5]⟩, .int .i64 (.ofNat 0)], 5,
   [(0, .cells false 0 [.int .i64 (.negSucc 0), .int .i64 (.negSucc 0)]),
    (1, .dead),
    (2, .cells false 0 [.int .i64 (.ofNat 6), .int .i64 (.ofNat 6), .int .i64 (.ofNat 6), .int .i64 (.ofNat 6), .int .i64 (.ofNat 6)]),
    (3, .dead),
    (4, .cells true 0 [.int .i64 (.ofNat 0), .int .i64 (.ofNat 0), .bool false, .int .i64 (.ofNat 0), .int .i64 (.ofNat 0), .bool false, .int .i64 (.ofNat 0), .int .i64 (.ofNat 0), .bool false, .int .i64 (.ofNat 0), .int .i64 (.ofNat 0), .bool false, .int .i64 (.ofNat 0), .int .i64 (.ofNat 0), .bool false])],
   [],
   .tuple ⟨[.slice none 0 0, .int .i64 (.ofNat 30)]⟩⟩
theorem ce96_ok : ce96.okS EE.G = true := by kernel_rfl
theorem ce96_run : evT EE [] 1000000000 (.call ce96.f ce96.args) ce96.heap (keptK ce96) = some (.bool true) := by kernel_rfl
theorem ce96_h : ce96.holds EE := ent_run envOk (fun _ h => by cases h) _ _ ce96_ok ce96_run
-- decani/cold.Coughs, 457 steps
noncomputable def ce104 : Ent :=
  ⟨23, [.agg ⟨[.int .i64 (.ofNat 4), .int .i64 (.ofNat 5), .int .i64 (.ofNat 3), .int .i64 (.ofNat 0), .int .i64 (.ofNat 1), .int .i64 (.ofNat 2), .int .i64 (.ofNat 0), .int .i64 (.ofNat 0), .slice none 0 0, .int .i64 (.ofNat 2), .slice none 0 0]⟩, .int .i64 (.negSucc 0), .int .i64 (.ofNat 0)], 4,
   [(0, .cells false 0 [.int .i64 (.negSucc 0), .int .i64 (.negSucc 0)]),
    (1, .dead),
    (2, .cells false 0 [.int .i64 (.ofNat 6), .int .i64 (.ofNat 6), .int .i64 (.ofNat 6), .int .i64 (.ofNat 6), .int .i64 (.ofNat 6)]),
    (3, .dead)],
   [],
   .tuple ⟨[.int .i64 (.ofNat 0), .int .i64 (.ofNat 30)]⟩⟩
theorem ce104_ok : ce104.okS EE.G = true := by kernel_rfl
theorem ce104_run : evT EE [] 1000000000 (.call ce104.f ce104.args) ce104.heap (keptK ce104) = some (.bool true) := by kernel_rfl
theorem ce104_h : ce104.holds EE := ent_run envOk (fun _ h => by cases h) _ _ ce104_ok ce104_run
-- decani/cold.Wrong, 435 steps
noncomputable def ce112 : Ent :=
  ⟨29, [.agg ⟨[.int .i64 (.ofNat 4), .int .i64 (.ofNat 5), .int .i64 (.ofNat 3), .int .i64 (.ofNat 0), .int .i64 (.ofNat 1), .int .i64 (.ofNat 2), .int .i64 (.ofNat 1), .int .i64 (.ofNat 1), .slice none 0 0, .int .i64 (.ofNat 2), .slice (some ⟨4, 0, none⟩) 5 5]⟩], 5,
   [(0, .cells false 0 [.int .i64 (.negSucc 0), .int .i64 (.negSucc 0)]),
    (1, .dead),
    (2, .cells false 0 [.int .i64 (.ofNat 6), .int .i64 (.ofNat 6), .int .i64 (.ofNat 6), .int .i64 (.ofNat 6), .int .i64 (.ofNat 6)]),
    (3, .dead),
    (4, .cells true 0 [.int .i64 (.ofNat 0), .int .i64 (.ofNat 0), .bool false, .int .i64 (.ofNat 0), .int .i64 (.ofNat 0), .bool false, .int .i64 (.ofNat 0), .int .i64 (.ofNat 0), .bool false, .int .i64 (.ofNat 0), .int .i64 (.ofNat 0), .bool false, .int .i64 (.ofNat 0), .int .i64 (.ofNat 0), .bool false])],
   [],
   .tuple ⟨[.slice none 0 0, .int .i64 (.ofNat 30)]⟩⟩
theorem ce112_ok : ce112.okS EE.G = true := by kernel_rfl
theorem ce112_run : evT EE [] 1000000000 (.call ce112.f ce112.args) ce112.heap (keptK ce112) = some (.bool true) := by kernel_rfl
theorem ce112_h : ce112.holds EE := ent_run envOk (fun _ h => by cases h) _ _ ce112_ok ce112_run
-- decani/cold.From, 391 steps
noncomputable def ce120 : Ent :=
  ⟨24, [.agg ⟨[.int .i64 (.ofNat 4), .int .i64 (.ofNat 5), .int .i64 (.ofNat 3), .int .i64 (.ofNat 0), .int .i64 (.ofNat 1), .int .i64 (.ofNat 2), .int .i64 (.ofNat 0), .int .i64 (.ofNat 0), .slice none 0 0, .int .i64 (.ofNat 2), .slice none 0 0]⟩], 4,
   [(0, .cells false 0 [.int .i64 (.negSucc 0), .int .i64 (.negSucc 0)]),
    (1, .dead),
    (2, .cells false 0 [.int .i64 (.ofNat 6), .int .i64 (.ofNat 6), .int .i64 (.ofNat 6), .int .i64 (.ofNat 6), .int .i64 (.ofNat 6)]),
    (3, .dead)],
   [],
   .tuple ⟨[.slice none 0 0, .int .i64 (.ofNat 30)]⟩⟩
theorem ce120_ok : ce120.okS EE.G = true := by kernel_rfl
theorem ce120_run : evT EE [] 1000000000 (.call ce120.f ce120.args) ce120.heap (keptK ce120) = some (.bool true) := by kernel_rfl
theorem ce120_h : ce120.holds EE := ent_run envOk (fun _ h => by cases h) _ _ ce120_ok ce120_run
-- decani/cold.Right, 358 steps
noncomputable def ce128 : Ent :=
  ⟨20, [.agg ⟨[.int .i64 (.ofNat 4), .int .i64 (.ofNat 5), .int .i64 (.ofNat 3), .int .i64 (.ofNat 0), .int .i64 (.ofNat 1), .int .i64 (.ofNat 2), .int .i64 (.ofNat 0), .int .i64 (.ofNat 0), .slice none 0 0, .int .i64 (.ofNat 2), .slice none 0 0]⟩], 4,
   [(0, .cells false 0 [.int .i64 (.negSucc 0), .int .i64 (.negSucc 0)]),
    (1, .dead),
    (2, .cells false 0 [.int .i64 (.ofNat 6), .int .i64 (.ofNat 6), .int .i64 (.ofNat 6), .int .i64 (.ofNat 6), .int .i64 (.ofNat 6)]),
    (3, .dead)],
   [],
   .tuple ⟨[.bool false, .int .i64 (.ofNat 30)]⟩⟩
theorem ce128_ok : ce128.okS EE.G = true := by kernel_rfl
theorem ce128_run : evT EE [] 1000000000 (.call ce128.f ce128.args) ce128.heap (keptK ce128) = some (.bool true) := by kernel_rfl
theorem ce128_h : ce128.holds EE := ent_run envOk (fun _ h => by cases h) _ _ ce128_ok ce128_run
-- decani/cold.From, 316 steps
noncomputable def ce136 : Ent :=
  ⟨24, [.agg ⟨[.int .i64 (.ofNat 4), .int .i64 (.ofNat 5), .int .i64 (.ofNat 3), .int .i64 (.ofNat 0), .int .i64 (.ofNat 1), .int .i64 (.ofNat 3), .int .i64 (.ofNat 1), .int .i64 (.ofNat 1), .slice none 0 0, .int .i64 (.ofNat 2), .slice none 0 0]⟩], 4,
   [(0, .cells false 0 [.int .i64 (.negSucc 0), .int .i64 (.negSucc 0)]),
    (1, .dead),
    (2, .cells false 0 [.int .i64 (.ofNat 6), .int .i64 (.ofNat 6), .int .i64 (.ofNat 6), .int .i64 (.ofNat 6), .int .i64 (.ofNat 6)]),
    (3, .dead)],
   [],
   .tuple ⟨[.slice none 0 0, .int .i64 (.ofNat 30)]⟩⟩
theorem ce136_ok : ce136.okS EE.G = true := by kernel_rfl
theorem ce136_run : evT EE [] 1000000000 (.call ce136.f ce136.args) ce136.heap (keptK ce136) = some (.bool true) := by kernel_rfl
theorem ce136_h : ce136.holds EE := ent_run envOk (fun _ h => by cases h) _ _ ce136_ok ce136_run
-- decani/cold.Apart, 292 steps
noncomputable def ce144 : Ent :=
  ⟨27, [.agg ⟨[.int .i64 (.ofNat 4), .int .i64 (.ofNat 5), .int .i64 (.ofNat 3), .int .i64 (.ofNat 0), .int .i64 (.ofNat 1), .int .i64 (.ofNat 2), .int .i64 (.ofNat 1), .int .i64 (.ofNat 1), .slice none 0 0, .int .i64 (.ofNat 4), .slice none 0 0]⟩, .int .i64 (.ofNat 0)], 4,
   [(0, .cells false 0 [.int .i64 (.negSucc 0), .int .i64 (.negSucc 0)]),
    (1, .dead),
    (2, .cells false 0 [.int .i64 (.ofNat 6), .int .i64 (.ofNat 6), .int .i64 (.ofNat 6), .int .i64 (.ofNat 6), .int .i64 (.ofNat 6)]),
    (3, .dead)],
   [],
   .tuple ⟨[.slice none 0 0, .int .i64 (.ofNat 30)]⟩⟩
theorem ce144_ok : ce144.okS EE.G = true := by kernel_rfl
theorem ce144_run : evT EE [] 1000000000 (.call ce144.f ce144.args) ce144.heap (keptK ce144) = some (.bool true) := by kernel_rfl
theorem ce144_h : ce144.holds EE := ent_run envOk (fun _ h => by cases h) _ _ ce144_ok ce144_run
-- decani/cold.Caught, 276 steps
noncomputable def ce152 : Ent :=
  ⟨22, [.agg ⟨[.int .i64 (.ofNat 4), .int .i64 (.ofNat 5), .int .i64 (.ofNat 3), .int .i64 (.ofNat 0), .int .i64 (.ofNat 1), .int .i64 (.ofNat 2), .int .i64 (.ofNat 1), .int .i64 (.ofNat 1), .slice none 0 0, .int .i64 (.negSucc 0), .slice none 0 0]⟩, .int .i64 (.negSucc 0)], 4,
   [(0, .cells false 0 [.int .i64 (.negSucc 0), .int .i64 (.negSucc 0)]),
    (1, .dead),
    (2, .cells false 0 [.int .i64 (.ofNat 6), .int .i64 (.ofNat 6), .int .i64 (.ofNat 6), .int .i64 (.ofNat 6), .int .i64 (.ofNat 6)]),
    (3, .dead)],
   [],
   .tuple ⟨[.agg ⟨[.int .i64 (.ofNat 0), .int .i64 (.ofNat 0)]⟩, .int .i64 (.ofNat 30)]⟩⟩
theorem ce152_ok : ce152.okS EE.G = true := by kernel_rfl
theorem ce152_run : evT EE [] 1000000000 (.call ce152.f ce152.args) ce152.heap (keptK ce152) = some (.bool true) := by kernel_rfl
theorem ce152_h : ce152.holds EE := ent_run envOk (fun _ h => by cases h) _ _ ce152_ok ce152_run
-- decani/cold.Coughs, 251 steps
noncomputable def ce160 : Ent :=
  ⟨23, [.agg ⟨[.int .i64 (.ofNat 1), .int .i64 (.ofNat 5), .int .i64 (.ofNat 3), .int .i64 (.ofNat 0), .int .i64 (.ofNat 1), .int .i64 (.ofNat 2), .int .i64 (.ofNat 1), .int .i64 (.ofNat 1), .slice none 0 0, .int .i64 (.ofNat 2), .slice none 0 0]⟩, .int .i64 (.negSucc 0), .int .i64 (.ofNat 0)], 4,
   [(0, .cells false 0 [.int .i64 (.negSucc 0), .int .i64 (.negSucc 0)]),
    (1, .dead),
    (2, .cells false 0 [.int .i64 (.ofNat 6), .int .i64 (.ofNat 6), .int .i64 (.ofNat 6), .int .i64 (.ofNat 6), .int .i64 (.ofNat 6)]),
    (3, .dead)],
   [],
   .tuple ⟨[.int .i64 (.ofNat 0), .int .i64 (.ofNat 30)]⟩⟩
theorem ce160_ok : ce160.okS EE.G = true := by kernel_rfl
theorem ce160_run : evT EE [] 1000000000 (.call ce160.f ce160.args) ce160.heap (keptK ce160) = some (.bool true) := by kernel_rfl
theorem ce160_h : ce160.holds EE := ent_run envOk (fun _ h => by cases h) _ _ ce160_ok ce160_run
-- decani/cold.Apart, 240 steps
noncomputable def ce168 : Ent :=
  ⟨27, [.agg ⟨[.int .i64 (.ofNat 1), .int .i64 (.ofNat 5), .int .i64 (.ofNat 3), .int .i64 (.ofNat 0), .int .i64 (.ofNat 1), .int .i64 (.ofNat 2), .int .i64 (.ofNat 1), .int .i64 (.ofNat 1), .slice none 0 0, .int .i64 (.ofNat 2), .slice none 0 0]⟩, .int .i64 (.ofNat 0)], 4,
   [(0, .cells false 0 [.int .i64 (.negSucc 0), .int .i64 (.negSucc 0)]),
    (1, .dead),
    (2, .cells false 0 [.int .i64 (.ofNat 6), .int .i64 (.ofNat 6), .int .i64 (.ofNat 6), .int .i64 (.ofNat 6), .int .i64 (.ofNat 6)]),
    (3, .dead)],
   [],
   .tuple ⟨[.slice none 0 0, .int .i64 (.ofNat 30)]⟩⟩
theorem ce168_ok : ce168.okS EE.G = true := by kernel_rfl
theorem ce168_run : evT EE [] 1000000000 (.call ce168.f ce168.args) ce168.heap (keptK ce168) = some (.bool true) := by kernel_rfl
theorem ce168_h : ce168.holds EE := ent_run envOk (fun _ h => by cases h) _ _ ce168_ok ce168_run
-- decani/cold.Caught, 224 steps
noncomputable def ce176 : Ent :=
  ⟨22, [.agg ⟨[.int .i64 (.ofNat 4), .int .i64 (.ofNat 5), .int .i64 (.ofNat 0), .int .i64 (.ofNat 0), .int .i64 (.ofNat 1), .int .i64 (.ofNat 2), .int .i64 (.ofNat 1), .int .i64 (.ofNat 1), .slice none 0 0, .int .i64 (.ofNat 2), .slice none 0 0]⟩, .int .i64 (.negSucc 0)], 4,
   [(0, .cells false 0 [.int .i64 (.negSucc 0), .int .i64 (.negSucc 0)]),
    (1, .dead),
    (2, .cells false 0 [.int .i64 (.ofNat 6), .int .i64 (.ofNat 6), .int .i64 (.ofNat 6), .int .i64 (.ofNat 6), .int .i64 (.ofNat 6)]),
    (3, .dead)],
   [],
   .tuple ⟨[.agg ⟨[.int .i64 (.ofNat 0), .int .i64 (.ofNat 0)]⟩, .int .i64 (.ofNat 30)]⟩⟩
theorem ce176_ok : ce176.okS EE.G = true := by kernel_rfl
theorem ce176_run : evT EE [] 1000000000 (.call ce176.f ce176.args) ce176.heap (keptK ce176) = some (.bool true) := by kernel_rfl
theorem ce176_h : ce176.holds EE := ent_run envOk (fun _ h => by cases h) _ _ ce176_ok ce176_run
-- decani/cold.Coughs, 206 steps
noncomputable def ce184 : Ent :=
  ⟨23, [.agg ⟨[.int .i64 (.ofNat 4), .int .i64 (.ofNat 7), .int .i64 (.ofNat 3), .int .i64 (.ofNat 0), .int .i64 (.ofNat 1), .int .i64 (.ofNat 2), .int .i64 (.ofNat 1), .int .i64 (.ofNat 1), .slice none 0 0, .int .i64 (.ofNat 2), .slice none 0 0]⟩, .int .i64 (.negSucc 0), .int .i64 (.ofNat 0)], 4,
   [(0, .cells false 0 [.int .i64 (.negSucc 0), .int .i64 (.negSucc 0)]),
    (1, .dead),
    (2, .cells false 0 [.int .i64 (.ofNat 6), .int .i64 (.ofNat 6), .int .i64 (.ofNat 6), .int .i64 (.ofNat 6), .int .i64 (.ofNat 6)]),
    (3, .dead)],
   [],
   .tuple ⟨[.int .i64 (.ofNat 0), .int .i64 (.ofNat 30)]⟩⟩
theorem ce184_ok : ce184.okS EE.G = true := by kernel_rfl
theorem ce184_run : evT EE [] 1000000000 (.call ce184.f ce184.args) ce184.heap (keptK ce184) = some (.bool true) := by kernel_rfl
theorem ce184_h : ce184.holds EE := ent_run envOk (fun _ h => by cases h) _ _ ce184_ok ce184_run
-- decani/cold.Coughs, 188 steps
noncomputable def ce192 : Ent :=
  ⟨23, [.agg ⟨[.int .i64 (.ofNat 0), .int .i64 (.ofNat 0), .int .i64 (.ofNat 0), .int .i64 (.ofNat 0), .int .i64 (.ofNat 0), .int .i64 (.ofNat 0), .int .i64 (.ofNat 0), .int .i64 (.ofNat 0), .slice none 0 0, .int .i64 (.ofNat 0), .slice none 0 0]⟩, .int .i64 (.negSucc 0), .int .i64 (.ofNat 0)], 4,
   [(0, .cells false 0 [.int .i64 (.negSucc 0), .int .i64 (.negSucc 0)]),
    (1, .dead),
    (2, .cells false 0 [.int .i64 (.ofNat 6), .int .i64 (.ofNat 6), .int .i64 (.ofNat 6), .int .i64 (.ofNat 6), .int .i64 (.ofNat 6)]),
    (3, .dead)],
   [],
   .tuple ⟨[.int .i64 (.ofNat 0), .int .i64 (.ofNat 30)]⟩⟩
theorem ce192_ok : ce192.okS EE.G = true := by kernel_rfl
theorem ce192_run : evT EE [] 1000000000 (.call ce192.f ce192.args) ce192.heap (keptK ce192) = some (.bool true) := by kernel_rfl
theorem ce192_h : ce192.holds EE := ent_run envOk (fun _ h => by cases h) _ _ ce192_ok ce192_run
-- decani/cold.Clean, 185 steps
noncomputable def ce200 : Ent :=
  ⟨26, [.agg ⟨[.int .i64 (.ofNat 4), .int .i64 (.ofNat 5), .int .i64 (.ofNat 0), .int .i64 (.ofNat 0), .int .i64 (.ofNat 1), .int .i64 (.ofNat 2), .int .i64 (.ofNat 1), .int .i64 (.ofNat 1), .slice none 0 0, .int .i64 (.ofNat 2), .slice none 0 0]⟩], 4,
   [(0, .cells false 0 [.int .i64 (.negSucc 0), .int .i64 (.negSucc 0)]),
    (1, .dead),
    (2, .cells false 0 [.int .i64 (.ofNat 6), .int .i64 (.ofNat 6), .int .i64 (.ofNat 6), .int .i64 (.ofNat 6), .int .i64 (.ofNat 6)]),
    (3, .dead)],
   [],
   .tuple ⟨[.slice none 0 0, .int .i64 (.ofNat 30)]⟩⟩
theorem ce200_ok : ce200.okS EE.G = true := by kernel_rfl
theorem ce200_run : evT EE [] 1000000000 (.call ce200.f ce200.args) ce200.heap (keptK ce200) = some (.bool true) := by kernel_rfl
theorem ce200_h : ce200.holds EE := ent_run envOk (fun _ h => by cases h) _ _ ce200_ok ce200_run
-- decani/cold.Check, 177 steps
noncomputable def ce208 : Ent :=
  ⟨30, [.agg ⟨[.int .i64 (.ofNat 4), .int .i64 (.ofNat 5), .int .i64 (.ofNat 3), .int .i64 (.ofNat 0), .int .i64 (.ofNat 1), .int .i64 (.ofNat 2), .int .i64 (.ofNat 1), .int .i64 (.ofNat 1), .slice none 0 0, .int .i64 (.ofNat 4), .slice none 0 0]⟩], 4,
   [(0, .cells false 0 [.int .i64 (.negSucc 0), .int .i64 (.negSucc 0)]),
    (1, .dead),
    (2, .cells false 0 [.int .i64 (.ofNat 6), .int .i64 (.ofNat 6), .int .i64 (.ofNat 6), .int .i64 (.ofNat 6), .int .i64 (.ofNat 6)]),
    (3, .dead)],
   [],
   .int .i64 (.ofNat 30)⟩
theorem ce208_ok : ce208.okS EE.G = true := by kernel_rfl
theorem ce208_run : evT EE [] 1000000000 (.call ce208.f ce208.args) ce208.heap (keptK ce208) = some (.bool true) := by kernel_rfl
theorem ce208_h : ce208.holds EE := ent_run envOk (fun _ h => by cases h) _ _ ce208_ok ce208_run
-- decani/cold.Right, 152 steps
noncomputable def ce216 : Ent :=
  ⟨20, [.agg ⟨[.int .i64 (.ofNat 1), .int .i64 (.ofNat 5), .int .i64 (.ofNat 3), .int .i64 (.ofNat 0), .int .i64 (.ofNat 1), .int .i64 (.ofNat 2), .int .i64 (.ofNat 1), .int .i64 (.ofNat 1), .slice none 0 0, .int .i64 (.ofNat 2), .slice none 0 0]⟩], 4,
   [(0, .cells false 0 [.int .i64 (.negSucc 0), .int .i64 (.negSucc 0)]),
    (1, .dead),
    (2, .cells false 0 [.int .i64 (.ofNat 6), .int .i64 (.ofNat 6), .int .i64 (.ofNat 6), .int .i64 (.ofNat 6), .int .i64 (.ofNat 6)]),
    (3, .dead)],
   [],
   .tuple ⟨[.bool false, .int .i64 (.ofNat 30)]⟩⟩
theorem ce216_ok : ce216.okS EE.G = true := by kernel_rfl
theorem ce216_run : evT EE [] 1000000000 (.call ce216.f ce216.args) ce216.heap (keptK ce216) = some (.bool true) := by kernel_rfl
theorem ce216_h : ce216.holds EE := ent_run envOk (fun _ h => by cases h) _ _ ce216_ok ce216_run
-- decani/cold.Check, 125 steps
noncomputable def ce224 : Ent :=
  ⟨30, [.agg ⟨[.int .i64 (.ofNat 1), .int .i64 (.ofNat 5), .int .i64 (.ofNat 3), .int .i64 (.ofNat 0), .int .i64 (.ofNat 1), .int .i64 (.ofNat 2), .int .i64 (.ofNat 1), .int .i64 (.ofNat 1), .slice none 0 0, .int .i64 (.ofNat 2), .slice none 0 0]⟩], 4,
   [(0, .cells false 0 [.int .i64 (.negSucc 0), .int .i64 (.negSucc 0)]),
    (1, .dead),
    (2, .cells false 0 [.int .i64 (.ofNat 6), .int .i64 (.ofNat 6), .int .i64 (.ofNat 6), .int .i64 (.ofNat 6), .int .i64 (.ofNat 6)]),
    (3, .dead)],
   [],
   .int .i64 (.ofNat 30)⟩
theorem ce224_ok : ce224.okS EE.G = true := by kernel_rfl
theorem ce224_run : evT EE [] 1000000000 (.call ce224.f ce224.args) ce224.heap (keptK ce224) = some (.bool true) := by kernel_rfl
theorem ce224_h : ce224.holds EE := ent_run envOk (fun _ h => by cases h) _ _ ce224_ok ce224_run
-- decani/cold.Wrong, 107 steps
noncomputable def ce232 : Ent :=
  ⟨29, [.agg ⟨[.int .i64 (.ofNat 4), .int .i64 (.ofNat 7), .int .i64 (.ofNat 3), .int .i64 (.ofNat 0), .int .i64 (.ofNat 1), .int .i64 (.ofNat 2), .int .i64 (.ofNat 1), .int .i64 (.ofNat 1), .slice none 0 0, .int .i64 (.ofNat 2), .slice none 0 0]⟩], 4,
   [(0, .cells false 0 [.int .i64 (.negSucc 0), .int .i64 (.negSucc 0)]),
    (1, .dead),
    (2, .cells false 0 [.int .i64 (.ofNat 6), .int .i64 (.ofNat 6), .int .i64 (.ofNat 6), .int .i64 (.ofNat 6), .int .i64 (.ofNat 6)]),
    (3, .dead)],
   [],
   .tuple ⟨[.slice none 0 0, .int .i64 (.ofNat 30)]⟩⟩
theorem ce232_ok : ce232.okS EE.G = true := by kernel_rfl
theorem ce232_run : evT EE [] 1000000000 (.call ce232.f ce232.args) ce232.heap (keptK ce232) = some (.bool true) := by kernel_rfl
theorem ce232_h : ce232.holds EE := ent_run envOk (fun _ h => by cases h) _ _ ce232_ok ce232_run
end Go.Proofs.YtbhgicggpkibeaaDoor
