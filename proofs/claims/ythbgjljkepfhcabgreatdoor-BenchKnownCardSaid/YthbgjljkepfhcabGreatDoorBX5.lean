/- Known calls, part 5: what single calls hand back, at small heaps, by the kernel's own run of the evaluator. No conditions. -/
import Derived.Test.YthbgjljkepfhcabGreatDoorBA
set_option linter.all false
namespace Go.Proofs.YthbgjljkepfhcabGreatDoor
open Go.Ai
set_option maxRecDepth 1000000
-- decani/bench.May, 210555 steps
noncomputable def bx5 : Ent :=
  ⟨9, [.agg ⟨[.slice (some ⟨3, 0, none⟩) 2 2, .int .i64 (.ofNat 4), .slice none 0 0, .slice (some ⟨4, 0, none⟩) 3 3, .int .i64 (.ofNat 1)]⟩, .slice (some ⟨8, 0, none⟩) 1 1, .slice (some ⟨9, 0, none⟩) 3 3], 10,
   [(0, .cells false 0 [.int .i64 (.negSucc 0), .int .i64 (.negSucc 0), .int .i64 (.negSucc 0), .int .i64 (.negSucc 0), .int .i64 (.negSucc 0)]),
    (1, .cells false 0 [.int .i64 (.ofNat 0), .int .i64 (.ofNat 0), .int .i64 (.ofNat 0), .int .i64 (.ofNat 0)]),
    (2, .cells false 0 [.int .i64 (.ofNat 40), .int .i64 (.ofNat 2), .int .i64 (.ofNat 40), .int .i64 (.ofNat 2), .int .i64 (.ofNat 2), .int .i64 (.ofNat 1), .int .i64 (.ofNat 6), .int .i64 (.ofNat 2), .int .i64 (.ofNat 9), .int .i64 (.ofNat 3)]),
    (3, .cells true 0 [.int .i64 (.ofNat 5), .int .i64 (.ofNat 6), .int .i64 (.ofNat 20), .int .i64 (.ofNat 21), .int .i64 (.ofNat 1), .int .i64 (.ofNat 2), .int .i64 (.ofNat 2), .int .i64 (.ofNat 3), .int .i64 (.ofNat 1), .int .i64 (.ofNat 3), .int .i64 (.ofNat 5), .int .i64 (.ofNat 8), .int .i64 (.ofNat 8), .int .i64 (.ofNat 18), .int .i64 (.ofNat 18), .int .i64 (.ofNat 0), .int .i64 (.ofNat 1), .int .i64 (.ofNat 1), .int .i64 (.ofNat 1), .int .i64 (.ofNat 0), .int .i64 (.ofNat 6), .int .i64 (.ofNat 7)]),
    (4, .cells true 0 [.int .i64 (.ofNat 0), .slice (some ⟨5, 0, none⟩) 2 2, .int .i64 (.ofNat 3), .slice (some ⟨6, 0, none⟩) 1 1, .int .i64 (.ofNat 3), .slice (some ⟨7, 0, none⟩) 1 1]),
    (5, .cells true 0 [.int .i64 (.ofNat 6), .int .i64 (.ofNat 20), .int .i64 (.ofNat 1), .int .i64 (.ofNat 8), .int .i64 (.ofNat 18), .int .i64 (.ofNat 1)]),
    (6, .cells true 0 [.int .i64 (.ofNat 8), .int .i64 (.ofNat 18), .int .i64 (.ofNat 1)]),
    (7, .cells true 0 [.int .i64 (.ofNat 10), .int .i64 (.ofNat 18), .int .i64 (.ofNat 1)]),
    (8, .cells true 0 [.int .i64 (.ofNat 0)]),
    (9, .cells true 0 [.int .i64 (.ofNat 0), .int .i64 (.ofNat 0), .int .i64 (.ofNat 0), .int .i64 (.ofNat 0), .int .i64 (.ofNat 1), .int .i64 (.ofNat 1), .int .i64 (.ofNat 2), .int .i64 (.ofNat 0), .int .i64 (.ofNat 1)])],
   [],
   .tuple ⟨[.bool false, .int .i64 (.ofNat 0)]⟩⟩
theorem bx5_ok : bx5.okS EE.G = true := by kernel_rfl
theorem bx5_run : evT EE baT 1000000000 (.call bx5.f bx5.args) bx5.heap (keptK bx5) = some (.bool true) := by kernel_rfl
theorem bx5_h : bx5.holds EE := ent_run envOk baT_holds _ _ bx5_ok bx5_run
-- decani/bench.May, 39102 steps
noncomputable def bx11 : Ent :=
  ⟨9, [.agg ⟨[.slice (some ⟨3, 0, none⟩) 2 2, .int .i64 (.ofNat 4), .slice (some ⟨4, 0, none⟩) 2 2, .slice (some ⟨5, 0, none⟩) 3 3, .int .i64 (.ofNat 1)]⟩, .slice (some ⟨9, 0, none⟩) 1 1, .slice none 0 0], 10,
   [(0, .cells false 0 [.int .i64 (.negSucc 0), .int .i64 (.negSucc 0), .int .i64 (.negSucc 0), .int .i64 (.negSucc 0), .int .i64 (.negSucc 0)]),
    (1, .cells false 0 [.int .i64 (.ofNat 0), .int .i64 (.ofNat 0), .int .i64 (.ofNat 0), .int .i64 (.ofNat 0)]),
    (2, .cells false 0 [.int .i64 (.ofNat 40), .int .i64 (.ofNat 2), .int .i64 (.ofNat 40), .int .i64 (.ofNat 2), .int .i64 (.ofNat 2), .int .i64 (.ofNat 1), .int .i64 (.ofNat 6), .int .i64 (.ofNat 2), .int .i64 (.ofNat 9), .int .i64 (.ofNat 3)]),
    (3, .cells true 0 [.int .i64 (.ofNat 5), .int .i64 (.ofNat 6), .int .i64 (.ofNat 20), .int .i64 (.ofNat 21), .int .i64 (.ofNat 1), .int .i64 (.ofNat 2), .int .i64 (.ofNat 2), .int .i64 (.ofNat 3), .int .i64 (.ofNat 1), .int .i64 (.ofNat 3), .int .i64 (.ofNat 5), .int .i64 (.ofNat 8), .int .i64 (.ofNat 8), .int .i64 (.ofNat 18), .int .i64 (.ofNat 18), .int .i64 (.ofNat 0), .int .i64 (.ofNat 1), .int .i64 (.ofNat 1), .int .i64 (.ofNat 1), .int .i64 (.ofNat 0), .int .i64 (.ofNat 6), .int .i64 (.ofNat 7)]),
    (4, .cells true 0 [.int .i64 (.ofNat 0), .int .i64 (.ofNat 3), .int .i64 (.ofNat 15), .int .i64 (.ofNat 0), .int .i64 (.ofNat 0), .int .i64 (.ofNat 3), .int .i64 (.ofNat 20), .int .i64 (.ofNat 1)]),
    (5, .cells true 0 [.int .i64 (.ofNat 0), .slice (some ⟨6, 0, none⟩) 2 2, .int .i64 (.ofNat 3), .slice (some ⟨7, 0, none⟩) 1 1, .int .i64 (.ofNat 3), .slice (some ⟨8, 0, none⟩) 1 1]),
    (6, .cells true 0 [.int .i64 (.ofNat 6), .int .i64 (.ofNat 20), .int .i64 (.ofNat 1), .int .i64 (.ofNat 8), .int .i64 (.ofNat 18), .int .i64 (.ofNat 1)]),
    (7, .cells true 0 [.int .i64 (.ofNat 8), .int .i64 (.ofNat 18), .int .i64 (.ofNat 1)]),
    (8, .cells true 0 [.int .i64 (.ofNat 10), .int .i64 (.ofNat 18), .int .i64 (.ofNat 1)]),
    (9, .cells true 0 [.int .i64 (.ofNat 0)])],
   [],
   .tuple ⟨[.bool false, .int .i64 (.ofNat 72)]⟩⟩
theorem bx11_ok : bx11.okS EE.G = true := by kernel_rfl
theorem bx11_run : evT EE baT 1000000000 (.call bx11.f bx11.args) bx11.heap (keptK bx11) = some (.bool true) := by kernel_rfl
theorem bx11_h : bx11.holds EE := ent_run envOk baT_holds _ _ bx11_ok bx11_run
-- decani/bench.Can, 209859 steps
noncomputable def bx17 : Ent :=
  ⟨7, [.agg ⟨[.slice (some ⟨3, 0, none⟩) 2 2, .int .i64 (.ofNat 4), .slice none 0 0, .slice (some ⟨4, 0, none⟩) 3 3, .int .i64 (.ofNat 1)]⟩, .int .i64 (.ofNat 1), .int .i64 (.ofNat 0)], 8,
   [(0, .cells false 0 [.int .i64 (.negSucc 0), .int .i64 (.negSucc 0), .int .i64 (.negSucc 0), .int .i64 (.negSucc 0), .int .i64 (.negSucc 0)]),
    (1, .cells false 0 [.int .i64 (.ofNat 0), .int .i64 (.ofNat 0), .int .i64 (.ofNat 0), .int .i64 (.ofNat 0)]),
    (2, .cells false 0 [.int .i64 (.ofNat 40), .int .i64 (.ofNat 2), .int .i64 (.ofNat 40), .int .i64 (.ofNat 2), .int .i64 (.ofNat 2), .int .i64 (.ofNat 1), .int .i64 (.ofNat 6), .int .i64 (.ofNat 2), .int .i64 (.ofNat 9), .int .i64 (.ofNat 3)]),
    (3, .cells true 0 [.int .i64 (.ofNat 5), .int .i64 (.ofNat 6), .int .i64 (.ofNat 20), .int .i64 (.ofNat 21), .int .i64 (.ofNat 1), .int .i64 (.ofNat 2), .int .i64 (.ofNat 2), .int .i64 (.ofNat 3), .int .i64 (.ofNat 1), .int .i64 (.ofNat 3), .int .i64 (.ofNat 5), .int .i64 (.ofNat 8), .int .i64 (.ofNat 8), .int .i64 (.ofNat 18), .int .i64 (.ofNat 18), .int .i64 (.ofNat 0), .int .i64 (.ofNat 1), .int .i64 (.ofNat 1), .int .i64 (.ofNat 1), .int .i64 (.ofNat 0), .int .i64 (.ofNat 6), .int .i64 (.ofNat 7)]),
    (4, .cells true 0 [.int .i64 (.ofNat 0), .slice (some ⟨5, 0, none⟩) 2 2, .int .i64 (.ofNat 3), .slice (some ⟨6, 0, none⟩) 1 1, .int .i64 (.ofNat 3), .slice (some ⟨7, 0, none⟩) 1 1]),
    (5, .cells true 0 [.int .i64 (.ofNat 6), .int .i64 (.ofNat 20), .int .i64 (.ofNat 1), .int .i64 (.ofNat 8), .int .i64 (.ofNat 18), .int .i64 (.ofNat 1)]),
    (6, .cells true 0 [.int .i64 (.ofNat 8), .int .i64 (.ofNat 18), .int .i64 (.ofNat 1)]),
    (7, .cells true 0 [.int .i64 (.ofNat 10), .int .i64 (.ofNat 18), .int .i64 (.ofNat 1)])],
   [.cells true 2 [.int .i64 (.ofNat 1)]],
   .tuple ⟨[.slice (some ⟨8, 0, none⟩) 1 18446744073709551616, .int .i64 (.ofNat 0)]⟩⟩
theorem bx17_ok : bx17.okS EE.G = true := by kernel_rfl
theorem bx17_run : evT EE baT 1000000000 (.call bx17.f bx17.args) bx17.heap (keptK bx17) = some (.bool true) := by kernel_rfl
theorem bx17_h : bx17.holds EE := ent_run envOk baT_holds _ _ bx17_ok bx17_run
-- decani/bench.Need, 278637 steps
noncomputable def bx23 : Ent :=
  ⟨14, [.agg ⟨[.slice (some ⟨3, 0, none⟩) 2 2, .int .i64 (.ofNat 4), .slice none 0 0, .slice (some ⟨4, 0, none⟩) 3 3, .int .i64 (.ofNat 1)]⟩], 8,
   [(0, .cells false 0 [.int .i64 (.negSucc 0), .int .i64 (.negSucc 0), .int .i64 (.negSucc 0), .int .i64 (.negSucc 0), .int .i64 (.negSucc 0)]),
    (1, .cells false 0 [.int .i64 (.ofNat 0), .int .i64 (.ofNat 0), .int .i64 (.ofNat 0), .int .i64 (.ofNat 0)]),
    (2, .cells false 0 [.int .i64 (.ofNat 40), .int .i64 (.ofNat 2), .int .i64 (.ofNat 40), .int .i64 (.ofNat 2), .int .i64 (.ofNat 2), .int .i64 (.ofNat 1), .int .i64 (.ofNat 6), .int .i64 (.ofNat 2), .int .i64 (.ofNat 9), .int .i64 (.ofNat 3)]),
    (3, .cells true 0 [.int .i64 (.ofNat 5), .int .i64 (.ofNat 6), .int .i64 (.ofNat 20), .int .i64 (.ofNat 21), .int .i64 (.ofNat 1), .int .i64 (.ofNat 2), .int .i64 (.ofNat 2), .int .i64 (.ofNat 3), .int .i64 (.ofNat 1), .int .i64 (.ofNat 3), .int .i64 (.ofNat 5), .int .i64 (.ofNat 8), .int .i64 (.ofNat 8), .int .i64 (.ofNat 18), .int .i64 (.ofNat 18), .int .i64 (.ofNat 0), .int .i64 (.ofNat 1), .int .i64 (.ofNat 1), .int .i64 (.ofNat 1), .int .i64 (.ofNat 0), .int .i64 (.ofNat 6), .int .i64 (.ofNat 7)]),
    (4, .cells true 0 [.int .i64 (.ofNat 0), .slice (some ⟨5, 0, none⟩) 2 2, .int .i64 (.ofNat 3), .slice (some ⟨6, 0, none⟩) 1 1, .int .i64 (.ofNat 3), .slice (some ⟨7, 0, none⟩) 1 1]),
    (5, .cells true 0 [.int .i64 (.ofNat 6), .int .i64 (.ofNat 20), .int .i64 (.ofNat 1), .int .i64 (.ofNat 8), .int .i64 (.ofNat 18), .int .i64 (.ofNat 1)]),
    (6, .cells true 0 [.int .i64 (.ofNat 8), .int .i64 (.ofNat 18), .int .i64 (.ofNat 1)]),
    (7, .cells true 0 [.int .i64 (.ofNat 10), .int .i64 (.ofNat 18), .int .i64 (.ofNat 1)])],
   [.cells true 2 [.int .i64 (.ofNat 0), .int .i64 (.ofNat 1)]],
   .tuple ⟨[.slice (some ⟨8, 0, none⟩) 2 18446744073709551616, .int .i64 (.ofNat 0)]⟩⟩
theorem bx23_ok : bx23.okS EE.G = true := by kernel_rfl
theorem bx23_run : evT EE baT 1000000000 (.call bx23.f bx23.args) bx23.heap (keptK bx23) = some (.bool true) := by kernel_rfl
theorem bx23_h : bx23.holds EE := ent_run envOk baT_holds _ _ bx23_ok bx23_run
-- decani/bench.Ways, 217334 steps
noncomputable def bx29 : Ent :=
  ⟨10, [.agg ⟨[.slice (some ⟨3, 0, none⟩) 2 2, .int .i64 (.ofNat 4), .slice none 0 0, .slice (some ⟨4, 0, none⟩) 3 3, .int .i64 (.ofNat 2)]⟩], 8,
   [(0, .cells false 0 [.int .i64 (.negSucc 0), .int .i64 (.negSucc 0), .int .i64 (.negSucc 0), .int .i64 (.negSucc 0), .int .i64 (.negSucc 0)]),
    (1, .cells false 0 [.int .i64 (.ofNat 0), .int .i64 (.ofNat 0), .int .i64 (.ofNat 0), .int .i64 (.ofNat 0)]),
    (2, .cells false 0 [.int .i64 (.ofNat 40), .int .i64 (.ofNat 2), .int .i64 (.ofNat 40), .int .i64 (.ofNat 2), .int .i64 (.ofNat 2), .int .i64 (.ofNat 1), .int .i64 (.ofNat 6), .int .i64 (.ofNat 2), .int .i64 (.ofNat 9), .int .i64 (.ofNat 3)]),
    (3, .cells true 0 [.int .i64 (.ofNat 5), .int .i64 (.ofNat 6), .int .i64 (.ofNat 20), .int .i64 (.ofNat 21), .int .i64 (.ofNat 1), .int .i64 (.ofNat 2), .int .i64 (.ofNat 2), .int .i64 (.ofNat 3), .int .i64 (.ofNat 1), .int .i64 (.ofNat 3), .int .i64 (.ofNat 5), .int .i64 (.ofNat 8), .int .i64 (.ofNat 8), .int .i64 (.ofNat 18), .int .i64 (.ofNat 18), .int .i64 (.ofNat 0), .int .i64 (.ofNat 1), .int .i64 (.ofNat 1), .int .i64 (.ofNat 1), .int .i64 (.ofNat 0), .int .i64 (.ofNat 6), .int .i64 (.ofNat 7)]),
    (4, .cells true 0 [.int .i64 (.ofNat 0), .slice (some ⟨5, 0, none⟩) 2 2, .int .i64 (.ofNat 3), .slice (some ⟨6, 0, none⟩) 1 1, .int .i64 (.ofNat 3), .slice (some ⟨7, 0, none⟩) 1 1]),
    (5, .cells true 0 [.int .i64 (.ofNat 6), .int .i64 (.ofNat 20), .int .i64 (.ofNat 1), .int .i64 (.ofNat 8), .int .i64 (.ofNat 18), .int .i64 (.ofNat 1)]),
    (6, .cells true 0 [.int .i64 (.ofNat 8), .int .i64 (.ofNat 18), .int .i64 (.ofNat 1)]),
    (7, .cells true 0 [.int .i64 (.ofNat 10), .int .i64 (.ofNat 18), .int .i64 (.ofNat 1)])],
   [],
   .tuple ⟨[.int .i64 (.ofNat 1), .int .i64 (.ofNat 0)]⟩⟩
theorem bx29_ok : bx29.okS EE.G = true := by kernel_rfl
theorem bx29_run : evT EE baT 1000000000 (.call bx29.f bx29.args) bx29.heap (keptK bx29) = some (.bool true) := by kernel_rfl
theorem bx29_h : bx29.holds EE := ent_run envOk baT_holds _ _ bx29_ok bx29_run
-- decani/bench.May, 2904 steps
noncomputable def bx35 : Ent :=
  ⟨9, [.agg ⟨[.slice (some ⟨3, 0, none⟩) 2 2, .int .i64 (.ofNat 4), .slice (some ⟨4, 0, none⟩) 2 2, .slice (some ⟨5, 0, none⟩) 3 3, .int .i64 (.ofNat 1)]⟩, .slice (some ⟨9, 0, none⟩) 2 2, .slice none 0 0], 10,
   [(0, .cells false 0 [.int .i64 (.negSucc 0), .int .i64 (.negSucc 0), .int .i64 (.negSucc 0), .int .i64 (.negSucc 0), .int .i64 (.negSucc 0)]),
    (1, .cells false 0 [.int .i64 (.ofNat 0), .int .i64 (.ofNat 0), .int .i64 (.ofNat 0), .int .i64 (.ofNat 0)]),
    (2, .cells false 0 [.int .i64 (.ofNat 40), .int .i64 (.ofNat 2), .int .i64 (.ofNat 40), .int .i64 (.ofNat 2), .int .i64 (.ofNat 2), .int .i64 (.ofNat 1), .int .i64 (.ofNat 6), .int .i64 (.ofNat 2), .int .i64 (.ofNat 9), .int .i64 (.ofNat 3)]),
    (3, .cells true 0 [.int .i64 (.ofNat 5), .int .i64 (.ofNat 6), .int .i64 (.ofNat 20), .int .i64 (.ofNat 21), .int .i64 (.ofNat 1), .int .i64 (.ofNat 2), .int .i64 (.ofNat 2), .int .i64 (.ofNat 3), .int .i64 (.ofNat 1), .int .i64 (.ofNat 3), .int .i64 (.ofNat 5), .int .i64 (.ofNat 8), .int .i64 (.ofNat 8), .int .i64 (.ofNat 18), .int .i64 (.ofNat 18), .int .i64 (.ofNat 0), .int .i64 (.ofNat 1), .int .i64 (.ofNat 1), .int .i64 (.ofNat 1), .int .i64 (.ofNat 0), .int .i64 (.ofNat 6), .int .i64 (.ofNat 7)]),
    (4, .cells true 0 [.int .i64 (.ofNat 0), .int .i64 (.ofNat 3), .int .i64 (.ofNat 15), .int .i64 (.ofNat 0), .int .i64 (.ofNat 0), .int .i64 (.ofNat 3), .int .i64 (.ofNat 20), .int .i64 (.ofNat 1)]),
    (5, .cells true 0 [.int .i64 (.ofNat 0), .slice (some ⟨6, 0, none⟩) 2 2, .int .i64 (.ofNat 3), .slice (some ⟨7, 0, none⟩) 1 1, .int .i64 (.ofNat 3), .slice (some ⟨8, 0, none⟩) 1 1]),
    (6, .cells true 0 [.int .i64 (.ofNat 6), .int .i64 (.ofNat 20), .int .i64 (.ofNat 1), .int .i64 (.ofNat 8), .int .i64 (.ofNat 18), .int .i64 (.ofNat 1)]),
    (7, .cells true 0 [.int .i64 (.ofNat 8), .int .i64 (.ofNat 18), .int .i64 (.ofNat 1)]),
    (8, .cells true 0 [.int .i64 (.ofNat 10), .int .i64 (.ofNat 18), .int .i64 (.ofNat 1)]),
    (9, .cells true 0 [.int .i64 (.ofNat 1), .int .i64 (.ofNat 0)])],
   [],
   .tuple ⟨[.bool false, .int .i64 (.ofNat 71)]⟩⟩
theorem bx35_ok : bx35.okS EE.G = true := by kernel_rfl
theorem bx35_run : evT EE baT 1000000000 (.call bx35.f bx35.args) bx35.heap (keptK bx35) = some (.bool true) := by kernel_rfl
theorem bx35_h : bx35.holds EE := ent_run envOk baT_holds _ _ bx35_ok bx35_run
-- decani/bench.Can, 2823 steps
noncomputable def bx36 : Ent :=
  ⟨7, [.agg ⟨[.slice (some ⟨3, 0, none⟩) 2 2, .int .i64 (.ofNat 4), .slice (some ⟨4, 0, none⟩) 2 2, .slice (some ⟨5, 0, none⟩) 3 3, .int .i64 (.ofNat 1)]⟩, .int .i64 (.ofNat 1), .int .i64 (.ofNat 1)], 9,
   [(0, .cells false 0 [.int .i64 (.negSucc 0), .int .i64 (.negSucc 0), .int .i64 (.negSucc 0), .int .i64 (.negSucc 0), .int .i64 (.negSucc 0)]),
    (1, .cells false 0 [.int .i64 (.ofNat 0), .int .i64 (.ofNat 0), .int .i64 (.ofNat 0), .int .i64 (.ofNat 0)]),
    (2, .cells false 0 [.int .i64 (.ofNat 40), .int .i64 (.ofNat 2), .int .i64 (.ofNat 40), .int .i64 (.ofNat 2), .int .i64 (.ofNat 2), .int .i64 (.ofNat 1), .int .i64 (.ofNat 6), .int .i64 (.ofNat 2), .int .i64 (.ofNat 9), .int .i64 (.ofNat 3)]),
    (3, .cells true 0 [.int .i64 (.ofNat 5), .int .i64 (.ofNat 6), .int .i64 (.ofNat 20), .int .i64 (.ofNat 21), .int .i64 (.ofNat 1), .int .i64 (.ofNat 2), .int .i64 (.ofNat 2), .int .i64 (.ofNat 3), .int .i64 (.ofNat 1), .int .i64 (.ofNat 3), .int .i64 (.ofNat 5), .int .i64 (.ofNat 8), .int .i64 (.ofNat 8), .int .i64 (.ofNat 18), .int .i64 (.ofNat 18), .int .i64 (.ofNat 0), .int .i64 (.ofNat 1), .int .i64 (.ofNat 1), .int .i64 (.ofNat 1), .int .i64 (.ofNat 0), .int .i64 (.ofNat 6), .int .i64 (.ofNat 7)]),
    (4, .cells true 0 [.int .i64 (.ofNat 0), .int .i64 (.ofNat 3), .int .i64 (.ofNat 15), .int .i64 (.ofNat 0), .int .i64 (.ofNat 0), .int .i64 (.ofNat 3), .int .i64 (.ofNat 20), .int .i64 (.ofNat 1)]),
    (5, .cells true 0 [.int .i64 (.ofNat 0), .slice (some ⟨6, 0, none⟩) 2 2, .int .i64 (.ofNat 3), .slice (some ⟨7, 0, none⟩) 1 1, .int .i64 (.ofNat 3), .slice (some ⟨8, 0, none⟩) 1 1]),
    (6, .cells true 0 [.int .i64 (.ofNat 6), .int .i64 (.ofNat 20), .int .i64 (.ofNat 1), .int .i64 (.ofNat 8), .int .i64 (.ofNat 18), .int .i64 (.ofNat 1)]),
    (7, .cells true 0 [.int .i64 (.ofNat 8), .int .i64 (.ofNat 18), .int .i64 (.ofNat 1)]),
    (8, .cells true 0 [.int .i64 (.ofNat 10), .int .i64 (.ofNat 18), .int .i64 (.ofNat 1)])],
   [],
   .tuple ⟨[.slice none 0 0, .int .i64 (.ofNat 71)]⟩⟩
theorem bx36_ok : bx36.okS EE.G = true := by kernel_rfl
theorem bx36_run : evT EE baT 1000000000 (.call bx36.f bx36.args) bx36.heap (keptK bx36) = some (.bool true) := by kernel_rfl
theorem bx36_h : bx36.holds EE := ent_run envOk baT_holds _ _ bx36_ok bx36_run
-- decani/bench.May, 1727 steps
noncomputable def bx45 : Ent :=
  ⟨9, [.agg ⟨[.slice (some ⟨3, 0, none⟩) 2 2, .int .i64 (.ofNat 4), .slice none 0 0, .slice (some ⟨4, 0, none⟩) 3 3, .int .i64 (.ofNat 1)]⟩, .slice (some ⟨8, 0, none⟩) 1 1, .slice none 0 0], 9,
   [(0, .cells false 0 [.int .i64 (.negSucc 0), .int .i64 (.negSucc 0), .int .i64 (.negSucc 0), .int .i64 (.negSucc 0), .int .i64 (.negSucc 0)]),
    (1, .cells false 0 [.int .i64 (.ofNat 0), .int .i64 (.ofNat 0), .int .i64 (.ofNat 0), .int .i64 (.ofNat 0)]),
    (2, .cells false 0 [.int .i64 (.ofNat 40), .int .i64 (.ofNat 2), .int .i64 (.ofNat 40), .int .i64 (.ofNat 2), .int .i64 (.ofNat 2), .int .i64 (.ofNat 1), .int .i64 (.ofNat 6), .int .i64 (.ofNat 2), .int .i64 (.ofNat 9), .int .i64 (.ofNat 3)]),
    (3, .cells true 0 [.int .i64 (.ofNat 5), .int .i64 (.ofNat 6), .int .i64 (.ofNat 20), .int .i64 (.ofNat 21), .int .i64 (.ofNat 1), .int .i64 (.ofNat 2), .int .i64 (.ofNat 2), .int .i64 (.ofNat 3), .int .i64 (.ofNat 1), .int .i64 (.ofNat 3), .int .i64 (.ofNat 5), .int .i64 (.ofNat 8), .int .i64 (.ofNat 8), .int .i64 (.ofNat 18), .int .i64 (.ofNat 18), .int .i64 (.ofNat 0), .int .i64 (.ofNat 1), .int .i64 (.ofNat 1), .int .i64 (.ofNat 1), .int .i64 (.ofNat 0), .int .i64 (.ofNat 6), .int .i64 (.ofNat 7)]),
    (4, .cells true 0 [.int .i64 (.ofNat 0), .slice (some ⟨5, 0, none⟩) 2 2, .int .i64 (.ofNat 3), .slice (some ⟨6, 0, none⟩) 1 1, .int .i64 (.ofNat 3), .slice (some ⟨7, 0, none⟩) 1 1]),
    (5, .cells true 0 [.int .i64 (.ofNat 6), .int .i64 (.ofNat 41), .int .i64 (.ofNat 1), .int .i64 (.ofNat 8), .int .i64 (.ofNat 18), .int .i64 (.ofNat 1)]),
    (6, .cells true 0 [.int .i64 (.ofNat 8), .int .i64 (.ofNat 18), .int .i64 (.ofNat 1)]),
    (7, .cells true 0 [.int .i64 (.ofNat 10), .int .i64 (.ofNat 18), .int .i64 (.ofNat 1)]),
    (8, .cells true 0 [.int .i64 (.ofNat 9)])],
   [],
   .tuple ⟨[.bool false, .int .i64 (.ofNat 70)]⟩⟩
theorem bx45_ok : bx45.okS EE.G = true := by kernel_rfl
theorem bx45_run : evT EE baT 1000000000 (.call bx45.f bx45.args) bx45.heap (keptK bx45) = some (.bool true) := by kernel_rfl
theorem bx45_h : bx45.holds EE := ent_run envOk baT_holds _ _ bx45_ok bx45_run
-- decani/bench.Lack, 1669 steps
noncomputable def bx50 : Ent :=
  ⟨8, [.agg ⟨[.slice (some ⟨3, 0, none⟩) 2 2, .int .i64 (.ofNat 4), .slice none 0 0, .slice (some ⟨4, 0, none⟩) 3 3, .int .i64 (.ofNat 1)]⟩, .int .i64 (.negSucc 0)], 8,
   [(0, .cells false 0 [.int .i64 (.negSucc 0), .int .i64 (.negSucc 0), .int .i64 (.negSucc 0), .int .i64 (.negSucc 0), .int .i64 (.negSucc 0)]),
    (1, .cells false 0 [.int .i64 (.ofNat 0), .int .i64 (.ofNat 0), .int .i64 (.ofNat 0), .int .i64 (.ofNat 0)]),
    (2, .cells false 0 [.int .i64 (.ofNat 40), .int .i64 (.ofNat 2), .int .i64 (.ofNat 40), .int .i64 (.ofNat 2), .int .i64 (.ofNat 2), .int .i64 (.ofNat 1), .int .i64 (.ofNat 6), .int .i64 (.ofNat 2), .int .i64 (.ofNat 9), .int .i64 (.ofNat 3)]),
    (3, .cells true 0 [.int .i64 (.ofNat 5), .int .i64 (.ofNat 6), .int .i64 (.ofNat 20), .int .i64 (.ofNat 21), .int .i64 (.ofNat 1), .int .i64 (.ofNat 2), .int .i64 (.ofNat 2), .int .i64 (.ofNat 3), .int .i64 (.ofNat 1), .int .i64 (.ofNat 3), .int .i64 (.ofNat 5), .int .i64 (.ofNat 8), .int .i64 (.ofNat 8), .int .i64 (.ofNat 18), .int .i64 (.ofNat 18), .int .i64 (.ofNat 0), .int .i64 (.ofNat 1), .int .i64 (.ofNat 1), .int .i64 (.ofNat 1), .int .i64 (.ofNat 0), .int .i64 (.ofNat 6), .int .i64 (.ofNat 7)]),
    (4, .cells true 0 [.int .i64 (.ofNat 0), .slice (some ⟨5, 0, none⟩) 2 2, .int .i64 (.ofNat 3), .slice (some ⟨6, 0, none⟩) 1 1, .int .i64 (.ofNat 3), .slice (some ⟨7, 0, none⟩) 1 1]),
    (5, .cells true 0 [.int .i64 (.ofNat 7), .int .i64 (.ofNat 6), .int .i64 (.ofNat 1), .int .i64 (.ofNat 8), .int .i64 (.ofNat 18), .int .i64 (.ofNat 1)]),
    (6, .cells true 0 [.int .i64 (.ofNat 8), .int .i64 (.ofNat 18), .int .i64 (.ofNat 1)]),
    (7, .cells true 0 [.int .i64 (.ofNat 10), .int .i64 (.ofNat 18), .int .i64 (.ofNat 1)])],
   [],
   .tuple ⟨[.int .i64 (.ofNat 0), .int .i64 (.ofNat 70)]⟩⟩
theorem bx50_ok : bx50.okS EE.G = true := by kernel_rfl
theorem bx50_run : evT EE baT 1000000000 (.call bx50.f bx50.args) bx50.heap (keptK bx50) = some (.bool true) := by kernel_rfl
theorem bx50_h : bx50.holds EE := ent_run envOk baT_holds _ _ bx50_ok bx50_run
-- decani/bench.Need, 1649 steps
noncomputable def bx56 : Ent :=
  ⟨14, [.agg ⟨[.slice (some ⟨3, 0, none⟩) 2 2, .int .i64 (.ofNat 4), .slice none 0 0, .slice (some ⟨4, 0, none⟩) 3 3, .int .i64 (.ofNat 1)]⟩], 8,
   [(0, .cells false 0 [.int .i64 (.negSucc 0), .int .i64 (.negSucc 0), .int .i64 (.negSucc 0), .int .i64 (.negSucc 0), .int .i64 (.negSucc 0)]),
    (1, .cells false 0 [.int .i64 (.ofNat 0), .int .i64 (.ofNat 0), .int .i64 (.ofNat 0), .int .i64 (.ofNat 0)]),
    (2, .cells false 0 [.int .i64 (.ofNat 40), .int .i64 (.ofNat 2), .int .i64 (.ofNat 40), .int .i64 (.ofNat 2), .int .i64 (.ofNat 2), .int .i64 (.ofNat 1), .int .i64 (.ofNat 6), .int .i64 (.ofNat 2), .int .i64 (.ofNat 9), .int .i64 (.ofNat 3)]),
    (3, .cells true 0 [.int .i64 (.ofNat 5), .int .i64 (.ofNat 6), .int .i64 (.ofNat 20), .int .i64 (.ofNat 21), .int .i64 (.ofNat 1), .int .i64 (.ofNat 2), .int .i64 (.ofNat 2), .int .i64 (.ofNat 3), .int .i64 (.ofNat 1), .int .i64 (.ofNat 3), .int .i64 (.ofNat 5), .int .i64 (.ofNat 8), .int .i64 (.ofNat 8), .int .i64 (.ofNat 18), .int .i64 (.ofNat 18), .int .i64 (.ofNat 0), .int .i64 (.ofNat 1), .int .i64 (.ofNat 1), .int .i64 (.ofNat 1), .int .i64 (.ofNat 0), .int .i64 (.ofNat 6), .int .i64 (.ofNat 7)]),
    (4, .cells true 0 [.int .i64 (.ofNat 0), .slice (some ⟨5, 0, none⟩) 2 2, .int .i64 (.ofNat 3), .slice (some ⟨6, 0, none⟩) 1 1, .int .i64 (.ofNat 3), .slice (some ⟨7, 0, none⟩) 1 1]),
    (5, .cells true 0 [.int .i64 (.ofNat 6), .int .i64 (.ofNat 20), .int .i64 (.ofNat 4), .int .i64 (.ofNat 8), .int .i64 (.ofNat 18), .int .i64 (.ofNat 1)]),
    (6, .cells true 0 [.int .i64 (.ofNat 8), .int .i64 (.ofNat 18), .int .i64 (.ofNat 1)]),
    (7, .cells true 0 [.int .i64 (.ofNat 10), .int .i64 (.ofNat 18), .int .i64 (.ofNat 1)])],
   [],
   .tuple ⟨[.slice none 0 0, .int .i64 (.ofNat 70)]⟩⟩
theorem bx56_ok : bx56.okS EE.G = true := by kernel_rfl
theorem bx56_run : evT EE baT 1000000000 (.call bx56.f bx56.args) bx56.heap (keptK bx56) = some (.bool true) := by kernel_rfl
theorem bx56_h : bx56.holds EE := ent_run envOk baT_holds _ _ bx56_ok bx56_run
-- decani/bench.Ways, 1631 steps
noncomputable def bx62 : Ent :=
  ⟨10, [.agg ⟨[.slice (some ⟨3, 0, none⟩) 2 2, .int .i64 (.ofNat 4), .slice none 0 0, .slice (some ⟨4, 0, none⟩) 3 3, .int .i64 (.ofNat 1)]⟩], 8,
   [(0, .cells false 0 [.int .i64 (.negSucc 0), .int .i64 (.negSucc 0), .int .i64 (.negSucc 0), .int .i64 (.negSucc 0), .int .i64 (.negSucc 0)]),
    (1, .cells false 0 [.int .i64 (.ofNat 0), .int .i64 (.ofNat 0), .int .i64 (.ofNat 0), .int .i64 (.ofNat 0)]),
    (2, .cells false 0 [.int .i64 (.ofNat 40), .int .i64 (.ofNat 2), .int .i64 (.ofNat 40), .int .i64 (.ofNat 2), .int .i64 (.ofNat 2), .int .i64 (.ofNat 1), .int .i64 (.ofNat 6), .int .i64 (.ofNat 2), .int .i64 (.ofNat 9), .int .i64 (.ofNat 3)]),
    (3, .cells true 0 [.int .i64 (.ofNat 5), .int .i64 (.ofNat 6), .int .i64 (.ofNat 20), .int .i64 (.ofNat 21), .int .i64 (.ofNat 1), .int .i64 (.ofNat 2), .int .i64 (.ofNat 2), .int .i64 (.ofNat 3), .int .i64 (.ofNat 1), .int .i64 (.ofNat 3), .int .i64 (.ofNat 5), .int .i64 (.ofNat 8), .int .i64 (.ofNat 8), .int .i64 (.ofNat 18), .int .i64 (.ofNat 18), .int .i64 (.ofNat 0), .int .i64 (.ofNat 1), .int .i64 (.ofNat 1), .int .i64 (.ofNat 1), .int .i64 (.ofNat 0), .int .i64 (.ofNat 6), .int .i64 (.ofNat 7)]),
    (4, .cells true 0 [.int .i64 (.ofNat 0), .slice (some ⟨5, 0, none⟩) 2 2, .int .i64 (.ofNat 3), .slice (some ⟨6, 0, none⟩) 1 1, .int .i64 (.ofNat 3), .slice (some ⟨7, 0, none⟩) 1 1]),
    (5, .cells true 0 [.int .i64 (.ofNat 6), .int .i64 (.ofNat 41), .int .i64 (.ofNat 1), .int .i64 (.ofNat 8), .int .i64 (.ofNat 18), .int .i64 (.ofNat 1)]),
    (6, .cells true 0 [.int .i64 (.ofNat 8), .int .i64 (.ofNat 18), .int .i64 (.ofNat 1)]),
    (7, .cells true 0 [.int .i64 (.ofNat 10), .int .i64 (.ofNat 18), .int .i64 (.ofNat 1)])],
   [],
   .tuple ⟨[.int .i64 (.ofNat 0), .int .i64 (.ofNat 70)]⟩⟩
theorem bx62_ok : bx62.okS EE.G = true := by kernel_rfl
theorem bx62_run : evT EE baT 1000000000 (.call bx62.f bx62.args) bx62.heap (keptK bx62) = some (.bool true) := by kernel_rfl
theorem bx62_h : bx62.holds EE := ent_run envOk baT_holds _ _ bx62_ok bx62_run
-- decani/bench.Check, 1589 steps
noncomputable def bx68 : Ent :=
  ⟨15, [.agg ⟨[.slice (some ⟨3, 0, none⟩) 2 2, .int .i64 (.ofNat 4), .slice none 0 0, .slice (some ⟨4, 0, none⟩) 3 3, .int .i64 (.ofNat 1)]⟩], 8,
   [(0, .cells false 0 [.int .i64 (.negSucc 0), .int .i64 (.negSucc 0), .int .i64 (.negSucc 0), .int .i64 (.negSucc 0), .int .i64 (.negSucc 0)]),
    (1, .cells false 0 [.int .i64 (.ofNat 0), .int .i64 (.ofNat 0), .int .i64 (.ofNat 0), .int .i64 (.ofNat 0)]),
    (2, .cells false 0 [.int .i64 (.ofNat 40), .int .i64 (.ofNat 2), .int .i64 (.ofNat 40), .int .i64 (.ofNat 2), .int .i64 (.ofNat 2), .int .i64 (.ofNat 1), .int .i64 (.ofNat 6), .int .i64 (.ofNat 2), .int .i64 (.ofNat 9), .int .i64 (.ofNat 3)]),
    (3, .cells true 0 [.int .i64 (.ofNat 5), .int .i64 (.ofNat 6), .int .i64 (.ofNat 20), .int .i64 (.ofNat 21), .int .i64 (.ofNat 1), .int .i64 (.ofNat 2), .int .i64 (.ofNat 2), .int .i64 (.ofNat 3), .int .i64 (.ofNat 1), .int .i64 (.ofNat 3), .int .i64 (.ofNat 5), .int .i64 (.ofNat 8), .int .i64 (.ofNat 8), .int .i64 (.ofNat 18), .int .i64 (.ofNat 18), .int .i64 (.ofNat 0), .int .i64 (.ofNat 1), .int .i64 (.ofNat 1), .int .i64 (.ofNat 1), .int .i64 (.ofNat 0), .int .i64 (.ofNat 6), .int .i64 (.ofNat 7)]),
    (4, .cells true 0 [.int .i64 (.ofNat 0), .slice (some ⟨5, 0, none⟩) 2 2, .int .i64 (.ofNat 3), .slice (some ⟨6, 0, none⟩) 1 1, .int .i64 (.ofNat 3), .slice (some ⟨7, 0, none⟩) 1 1]),
    (5, .cells true 0 [.int .i64 (.ofNat 6), .int .i64 (.ofNat 20), .int .i64 (.ofNat 4), .int .i64 (.ofNat 8), .int .i64 (.ofNat 18), .int .i64 (.ofNat 1)]),
    (6, .cells true 0 [.int .i64 (.ofNat 8), .int .i64 (.ofNat 18), .int .i64 (.ofNat 1)]),
    (7, .cells true 0 [.int .i64 (.ofNat 10), .int .i64 (.ofNat 18), .int .i64 (.ofNat 1)])],
   [],
   .int .i64 (.ofNat 70)⟩
theorem bx68_ok : bx68.okS EE.G = true := by kernel_rfl
theorem bx68_run : evT EE baT 1000000000 (.call bx68.f bx68.args) bx68.heap (keptK bx68) = some (.bool true) := by kernel_rfl
theorem bx68_h : bx68.holds EE := ent_run envOk baT_holds _ _ bx68_ok bx68_run
-- decani/bench.Lack, 1534 steps
noncomputable def bx74 : Ent :=
  ⟨8, [.agg ⟨[.slice (some ⟨3, 0, none⟩) 2 2, .int .i64 (.ofNat 4), .slice none 0 0, .slice (some ⟨4, 0, none⟩) 3 3, .int .i64 (.ofNat 1)]⟩, .int .i64 (.negSucc 0)], 7,
   [(0, .cells false 0 [.int .i64 (.negSucc 0), .int .i64 (.negSucc 0), .int .i64 (.negSucc 0), .int .i64 (.negSucc 0), .int .i64 (.negSucc 0)]),
    (1, .cells false 0 [.int .i64 (.ofNat 0), .int .i64 (.ofNat 0), .int .i64 (.ofNat 0), .int .i64 (.ofNat 0)]),
    (2, .cells false 0 [.int .i64 (.ofNat 40), .int .i64 (.ofNat 2), .int .i64 (.ofNat 40), .int .i64 (.ofNat 2), .int .i64 (.ofNat 2), .int .i64 (.ofNat 1), .int .i64 (.ofNat 6), .int .i64 (.ofNat 2), .int .i64 (.ofNat 9), .int .i64 (.ofNat 3)]),
    (3, .cells true 0 [.int .i64 (.ofNat 5), .int .i64 (.ofNat 6), .int .i64 (.ofNat 20), .int .i64 (.ofNat 21), .int .i64 (.ofNat 1), .int .i64 (.ofNat 2), .int .i64 (.ofNat 2), .int .i64 (.ofNat 3), .int .i64 (.ofNat 1), .int .i64 (.ofNat 3), .int .i64 (.ofNat 5), .int .i64 (.ofNat 8), .int .i64 (.ofNat 8), .int .i64 (.ofNat 18), .int .i64 (.ofNat 18), .int .i64 (.ofNat 0), .int .i64 (.ofNat 1), .int .i64 (.ofNat 1), .int .i64 (.ofNat 1), .int .i64 (.ofNat 0), .int .i64 (.ofNat 6), .int .i64 (.ofNat 7)]),
    (4, .cells true 0 [.int .i64 (.ofNat 0), .slice none 0 0, .int .i64 (.ofNat 3), .slice (some ⟨5, 0, none⟩) 1 1, .int .i64 (.ofNat 3), .slice (some ⟨6, 0, none⟩) 1 1]),
    (5, .cells true 0 [.int .i64 (.ofNat 8), .int .i64 (.ofNat 18), .int .i64 (.ofNat 1)]),
    (6, .cells true 0 [.int .i64 (.ofNat 10), .int .i64 (.ofNat 18), .int .i64 (.ofNat 1)])],
   [],
   .tuple ⟨[.int .i64 (.ofNat 0), .int .i64 (.ofNat 70)]⟩⟩
theorem bx74_ok : bx74.okS EE.G = true := by kernel_rfl
theorem bx74_run : evT EE baT 1000000000 (.call bx74.f bx74.args) bx74.heap (keptK bx74) = some (.bool true) := by kernel_rfl
theorem bx74_h : bx74.holds EE := ent_run envOk baT_holds _ _ bx74_ok bx74_run
-- decani/bench.Fill, 1478 steps
noncomputable def bx82 : Ent :=
  ⟨11, [.agg ⟨[.slice (some ⟨3, 0, none⟩) 2 2, .int .i64 (.ofNat 4), .slice none 0 0, .slice (some ⟨4, 0, none⟩) 3 3, .int .i64 (.ofNat 1)]⟩], 8,
   [(0, .cells false 0 [.int .i64 (.negSucc 0), .int .i64 (.negSucc 0), .int .i64 (.negSucc 0), .int .i64 (.negSucc 0), .int .i64 (.negSucc 0)]),
    (1, .cells false 0 [.int .i64 (.ofNat 0), .int .i64 (.ofNat 0), .int .i64 (.ofNat 0), .int .i64 (.ofNat 0)]),
    (2, .cells false 0 [.int .i64 (.ofNat 40), .int .i64 (.ofNat 2), .int .i64 (.ofNat 40), .int .i64 (.ofNat 2), .int .i64 (.ofNat 2), .int .i64 (.ofNat 1), .int .i64 (.ofNat 6), .int .i64 (.ofNat 2), .int .i64 (.ofNat 9), .int .i64 (.ofNat 3)]),
    (3, .cells true 0 [.int .i64 (.ofNat 5), .int .i64 (.ofNat 6), .int .i64 (.ofNat 20), .int .i64 (.ofNat 21), .int .i64 (.ofNat 1), .int .i64 (.ofNat 2), .int .i64 (.ofNat 2), .int .i64 (.ofNat 3), .int .i64 (.ofNat 1), .int .i64 (.ofNat 3), .int .i64 (.ofNat 5), .int .i64 (.ofNat 8), .int .i64 (.ofNat 8), .int .i64 (.ofNat 18), .int .i64 (.ofNat 18), .int .i64 (.ofNat 0), .int .i64 (.ofNat 1), .int .i64 (.ofNat 1), .int .i64 (.ofNat 1), .int .i64 (.ofNat 0), .int .i64 (.ofNat 6), .int .i64 (.ofNat 7)]),
    (4, .cells true 0 [.int .i64 (.ofNat 4), .slice (some ⟨5, 0, none⟩) 2 2, .int .i64 (.ofNat 3), .slice (some ⟨6, 0, none⟩) 1 1, .int .i64 (.ofNat 3), .slice (some ⟨7, 0, none⟩) 1 1]),
    (5, .cells true 0 [.int .i64 (.ofNat 6), .int .i64 (.ofNat 20), .int .i64 (.ofNat 1), .int .i64 (.ofNat 8), .int .i64 (.ofNat 18), .int .i64 (.ofNat 1)]),
    (6, .cells true 0 [.int .i64 (.ofNat 8), .int .i64 (.ofNat 18), .int .i64 (.ofNat 1)]),
    (7, .cells true 0 [.int .i64 (.ofNat 10), .int .i64 (.ofNat 18), .int .i64 (.ofNat 1)])],
   [],
   .tuple ⟨[.slice none 0 0, .int .i64 (.ofNat 70)]⟩⟩
theorem bx82_ok : bx82.okS EE.G = true := by kernel_rfl
theorem bx82_run : evT EE baT 1000000000 (.call bx82.f bx82.args) bx82.heap (keptK bx82) = some (.bool true) := by kernel_rfl
theorem bx82_h : bx82.holds EE := ent_run envOk baT_holds _ _ bx82_ok bx82_run
-- decani/bench.May, 1424 steps
noncomputable def bx88 : Ent :=
  ⟨9, [.agg ⟨[.slice (some ⟨3, 0, none⟩) 2 2, .int .i64 (.ofNat 4), .slice none 0 0, .slice (some ⟨4, 0, none⟩) 3 3, .int .i64 (.ofNat 4)]⟩, .slice (some ⟨8, 0, none⟩) 1 1, .slice none 0 0], 9,
   [(0, .cells false 0 [.int .i64 (.negSucc 0), .int .i64 (.negSucc 0), .int .i64 (.negSucc 0), .int .i64 (.negSucc 0), .int .i64 (.negSucc 0)]),
    (1, .cells false 0 [.int .i64 (.ofNat 0), .int .i64 (.ofNat 0), .int .i64 (.ofNat 0), .int .i64 (.ofNat 0)]),
    (2, .cells false 0 [.int .i64 (.ofNat 40), .int .i64 (.ofNat 2), .int .i64 (.ofNat 40), .int .i64 (.ofNat 2), .int .i64 (.ofNat 2), .int .i64 (.ofNat 1), .int .i64 (.ofNat 6), .int .i64 (.ofNat 2), .int .i64 (.ofNat 9), .int .i64 (.ofNat 3)]),
    (3, .cells true 0 [.int .i64 (.ofNat 5), .int .i64 (.ofNat 6), .int .i64 (.ofNat 20), .int .i64 (.ofNat 21), .int .i64 (.ofNat 1), .int .i64 (.ofNat 2), .int .i64 (.ofNat 2), .int .i64 (.ofNat 3), .int .i64 (.ofNat 1), .int .i64 (.ofNat 3), .int .i64 (.ofNat 5), .int .i64 (.ofNat 8), .int .i64 (.ofNat 8), .int .i64 (.ofNat 18), .int .i64 (.ofNat 18), .int .i64 (.ofNat 0), .int .i64 (.ofNat 1), .int .i64 (.ofNat 1), .int .i64 (.ofNat 1), .int .i64 (.ofNat 0), .int .i64 (.ofNat 6), .int .i64 (.ofNat 7)]),
    (4, .cells true 0 [.int .i64 (.ofNat 0), .slice (some ⟨5, 0, none⟩) 2 2, .int .i64 (.ofNat 3), .slice (some ⟨6, 0, none⟩) 1 1, .int .i64 (.ofNat 3), .slice (some ⟨7, 0, none⟩) 1 1]),
    (5, .cells true 0 [.int .i64 (.ofNat 6), .int .i64 (.ofNat 20), .int .i64 (.ofNat 1), .int .i64 (.ofNat 8), .int .i64 (.ofNat 18), .int .i64 (.ofNat 1)]),
    (6, .cells true 0 [.int .i64 (.ofNat 8), .int .i64 (.ofNat 18), .int .i64 (.ofNat 1)]),
    (7, .cells true 0 [.int .i64 (.ofNat 10), .int .i64 (.ofNat 18), .int .i64 (.ofNat 1)]),
    (8, .cells true 0 [.int .i64 (.ofNat 9)])],
   [],
   .tuple ⟨[.bool false, .int .i64 (.ofNat 70)]⟩⟩
theorem bx88_ok : bx88.okS EE.G = true := by kernel_rfl
theorem bx88_run : evT EE baT 1000000000 (.call bx88.f bx88.args) bx88.heap (keptK bx88) = some (.bool true) := by kernel_rfl
theorem bx88_h : bx88.holds EE := ent_run envOk baT_holds _ _ bx88_ok bx88_run
-- decani/bench.Can, 1404 steps
noncomputable def bx93 : Ent :=
  ⟨7, [.agg ⟨[.slice (some ⟨3, 0, none⟩) 2 2, .int .i64 (.ofNat 4), .slice none 0 0, .slice (some ⟨4, 0, none⟩) 3 3, .int .i64 (.ofNat 4)]⟩, .int .i64 (.negSucc 0), .int .i64 (.ofNat 0)], 8,
   [(0, .cells false 0 [.int .i64 (.negSucc 0), .int .i64 (.negSucc 0), .int .i64 (.negSucc 0), .int .i64 (.negSucc 0), .int .i64 (.negSucc 0)]),
    (1, .cells false 0 [.int .i64 (.ofNat 0), .int .i64 (.ofNat 0), .int .i64 (.ofNat 0), .int .i64 (.ofNat 0)]),
    (2, .cells false 0 [.int .i64 (.ofNat 40), .int .i64 (.ofNat 2), .int .i64 (.ofNat 40), .int .i64 (.ofNat 2), .int .i64 (.ofNat 2), .int .i64 (.ofNat 1), .int .i64 (.ofNat 6), .int .i64 (.ofNat 2), .int .i64 (.ofNat 9), .int .i64 (.ofNat 3)]),
    (3, .cells true 0 [.int .i64 (.ofNat 5), .int .i64 (.ofNat 6), .int .i64 (.ofNat 20), .int .i64 (.ofNat 21), .int .i64 (.ofNat 1), .int .i64 (.ofNat 2), .int .i64 (.ofNat 2), .int .i64 (.ofNat 3), .int .i64 (.ofNat 1), .int .i64 (.ofNat 3), .int .i64 (.ofNat 5), .int .i64 (.ofNat 8), .int .i64 (.ofNat 8), .int .i64 (.ofNat 18), .int .i64 (.ofNat 18), .int .i64 (.ofNat 0), .int .i64 (.ofNat 1), .int .i64 (.ofNat 1), .int .i64 (.ofNat 1), .int .i64 (.ofNat 0), .int .i64 (.ofNat 6), .int .i64 (.ofNat 7)]),
    (4, .cells true 0 [.int .i64 (.ofNat 0), .slice (some ⟨5, 0, none⟩) 2 2, .int .i64 (.ofNat 3), .slice (some ⟨6, 0, none⟩) 1 1, .int .i64 (.ofNat 3), .slice (some ⟨7, 0, none⟩) 1 1]),
    (5, .cells true 0 [.int .i64 (.ofNat 6), .int .i64 (.ofNat 20), .int .i64 (.ofNat 1), .int .i64 (.ofNat 8), .int .i64 (.ofNat 18), .int .i64 (.ofNat 1)]),
    (6, .cells true 0 [.int .i64 (.ofNat 8), .int .i64 (.ofNat 18), .int .i64 (.ofNat 1)]),
    (7, .cells true 0 [.int .i64 (.ofNat 10), .int .i64 (.ofNat 18), .int .i64 (.ofNat 1)])],
   [],
   .tuple ⟨[.slice none 0 0, .int .i64 (.ofNat 70)]⟩⟩
theorem bx93_ok : bx93.okS EE.G = true := by kernel_rfl
theorem bx93_run : evT EE baT 1000000000 (.call bx93.f bx93.args) bx93.heap (keptK bx93) = some (.bool true) := by kernel_rfl
theorem bx93_h : bx93.holds EE := ent_run envOk baT_holds _ _ bx93_ok bx93_run
-- decani/bench.Lack, 1348 steps
noncomputable def bx99 : Ent :=
  ⟨8, [.agg ⟨[.slice (some ⟨3, 0, none⟩) 2 2, .int .i64 (.ofNat 4), .slice none 0 0, .slice (some ⟨4, 0, none⟩) 6 18446744073709551616, .int .i64 (.ofNat 1)]⟩, .int .i64 (.negSucc 0)], 11,
   [(0, .cells false 0 [.int .i64 (.negSucc 0), .int .i64 (.negSucc 0), .int .i64 (.negSucc 0), .int .i64 (.negSucc 0), .int .i64 (.negSucc 0)]),
    (1, .cells false 0 [.int .i64 (.ofNat 0), .int .i64 (.ofNat 0), .int .i64 (.ofNat 0), .int .i64 (.ofNat 0)]),
    (2, .cells false 0 [.int .i64 (.ofNat 40), .int .i64 (.ofNat 2), .int .i64 (.ofNat 40), .int .i64 (.ofNat 2), .int .i64 (.ofNat 2), .int .i64 (.ofNat 1), .int .i64 (.ofNat 6), .int .i64 (.ofNat 2), .int .i64 (.ofNat 9), .int .i64 (.ofNat 3)]),
    (3, .cells true 0 [.int .i64 (.ofNat 5), .int .i64 (.ofNat 6), .int .i64 (.ofNat 20), .int .i64 (.ofNat 21), .int .i64 (.ofNat 1), .int .i64 (.ofNat 2), .int .i64 (.ofNat 2), .int .i64 (.ofNat 3), .int .i64 (.ofNat 1), .int .i64 (.ofNat 3), .int .i64 (.ofNat 5), .int .i64 (.ofNat 8), .int .i64 (.ofNat 8), .int .i64 (.ofNat 18), .int .i64 (.ofNat 18), .int .i64 (.ofNat 0), .int .i64 (.ofNat 1), .int .i64 (.ofNat 1), .int .i64 (.ofNat 1), .int .i64 (.ofNat 0), .int .i64 (.ofNat 6), .int .i64 (.ofNat 7)]),
    (4, .cells true 3 [.int .i64 (.ofNat 0), .slice (some ⟨5, 0, none⟩) 2 2, .int .i64 (.ofNat 3), .slice (some ⟨6, 0, none⟩) 1 1, .int .i64 (.ofNat 3), .slice (some ⟨7, 0, none⟩) 1 1, .int .i64 (.ofNat 0), .slice (some ⟨8, 0, none⟩) 2 2, .int .i64 (.ofNat 3), .slice (some ⟨9, 0, none⟩) 1 1, .int .i64 (.ofNat 3), .slice (some ⟨10, 0, none⟩) 1 1]),
    (5, .cells true 0 [.int .i64 (.ofNat 6), .int .i64 (.ofNat 20), .int .i64 (.ofNat 1), .int .i64 (.ofNat 8), .int .i64 (.ofNat 18), .int .i64 (.ofNat 1)]),
    (6, .cells true 0 [.int .i64 (.ofNat 8), .int .i64 (.ofNat 18), .int .i64 (.ofNat 1)]),
    (7, .cells true 0 [.int .i64 (.ofNat 10), .int .i64 (.ofNat 18), .int .i64 (.ofNat 1)]),
    (8, .cells true 0 [.int .i64 (.ofNat 6), .int .i64 (.ofNat 20), .int .i64 (.ofNat 1), .int .i64 (.ofNat 8), .int .i64 (.ofNat 18), .int .i64 (.ofNat 1)]),
    (9, .cells true 0 [.int .i64 (.ofNat 8), .int .i64 (.ofNat 18), .int .i64 (.ofNat 1)]),
    (10, .cells true 0 [.int .i64 (.ofNat 10), .int .i64 (.ofNat 18), .int .i64 (.ofNat 1)])],
   [],
   .tuple ⟨[.int .i64 (.ofNat 0), .int .i64 (.ofNat 70)]⟩⟩
theorem bx99_ok : bx99.okS EE.G = true := by kernel_rfl
theorem bx99_run : evT EE baT 1000000000 (.call bx99.f bx99.args) bx99.heap (keptK bx99) = some (.bool true) := by kernel_rfl
theorem bx99_h : bx99.holds EE := ent_run envOk baT_holds _ _ bx99_ok bx99_run
-- decani/bench.Need, 1328 steps
noncomputable def bx104 : Ent :=
  ⟨14, [.agg ⟨[.slice (some ⟨3, 0, none⟩) 2 2, .int .i64 (.ofNat 4), .slice none 0 0, .slice (some ⟨4, 0, none⟩) 3 3, .int .i64 (.ofNat 0)]⟩], 8,
   [(0, .cells false 0 [.int .i64 (.negSucc 0), .int .i64 (.negSucc 0), .int .i64 (.negSucc 0), .int .i64 (.negSucc 0), .int .i64 (.negSucc 0)]),
    (1, .cells false 0 [.int .i64 (.ofNat 0), .int .i64 (.ofNat 0), .int .i64 (.ofNat 0), .int .i64 (.ofNat 0)]),
    (2, .cells false 0 [.int .i64 (.ofNat 40), .int .i64 (.ofNat 2), .int .i64 (.ofNat 40), .int .i64 (.ofNat 2), .int .i64 (.ofNat 2), .int .i64 (.ofNat 1), .int .i64 (.ofNat 6), .int .i64 (.ofNat 2), .int .i64 (.ofNat 9), .int .i64 (.ofNat 3)]),
    (3, .cells true 0 [.int .i64 (.ofNat 5), .int .i64 (.ofNat 6), .int .i64 (.ofNat 20), .int .i64 (.ofNat 21), .int .i64 (.ofNat 1), .int .i64 (.ofNat 2), .int .i64 (.ofNat 2), .int .i64 (.ofNat 3), .int .i64 (.ofNat 1), .int .i64 (.ofNat 3), .int .i64 (.ofNat 5), .int .i64 (.ofNat 8), .int .i64 (.ofNat 8), .int .i64 (.ofNat 18), .int .i64 (.ofNat 18), .int .i64 (.ofNat 0), .int .i64 (.ofNat 1), .int .i64 (.ofNat 1), .int .i64 (.ofNat 1), .int .i64 (.ofNat 0), .int .i64 (.ofNat 6), .int .i64 (.ofNat 7)]),
    (4, .cells true 0 [.int .i64 (.ofNat 0), .slice (some ⟨5, 0, none⟩) 2 2, .int .i64 (.ofNat 3), .slice (some ⟨6, 0, none⟩) 1 1, .int .i64 (.ofNat 3), .slice (some ⟨7, 0, none⟩) 1 1]),
    (5, .cells true 0 [.int .i64 (.ofNat 6), .int .i64 (.ofNat 20), .int .i64 (.ofNat 1), .int .i64 (.ofNat 8), .int .i64 (.ofNat 18), .int .i64 (.ofNat 1)]),
    (6, .cells true 0 [.int .i64 (.ofNat 8), .int .i64 (.ofNat 18), .int .i64 (.ofNat 1)]),
    (7, .cells true 0 [.int .i64 (.ofNat 10), .int .i64 (.ofNat 18), .int .i64 (.ofNat 1)])],
   [],
   .tuple ⟨[.slice none 0 0, .int .i64 (.ofNat 70)]⟩⟩
theorem bx104_ok : bx104.okS EE.G = true := by kernel_rfl
theorem bx104_run : evT EE baT 1000000000 (.call bx104.f bx104.args) bx104.heap (keptK bx104) = some (.bool true) := by kernel_rfl
theorem bx104_h : bx104.holds EE := ent_run envOk baT_holds _ _ bx104_ok bx104_run
-- decani/bench.Ways, 1310 steps
noncomputable def bx110 : Ent :=
  ⟨10, [.agg ⟨[.slice (some ⟨3, 0, none⟩) 2 2, .int .i64 (.ofNat 4), .slice none 0 0, .slice none 0 0, .int .i64 (.ofNat 1)]⟩], 4,
   [(0, .cells false 0 [.int .i64 (.negSucc 0), .int .i64 (.negSucc 0), .int .i64 (.negSucc 0), .int .i64 (.negSucc 0), .int .i64 (.negSucc 0)]),
    (1, .cells false 0 [.int .i64 (.ofNat 0), .int .i64 (.ofNat 0), .int .i64 (.ofNat 0), .int .i64 (.ofNat 0)]),
    (2, .cells false 0 [.int .i64 (.ofNat 40), .int .i64 (.ofNat 2), .int .i64 (.ofNat 40), .int .i64 (.ofNat 2), .int .i64 (.ofNat 2), .int .i64 (.ofNat 1), .int .i64 (.ofNat 6), .int .i64 (.ofNat 2), .int .i64 (.ofNat 9), .int .i64 (.ofNat 3)]),
    (3, .cells true 0 [.int .i64 (.ofNat 5), .int .i64 (.ofNat 6), .int .i64 (.ofNat 20), .int .i64 (.ofNat 21), .int .i64 (.ofNat 1), .int .i64 (.ofNat 2), .int .i64 (.ofNat 2), .int .i64 (.ofNat 3), .int .i64 (.ofNat 1), .int .i64 (.ofNat 3), .int .i64 (.ofNat 5), .int .i64 (.ofNat 8), .int .i64 (.ofNat 8), .int .i64 (.ofNat 18), .int .i64 (.ofNat 18), .int .i64 (.ofNat 0), .int .i64 (.ofNat 1), .int .i64 (.ofNat 1), .int .i64 (.ofNat 1), .int .i64 (.ofNat 0), .int .i64 (.ofNat 6), .int .i64 (.ofNat 7)])],
   [],
   .tuple ⟨[.int .i64 (.ofNat 0), .int .i64 (.ofNat 70)]⟩⟩
theorem bx110_ok : bx110.okS EE.G = true := by kernel_rfl
theorem bx110_run : evT EE baT 1000000000 (.call bx110.f bx110.args) bx110.heap (keptK bx110) = some (.bool true) := by kernel_rfl
theorem bx110_h : bx110.holds EE := ent_run envOk baT_holds _ _ bx110_ok bx110_run
-- decani/bench.Ways, 1310 steps
noncomputable def bx115 : Ent :=
  ⟨10, [.agg ⟨[.slice (some ⟨3, 0, none⟩) 2 2, .int .i64 (.ofNat 4), .slice none 0 0, .slice (some ⟨4, 0, none⟩) 6 18446744073709551616, .int .i64 (.ofNat 1)]⟩], 11,
   [(0, .cells false 0 [.int .i64 (.negSucc 0), .int .i64 (.negSucc 0), .int .i64 (.negSucc 0), .int .i64 (.negSucc 0), .int .i64 (.negSucc 0)]),
    (1, .cells false 0 [.int .i64 (.ofNat 0), .int .i64 (.ofNat 0), .int .i64 (.ofNat 0), .int .i64 (.ofNat 0)]),
    (2, .cells false 0 [.int .i64 (.ofNat 40), .int .i64 (.ofNat 2), .int .i64 (.ofNat 40), .int .i64 (.ofNat 2), .int .i64 (.ofNat 2), .int .i64 (.ofNat 1), .int .i64 (.ofNat 6), .int .i64 (.ofNat 2), .int .i64 (.ofNat 9), .int .i64 (.ofNat 3)]),
    (3, .cells true 0 [.int .i64 (.ofNat 5), .int .i64 (.ofNat 6), .int .i64 (.ofNat 20), .int .i64 (.ofNat 21), .int .i64 (.ofNat 1), .int .i64 (.ofNat 2), .int .i64 (.ofNat 2), .int .i64 (.ofNat 3), .int .i64 (.ofNat 1), .int .i64 (.ofNat 3), .int .i64 (.ofNat 5), .int .i64 (.ofNat 8), .int .i64 (.ofNat 8), .int .i64 (.ofNat 18), .int .i64 (.ofNat 18), .int .i64 (.ofNat 0), .int .i64 (.ofNat 1), .int .i64 (.ofNat 1), .int .i64 (.ofNat 1), .int .i64 (.ofNat 0), .int .i64 (.ofNat 6), .int .i64 (.ofNat 7)]),
    (4, .cells true 3 [.int .i64 (.ofNat 0), .slice (some ⟨5, 0, none⟩) 2 2, .int .i64 (.ofNat 3), .slice (some ⟨6, 0, none⟩) 1 1, .int .i64 (.ofNat 3), .slice (some ⟨7, 0, none⟩) 1 1, .int .i64 (.ofNat 0), .slice (some ⟨8, 0, none⟩) 2 2, .int .i64 (.ofNat 3), .slice (some ⟨9, 0, none⟩) 1 1, .int .i64 (.ofNat 3), .slice (some ⟨10, 0, none⟩) 1 1]),
    (5, .cells true 0 [.int .i64 (.ofNat 6), .int .i64 (.ofNat 20), .int .i64 (.ofNat 1), .int .i64 (.ofNat 8), .int .i64 (.ofNat 18), .int .i64 (.ofNat 1)]),
    (6, .cells true 0 [.int .i64 (.ofNat 8), .int .i64 (.ofNat 18), .int .i64 (.ofNat 1)]),
    (7, .cells true 0 [.int .i64 (.ofNat 10), .int .i64 (.ofNat 18), .int .i64 (.ofNat 1)]),
    (8, .cells true 0 [.int .i64 (.ofNat 6), .int .i64 (.ofNat 20), .int .i64 (.ofNat 1), .int .i64 (.ofNat 8), .int .i64 (.ofNat 18), .int .i64 (.ofNat 1)]),
    (9, .cells true 0 [.int .i64 (.ofNat 8), .int .i64 (.ofNat 18), .int .i64 (.ofNat 1)]),
    (10, .cells true 0 [.int .i64 (.ofNat 10), .int .i64 (.ofNat 18), .int .i64 (.ofNat 1)])],
   [],
   .tuple ⟨[.int .i64 (.ofNat 0), .int .i64 (.ofNat 70)]⟩⟩
theorem bx115_ok : bx115.okS EE.G = true := by kernel_rfl
theorem bx115_run : evT EE baT 1000000000 (.call bx115.f bx115.args) bx115.heap (keptK bx115) = some (.bool true) := by kernel_rfl
theorem bx115_h : bx115.holds EE := ent_run envOk baT_holds _ _ bx115_ok bx115_run
-- decani/bench.Check, 1268 steps
noncomputable def bx121 : Ent :=
  ⟨15, [.agg ⟨[.slice (some ⟨3, 0, none⟩) 2 2, .int .i64 (.ofNat 4), .slice none 0 0, .slice (some ⟨4, 0, none⟩) 3 3, .int .i64 (.ofNat 4)]⟩], 8,
   [(0, .cells false 0 [.int .i64 (.negSucc 0), .int .i64 (.negSucc 0), .int .i64 (.negSucc 0), .int .i64 (.negSucc 0), .int .i64 (.negSucc 0)]),
    (1, .cells false 0 [.int .i64 (.ofNat 0), .int .i64 (.ofNat 0), .int .i64 (.ofNat 0), .int .i64 (.ofNat 0)]),
    (2, .cells false 0 [.int .i64 (.ofNat 40), .int .i64 (.ofNat 2), .int .i64 (.ofNat 40), .int .i64 (.ofNat 2), .int .i64 (.ofNat 2), .int .i64 (.ofNat 1), .int .i64 (.ofNat 6), .int .i64 (.ofNat 2), .int .i64 (.ofNat 9), .int .i64 (.ofNat 3)]),
    (3, .cells true 0 [.int .i64 (.ofNat 5), .int .i64 (.ofNat 6), .int .i64 (.ofNat 20), .int .i64 (.ofNat 21), .int .i64 (.ofNat 1), .int .i64 (.ofNat 2), .int .i64 (.ofNat 2), .int .i64 (.ofNat 3), .int .i64 (.ofNat 1), .int .i64 (.ofNat 3), .int .i64 (.ofNat 5), .int .i64 (.ofNat 8), .int .i64 (.ofNat 8), .int .i64 (.ofNat 18), .int .i64 (.ofNat 18), .int .i64 (.ofNat 0), .int .i64 (.ofNat 1), .int .i64 (.ofNat 1), .int .i64 (.ofNat 1), .int .i64 (.ofNat 0), .int .i64 (.ofNat 6), .int .i64 (.ofNat 7)]),
    (4, .cells true 0 [.int .i64 (.ofNat 0), .slice (some ⟨5, 0, none⟩) 2 2, .int .i64 (.ofNat 3), .slice (some ⟨6, 0, none⟩) 1 1, .int .i64 (.ofNat 3), .slice (some ⟨7, 0, none⟩) 1 1]),
    (5, .cells true 0 [.int .i64 (.ofNat 6), .int .i64 (.ofNat 20), .int .i64 (.ofNat 1), .int .i64 (.ofNat 8), .int .i64 (.ofNat 18), .int .i64 (.ofNat 1)]),
    (6, .cells true 0 [.int .i64 (.ofNat 8), .int .i64 (.ofNat 18), .int .i64 (.ofNat 1)]),
    (7, .cells true 0 [.int .i64 (.ofNat 10), .int .i64 (.ofNat 18), .int .i64 (.ofNat 1)])],
   [],
   .int .i64 (.ofNat 70)⟩
theorem bx121_ok : bx121.okS EE.G = true := by kernel_rfl
theorem bx121_run : evT EE baT 1000000000 (.call bx121.f bx121.args) bx121.heap (keptK bx121) = some (.bool true) := by kernel_rfl
theorem bx121_h : bx121.holds EE := ent_run envOk baT_holds _ _ bx121_ok bx121_run
-- decani/bench.Seats, 198 steps
noncomputable def bx133 : Ent :=
  ⟨13, [.agg ⟨[.slice (some ⟨3, 0, none⟩) 2 2, .int .i64 (.ofNat 7), .slice none 0 0, .slice (some ⟨4, 0, none⟩) 3 3, .int .i64 (.ofNat 1)]⟩], 8,
   [(0, .cells false 0 [.int .i64 (.negSucc 0), .int .i64 (.negSucc 0), .int .i64 (.negSucc 0), .int .i64 (.negSucc 0), .int .i64 (.negSucc 0)]),
    (1, .cells false 0 [.int .i64 (.ofNat 0), .int .i64 (.ofNat 0), .int .i64 (.ofNat 0), .int .i64 (.ofNat 0)]),
    (2, .cells false 0 [.int .i64 (.ofNat 40), .int .i64 (.ofNat 2), .int .i64 (.ofNat 40), .int .i64 (.ofNat 2), .int .i64 (.ofNat 2), .int .i64 (.ofNat 1), .int .i64 (.ofNat 6), .int .i64 (.ofNat 2), .int .i64 (.ofNat 9), .int .i64 (.ofNat 3)]),
    (3, .cells true 0 [.int .i64 (.ofNat 5), .int .i64 (.ofNat 6), .int .i64 (.ofNat 20), .int .i64 (.ofNat 21), .int .i64 (.ofNat 1), .int .i64 (.ofNat 2), .int .i64 (.ofNat 2), .int .i64 (.ofNat 3), .int .i64 (.ofNat 1), .int .i64 (.ofNat 3), .int .i64 (.ofNat 5), .int .i64 (.ofNat 8), .int .i64 (.ofNat 8), .int .i64 (.ofNat 18), .int .i64 (.ofNat 18), .int .i64 (.ofNat 0), .int .i64 (.ofNat 1), .int .i64 (.ofNat 1), .int .i64 (.ofNat 1), .int .i64 (.ofNat 0), .int .i64 (.ofNat 6), .int .i64 (.ofNat 7)]),
    (4, .cells true 0 [.int .i64 (.ofNat 0), .slice (some ⟨5, 0, none⟩) 2 2, .int .i64 (.ofNat 3), .slice (some ⟨6, 0, none⟩) 1 1, .int .i64 (.ofNat 3), .slice (some ⟨7, 0, none⟩) 1 1]),
    (5, .cells true 0 [.int .i64 (.ofNat 6), .int .i64 (.ofNat 20), .int .i64 (.ofNat 1), .int .i64 (.ofNat 8), .int .i64 (.ofNat 18), .int .i64 (.ofNat 1)]),
    (6, .cells true 0 [.int .i64 (.ofNat 8), .int .i64 (.ofNat 18), .int .i64 (.ofNat 1)]),
    (7, .cells true 0 [.int .i64 (.ofNat 10), .int .i64 (.ofNat 18), .int .i64 (.ofNat 1)])],
   [],
   .tuple ⟨[.slice none 0 0, .int .i64 (.ofNat 70)]⟩⟩
theorem bx133_ok : bx133.okS EE.G = true := by kernel_rfl
theorem bx133_run : evT EE baT 1000000000 (.call bx133.f bx133.args) bx133.heap (keptK bx133) = some (.bool true) := by kernel_rfl
theorem bx133_h : bx133.holds EE := ent_run envOk baT_holds _ _ bx133_ok bx133_run
-- decani/bench.Need, 180 steps
noncomputable def bx139 : Ent :=
  ⟨14, [.agg ⟨[.slice none 0 0, .int .i64 (.ofNat 0), .slice none 0 0, .slice none 0 0, .int .i64 (.ofNat 0)]⟩], 3,
   [(0, .cells false 0 [.int .i64 (.negSucc 0), .int .i64 (.negSucc 0), .int .i64 (.negSucc 0), .int .i64 (.negSucc 0), .int .i64 (.negSucc 0)]),
    (1, .cells false 0 [.int .i64 (.ofNat 0), .int .i64 (.ofNat 0), .int .i64 (.ofNat 0), .int .i64 (.ofNat 0)]),
    (2, .cells false 0 [.int .i64 (.ofNat 40), .int .i64 (.ofNat 2), .int .i64 (.ofNat 40), .int .i64 (.ofNat 2), .int .i64 (.ofNat 2), .int .i64 (.ofNat 1), .int .i64 (.ofNat 6), .int .i64 (.ofNat 2), .int .i64 (.ofNat 9), .int .i64 (.ofNat 3)])],
   [],
   .tuple ⟨[.slice none 0 0, .int .i64 (.ofNat 70)]⟩⟩
theorem bx139_ok : bx139.okS EE.G = true := by kernel_rfl
theorem bx139_run : evT EE baT 1000000000 (.call bx139.f bx139.args) bx139.heap (keptK bx139) = some (.bool true) := by kernel_rfl
theorem bx139_h : bx139.holds EE := ent_run envOk baT_holds _ _ bx139_ok bx139_run
end Go.Proofs.YthbgjljkepfhcabGreatDoor
