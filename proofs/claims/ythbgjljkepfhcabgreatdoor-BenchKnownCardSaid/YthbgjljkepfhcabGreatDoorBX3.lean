/- Known calls, part 3: what single calls hand back, at small heaps, by the kernel's own run of the evaluator. No conditions. -/
import Derived.Test.YthbgjljkepfhcabGreatDoorBA
set_option linter.all false
namespace Go.Proofs.YthbgjljkepfhcabGreatDoor
open Go.Ai
set_option maxRecDepth 1000000
-- decani/bench.May, 210611 steps
noncomputable def bx3 : Ent :=
  ⟨9, [.agg ⟨[.slice (some ⟨3, 0, none⟩) 2 2, .int .i64 (.ofNat 4), .slice none 0 0, .slice (some ⟨4, 0, none⟩) 3 3, .int .i64 (.ofNat 1)]⟩, .slice (some ⟨8, 0, none⟩) 1 1, .slice (some ⟨9, 0, none⟩) 2 2], 10,
   [(0, .cells false 0 [.int .i64 (.negSucc 0), .int .i64 (.negSucc 0), .int .i64 (.negSucc 0), .int .i64 (.negSucc 0), .int .i64 (.negSucc 0)]),
    (1, .cells false 0 [.int .i64 (.ofNat 0), .int .i64 (.ofNat 0), .int .i64 (.ofNat 0), .int .i64 (.ofNat 0)]),
    (2, .cells false 0 [.int .i64 (.ofNat 40), .int .i64 (.ofNat 2), .int .i64 (.ofNat 40), .int .i64 (.ofNat 2), .int .i64 (.ofNat 2), .int .i64 (.ofNat 1), .int .i64 (.ofNat 6), .int .i64 (.ofNat 2), .int .i64 (.ofNat 9), .int .i64 (.ofNat 3)]),
    (3, .cells true 0 [.int .i64 (.ofNat 5), .int .i64 (.ofNat 6), .int .i64 (.ofNat 20), .int .i64 (.ofNat 21), .int .i64 (.ofNat 1), .int .i64 (.ofNat 2), .int .i64 (.ofNat 2), .int .i64 (.ofNat 3), .int .i64 (.ofNat 1), .int .i64 (.ofNat 3), .int .i64 (.ofNat 5), .int .i64 (.ofNat 8), .int .i64 (.ofNat 8), .int .i64 (.ofNat 18), .int .i64 (.ofNat 18), .int .i64 (.ofNat 0), .int .i64 (.ofNat 1), .int .i64 (.ofNat 1), .int .i64 (.ofNat 1), .int .i64 (.ofNat 0), .int .i64 (.ofNat 6), .int .i64 (.ofNat 7)]),
    (4, .cells true 0 [.int .i64 (.ofNat 0), .slice (some ⟨5, 0, none⟩) 2 2, .int .i64 (.ofNat 3), .slice (some ⟨6, 0, none⟩) 1 1, .int .i64 (.ofNat 3), .slice (some ⟨7, 0, none⟩) 1 1]),
    (5, .cells true 0 [.int .i64 (.ofNat 6), .int .i64 (.ofNat 20), .int .i64 (.ofNat 1), .int .i64 (.ofNat 8), .int .i64 (.ofNat 18), .int .i64 (.ofNat 1)]),
    (6, .cells true 0 [.int .i64 (.ofNat 8), .int .i64 (.ofNat 18), .int .i64 (.ofNat 1)]),
    (7, .cells true 0 [.int .i64 (.ofNat 10), .int .i64 (.ofNat 18), .int .i64 (.ofNat 1)]),
    (8, .cells true 0 [.int .i64 (.ofNat 0)]),
    (9, .cells true 0 [.int .i64 (.ofNat 0), .int .i64 (.ofNat 1), .int .i64 (.ofNat 1), .int .i64 (.ofNat 0), .int .i64 (.ofNat 0), .int .i64 (.ofNat 0)])],
   [],
   .tuple ⟨[.bool false, .int .i64 (.ofNat 0)]⟩⟩
theorem bx3_ok : bx3.okS EE.G = true := by kernel_rfl
theorem bx3_run : evT EE baT 1000000000 (.call bx3.f bx3.args) bx3.heap (keptK bx3) = some (.bool true) := by kernel_rfl
theorem bx3_h : bx3.holds EE := ent_run envOk baT_holds _ _ bx3_ok bx3_run
-- decani/bench.May, 211472 steps
noncomputable def bx9 : Ent :=
  ⟨9, [.agg ⟨[.slice (some ⟨3, 0, none⟩) 2 2, .int .i64 (.ofNat 4), .slice none 0 0, .slice (some ⟨4, 0, none⟩) 3 3, .int .i64 (.ofNat 1)]⟩, .slice (some ⟨8, 0, none⟩) 1 1, .slice (some ⟨9, 0, none⟩) 2 2], 10,
   [(0, .cells false 0 [.int .i64 (.negSucc 0), .int .i64 (.negSucc 0), .int .i64 (.negSucc 0), .int .i64 (.negSucc 0), .int .i64 (.negSucc 0)]),
    (1, .cells false 0 [.int .i64 (.ofNat 0), .int .i64 (.ofNat 0), .int .i64 (.ofNat 0), .int .i64 (.ofNat 0)]),
    (2, .cells false 0 [.int .i64 (.ofNat 40), .int .i64 (.ofNat 2), .int .i64 (.ofNat 40), .int .i64 (.ofNat 2), .int .i64 (.ofNat 2), .int .i64 (.ofNat 1), .int .i64 (.ofNat 6), .int .i64 (.ofNat 2), .int .i64 (.ofNat 9), .int .i64 (.ofNat 3)]),
    (3, .cells true 0 [.int .i64 (.ofNat 5), .int .i64 (.ofNat 6), .int .i64 (.ofNat 20), .int .i64 (.ofNat 21), .int .i64 (.ofNat 1), .int .i64 (.ofNat 2), .int .i64 (.ofNat 2), .int .i64 (.ofNat 3), .int .i64 (.ofNat 1), .int .i64 (.ofNat 3), .int .i64 (.ofNat 5), .int .i64 (.ofNat 8), .int .i64 (.ofNat 8), .int .i64 (.ofNat 18), .int .i64 (.ofNat 18), .int .i64 (.ofNat 0), .int .i64 (.ofNat 1), .int .i64 (.ofNat 1), .int .i64 (.ofNat 1), .int .i64 (.ofNat 0), .int .i64 (.ofNat 6), .int .i64 (.ofNat 7)]),
    (4, .cells true 0 [.int .i64 (.ofNat 0), .slice (some ⟨5, 0, none⟩) 2 2, .int .i64 (.ofNat 3), .slice (some ⟨6, 0, none⟩) 1 1, .int .i64 (.ofNat 3), .slice (some ⟨7, 0, none⟩) 1 1]),
    (5, .cells true 0 [.int .i64 (.ofNat 6), .int .i64 (.ofNat 20), .int .i64 (.ofNat 1), .int .i64 (.ofNat 8), .int .i64 (.ofNat 18), .int .i64 (.ofNat 1)]),
    (6, .cells true 0 [.int .i64 (.ofNat 8), .int .i64 (.ofNat 18), .int .i64 (.ofNat 1)]),
    (7, .cells true 0 [.int .i64 (.ofNat 10), .int .i64 (.ofNat 18), .int .i64 (.ofNat 1)]),
    (8, .cells true 0 [.int .i64 (.ofNat 0)]),
    (9, .cells true 0 [.int .i64 (.ofNat 0), .int .i64 (.ofNat 0), .int .i64 (.ofNat 0), .int .i64 (.ofNat 0), .int .i64 (.ofNat 2), .int .i64 (.ofNat 1)])],
   [],
   .tuple ⟨[.bool false, .int .i64 (.ofNat 0)]⟩⟩
theorem bx9_ok : bx9.okS EE.G = true := by kernel_rfl
theorem bx9_run : evT EE baT 1000000000 (.call bx9.f bx9.args) bx9.heap (keptK bx9) = some (.bool true) := by kernel_rfl
theorem bx9_h : bx9.holds EE := ent_run envOk baT_holds _ _ bx9_ok bx9_run
-- decani/bench.Fill, 212867 steps
noncomputable def bx15 : Ent :=
  ⟨11, [.agg ⟨[.slice (some ⟨3, 0, none⟩) 2 2, .int .i64 (.ofNat 4), .slice none 0 0, .slice (some ⟨4, 0, none⟩) 3 3, .int .i64 (.ofNat 1)]⟩], 8,
   [(0, .cells false 0 [.int .i64 (.negSucc 0), .int .i64 (.negSucc 0), .int .i64 (.negSucc 0), .int .i64 (.negSucc 0), .int .i64 (.negSucc 0)]),
    (1, .cells false 0 [.int .i64 (.ofNat 0), .int .i64 (.ofNat 0), .int .i64 (.ofNat 0), .int .i64 (.ofNat 0)]),
    (2, .cells false 0 [.int .i64 (.ofNat 40), .int .i64 (.ofNat 2), .int .i64 (.ofNat 40), .int .i64 (.ofNat 2), .int .i64 (.ofNat 2), .int .i64 (.ofNat 1), .int .i64 (.ofNat 6), .int .i64 (.ofNat 2), .int .i64 (.ofNat 9), .int .i64 (.ofNat 3)]),
    (3, .cells true 0 [.int .i64 (.ofNat 5), .int .i64 (.ofNat 6), .int .i64 (.ofNat 20), .int .i64 (.ofNat 21), .int .i64 (.ofNat 1), .int .i64 (.ofNat 2), .int .i64 (.ofNat 2), .int .i64 (.ofNat 3), .int .i64 (.ofNat 1), .int .i64 (.ofNat 3), .int .i64 (.ofNat 5), .int .i64 (.ofNat 8), .int .i64 (.ofNat 8), .int .i64 (.ofNat 18), .int .i64 (.ofNat 18), .int .i64 (.ofNat 0), .int .i64 (.ofNat 1), .int .i64 (.ofNat 1), .int .i64 (.ofNat 1), .int .i64 (.ofNat 0), .int .i64 (.ofNat 6), .int .i64 (.ofNat 7)]),
    (4, .cells true 0 [.int .i64 (.ofNat 0), .slice (some ⟨5, 0, none⟩) 2 2, .int .i64 (.ofNat 3), .slice (some ⟨6, 0, none⟩) 1 1, .int .i64 (.ofNat 3), .slice (some ⟨7, 0, none⟩) 1 1]),
    (5, .cells true 0 [.int .i64 (.ofNat 6), .int .i64 (.ofNat 24), .int .i64 (.ofNat 1), .int .i64 (.ofNat 8), .int .i64 (.ofNat 18), .int .i64 (.ofNat 1)]),
    (6, .cells true 0 [.int .i64 (.ofNat 8), .int .i64 (.ofNat 18), .int .i64 (.ofNat 1)]),
    (7, .cells true 0 [.int .i64 (.ofNat 10), .int .i64 (.ofNat 18), .int .i64 (.ofNat 1)])],
   [],
   .tuple ⟨[.slice none 0 0, .int .i64 (.ofNat 4)]⟩⟩
theorem bx15_ok : bx15.okS EE.G = true := by kernel_rfl
theorem bx15_run : evT EE baT 1000000000 (.call bx15.f bx15.args) bx15.heap (keptK bx15) = some (.bool true) := by kernel_rfl
theorem bx15_h : bx15.holds EE := ent_run envOk baT_holds _ _ bx15_ok bx15_run
-- decani/bench.Change, 228051 steps
noncomputable def bx21 : Ent :=
  ⟨12, [.agg ⟨[.slice (some ⟨3, 0, none⟩) 2 2, .int .i64 (.ofNat 4), .slice none 0 0, .slice (some ⟨4, 0, none⟩) 3 3, .int .i64 (.ofNat 1)]⟩], 8,
   [(0, .cells false 0 [.int .i64 (.negSucc 0), .int .i64 (.negSucc 0), .int .i64 (.negSucc 0), .int .i64 (.negSucc 0), .int .i64 (.negSucc 0)]),
    (1, .cells false 0 [.int .i64 (.ofNat 0), .int .i64 (.ofNat 0), .int .i64 (.ofNat 0), .int .i64 (.ofNat 0)]),
    (2, .cells false 0 [.int .i64 (.ofNat 40), .int .i64 (.ofNat 2), .int .i64 (.ofNat 40), .int .i64 (.ofNat 2), .int .i64 (.ofNat 2), .int .i64 (.ofNat 1), .int .i64 (.ofNat 6), .int .i64 (.ofNat 2), .int .i64 (.ofNat 9), .int .i64 (.ofNat 3)]),
    (3, .cells true 0 [.int .i64 (.ofNat 5), .int .i64 (.ofNat 6), .int .i64 (.ofNat 20), .int .i64 (.ofNat 21), .int .i64 (.ofNat 1), .int .i64 (.ofNat 2), .int .i64 (.ofNat 2), .int .i64 (.ofNat 3), .int .i64 (.ofNat 1), .int .i64 (.ofNat 3), .int .i64 (.ofNat 5), .int .i64 (.ofNat 8), .int .i64 (.ofNat 8), .int .i64 (.ofNat 18), .int .i64 (.ofNat 18), .int .i64 (.ofNat 0), .int .i64 (.ofNat 1), .int .i64 (.ofNat 1), .int .i64 (.ofNat 1), .int .i64 (.ofNat 0), .int .i64 (.ofNat 6), .int .i64 (.ofNat 7)]),
    (4, .cells true 0 [.int .i64 (.ofNat 0), .slice (some ⟨5, 0, none⟩) 2 2, .int .i64 (.ofNat 3), .slice (some ⟨6, 0, none⟩) 1 1, .int .i64 (.ofNat 3), .slice (some ⟨7, 0, none⟩) 1 1]),
    (5, .cells true 0 [.int .i64 (.ofNat 6), .int .i64 (.ofNat 24), .int .i64 (.ofNat 1), .int .i64 (.ofNat 8), .int .i64 (.ofNat 18), .int .i64 (.ofNat 1)]),
    (6, .cells true 0 [.int .i64 (.ofNat 8), .int .i64 (.ofNat 18), .int .i64 (.ofNat 1)]),
    (7, .cells true 0 [.int .i64 (.ofNat 10), .int .i64 (.ofNat 18), .int .i64 (.ofNat 1)])],
   [.cells true 2 [.int .i64 (.ofNat 0), .int .i64 (.ofNat 1)]],
   .tuple ⟨[.slice (some ⟨8, 0, none⟩) 2 18446744073709551616, .int .i64 (.ofNat 0)]⟩⟩
theorem bx21_ok : bx21.okS EE.G = true := by kernel_rfl
theorem bx21_run : evT EE baT 1000000000 (.call bx21.f bx21.args) bx21.heap (keptK bx21) = some (.bool true) := by kernel_rfl
theorem bx21_h : bx21.holds EE := ent_run envOk baT_holds _ _ bx21_ok bx21_run
-- decani/bench.Lack, 211829 steps
noncomputable def bx27 : Ent :=
  ⟨8, [.agg ⟨[.slice (some ⟨3, 0, none⟩) 2 2, .int .i64 (.ofNat 4), .slice none 0 0, .slice (some ⟨4, 0, none⟩) 3 3, .int .i64 (.ofNat 1)]⟩, .int .i64 (.ofNat 0)], 8,
   [(0, .cells false 0 [.int .i64 (.negSucc 0), .int .i64 (.negSucc 0), .int .i64 (.negSucc 0), .int .i64 (.negSucc 0), .int .i64 (.negSucc 0)]),
    (1, .cells false 0 [.int .i64 (.ofNat 0), .int .i64 (.ofNat 0), .int .i64 (.ofNat 0), .int .i64 (.ofNat 0)]),
    (2, .cells false 0 [.int .i64 (.ofNat 40), .int .i64 (.ofNat 2), .int .i64 (.ofNat 40), .int .i64 (.ofNat 2), .int .i64 (.ofNat 2), .int .i64 (.ofNat 1), .int .i64 (.ofNat 6), .int .i64 (.ofNat 2), .int .i64 (.ofNat 9), .int .i64 (.ofNat 3)]),
    (3, .cells true 0 [.int .i64 (.ofNat 5), .int .i64 (.ofNat 6), .int .i64 (.ofNat 20), .int .i64 (.ofNat 21), .int .i64 (.ofNat 1), .int .i64 (.ofNat 2), .int .i64 (.ofNat 2), .int .i64 (.ofNat 3), .int .i64 (.ofNat 1), .int .i64 (.ofNat 3), .int .i64 (.ofNat 5), .int .i64 (.ofNat 8), .int .i64 (.ofNat 8), .int .i64 (.ofNat 18), .int .i64 (.ofNat 18), .int .i64 (.ofNat 0), .int .i64 (.ofNat 1), .int .i64 (.ofNat 1), .int .i64 (.ofNat 1), .int .i64 (.ofNat 0), .int .i64 (.ofNat 6), .int .i64 (.ofNat 7)]),
    (4, .cells true 0 [.int .i64 (.ofNat 0), .slice (some ⟨5, 0, none⟩) 2 2, .int .i64 (.ofNat 3), .slice (some ⟨6, 0, none⟩) 1 1, .int .i64 (.ofNat 3), .slice (some ⟨7, 0, none⟩) 1 1]),
    (5, .cells true 0 [.int .i64 (.ofNat 6), .int .i64 (.ofNat 24), .int .i64 (.ofNat 1), .int .i64 (.ofNat 8), .int .i64 (.ofNat 18), .int .i64 (.ofNat 1)]),
    (6, .cells true 0 [.int .i64 (.ofNat 8), .int .i64 (.ofNat 18), .int .i64 (.ofNat 1)]),
    (7, .cells true 0 [.int .i64 (.ofNat 10), .int .i64 (.ofNat 18), .int .i64 (.ofNat 1)])],
   [],
   .tuple ⟨[.int .i64 (.ofNat 0), .int .i64 (.ofNat 0)]⟩⟩
theorem bx27_ok : bx27.okS EE.G = true := by kernel_rfl
theorem bx27_run : evT EE baT 1000000000 (.call bx27.f bx27.args) bx27.heap (keptK bx27) = some (.bool true) := by kernel_rfl
theorem bx27_h : bx27.holds EE := ent_run envOk baT_holds _ _ bx27_ok bx27_run
-- decani/bench.Need, 257427 steps
noncomputable def bx33 : Ent :=
  ⟨14, [.agg ⟨[.slice (some ⟨3, 0, none⟩) 2 2, .int .i64 (.ofNat 4), .slice none 0 0, .slice (some ⟨4, 0, none⟩) 3 3, .int .i64 (.ofNat 1)]⟩], 8,
   [(0, .cells false 0 [.int .i64 (.negSucc 0), .int .i64 (.negSucc 0), .int .i64 (.negSucc 0), .int .i64 (.negSucc 0), .int .i64 (.negSucc 0)]),
    (1, .cells false 0 [.int .i64 (.ofNat 0), .int .i64 (.ofNat 0), .int .i64 (.ofNat 0), .int .i64 (.ofNat 0)]),
    (2, .cells false 0 [.int .i64 (.ofNat 40), .int .i64 (.ofNat 2), .int .i64 (.ofNat 40), .int .i64 (.ofNat 2), .int .i64 (.ofNat 2), .int .i64 (.ofNat 1), .int .i64 (.ofNat 6), .int .i64 (.ofNat 2), .int .i64 (.ofNat 9), .int .i64 (.ofNat 3)]),
    (3, .cells true 0 [.int .i64 (.ofNat 5), .int .i64 (.ofNat 6), .int .i64 (.ofNat 20), .int .i64 (.ofNat 21), .int .i64 (.ofNat 1), .int .i64 (.ofNat 2), .int .i64 (.ofNat 2), .int .i64 (.ofNat 3), .int .i64 (.ofNat 1), .int .i64 (.ofNat 3), .int .i64 (.ofNat 5), .int .i64 (.ofNat 8), .int .i64 (.ofNat 8), .int .i64 (.ofNat 18), .int .i64 (.ofNat 18), .int .i64 (.ofNat 0), .int .i64 (.ofNat 1), .int .i64 (.ofNat 1), .int .i64 (.ofNat 1), .int .i64 (.ofNat 0), .int .i64 (.ofNat 6), .int .i64 (.ofNat 7)]),
    (4, .cells true 0 [.int .i64 (.ofNat 0), .slice (some ⟨5, 0, none⟩) 2 2, .int .i64 (.ofNat 3), .slice (some ⟨6, 0, none⟩) 1 1, .int .i64 (.ofNat 3), .slice (some ⟨7, 0, none⟩) 1 1]),
    (5, .cells true 0 [.int .i64 (.ofNat 6), .int .i64 (.ofNat 24), .int .i64 (.ofNat 1), .int .i64 (.ofNat 8), .int .i64 (.ofNat 18), .int .i64 (.ofNat 1)]),
    (6, .cells true 0 [.int .i64 (.ofNat 8), .int .i64 (.ofNat 18), .int .i64 (.ofNat 1)]),
    (7, .cells true 0 [.int .i64 (.ofNat 10), .int .i64 (.ofNat 18), .int .i64 (.ofNat 1)])],
   [.cells true 2 [.int .i64 (.ofNat 1)]],
   .tuple ⟨[.slice (some ⟨8, 0, none⟩) 1 18446744073709551616, .int .i64 (.ofNat 0)]⟩⟩
theorem bx33_ok : bx33.okS EE.G = true := by kernel_rfl
theorem bx33_run : evT EE baT 1000000000 (.call bx33.f bx33.args) bx33.heap (keptK bx33) = some (.bool true) := by kernel_rfl
theorem bx33_h : bx33.holds EE := ent_run envOk baT_holds _ _ bx33_ok bx33_run
-- decani/bench.Check, 2304 steps
noncomputable def bx40 : Ent :=
  ⟨15, [.agg ⟨[.slice (some ⟨3, 0, none⟩) 2 2, .int .i64 (.ofNat 4), .slice none 0 0, .slice (some ⟨4, 0, none⟩) 3 3, .int .i64 (.ofNat 1)]⟩], 8,
   [(0, .cells false 0 [.int .i64 (.negSucc 0), .int .i64 (.negSucc 0), .int .i64 (.negSucc 0), .int .i64 (.negSucc 0), .int .i64 (.negSucc 0)]),
    (1, .cells false 0 [.int .i64 (.ofNat 0), .int .i64 (.ofNat 0), .int .i64 (.ofNat 0), .int .i64 (.ofNat 0)]),
    (2, .cells false 0 [.int .i64 (.ofNat 40), .int .i64 (.ofNat 2), .int .i64 (.ofNat 40), .int .i64 (.ofNat 2), .int .i64 (.ofNat 2), .int .i64 (.ofNat 1), .int .i64 (.ofNat 6), .int .i64 (.ofNat 2), .int .i64 (.ofNat 9), .int .i64 (.ofNat 3)]),
    (3, .cells true 0 [.int .i64 (.ofNat 5), .int .i64 (.ofNat 6), .int .i64 (.ofNat 20), .int .i64 (.ofNat 21), .int .i64 (.ofNat 1), .int .i64 (.ofNat 2), .int .i64 (.ofNat 2), .int .i64 (.ofNat 3), .int .i64 (.ofNat 1), .int .i64 (.ofNat 3), .int .i64 (.ofNat 5), .int .i64 (.ofNat 8), .int .i64 (.ofNat 8), .int .i64 (.ofNat 18), .int .i64 (.ofNat 18), .int .i64 (.ofNat 0), .int .i64 (.ofNat 1), .int .i64 (.ofNat 1), .int .i64 (.ofNat 1), .int .i64 (.ofNat 0), .int .i64 (.ofNat 6), .int .i64 (.ofNat 7)]),
    (4, .cells true 0 [.int .i64 (.ofNat 0), .slice (some ⟨5, 0, none⟩) 2 2, .int .i64 (.ofNat 3), .slice (some ⟨6, 0, none⟩) 1 1, .int .i64 (.ofNat 3), .slice (some ⟨7, 0, none⟩) 1 1]),
    (5, .cells true 0 [.int .i64 (.ofNat 6), .int .i64 (.ofNat 20), .int .i64 (.ofNat 1), .int .i64 (.ofNat 8), .int .i64 (.ofNat 18), .int .i64 (.ofNat 1)]),
    (6, .cells true 0 [.int .i64 (.ofNat 8), .int .i64 (.ofNat 18), .int .i64 (.ofNat 1)]),
    (7, .cells true 0 [.int .i64 (.ofNat 10), .int .i64 (.ofNat 18), .int .i64 (.ofNat 1)])],
   [],
   .int .i64 (.ofNat 0)⟩
theorem bx40_ok : bx40.okS EE.G = true := by kernel_rfl
theorem bx40_run : evT EE baT 1000000000 (.call bx40.f bx40.args) bx40.heap (keptK bx40) = some (.bool true) := by kernel_rfl
theorem bx40_h : bx40.holds EE := ent_run envOk baT_holds _ _ bx40_ok bx40_run
-- decani/bench.Check, 2304 steps
noncomputable def bx42 : Ent :=
  ⟨15, [.agg ⟨[.slice (some ⟨3, 0, none⟩) 2 2, .int .i64 (.ofNat 4), .slice none 0 0, .slice (some ⟨4, 0, none⟩) 3 3, .int .i64 (.ofNat 2)]⟩], 8,
   [(0, .cells false 0 [.int .i64 (.negSucc 0), .int .i64 (.negSucc 0), .int .i64 (.negSucc 0), .int .i64 (.negSucc 0), .int .i64 (.negSucc 0)]),
    (1, .cells false 0 [.int .i64 (.ofNat 0), .int .i64 (.ofNat 0), .int .i64 (.ofNat 0), .int .i64 (.ofNat 0)]),
    (2, .cells false 0 [.int .i64 (.ofNat 40), .int .i64 (.ofNat 2), .int .i64 (.ofNat 40), .int .i64 (.ofNat 2), .int .i64 (.ofNat 2), .int .i64 (.ofNat 1), .int .i64 (.ofNat 6), .int .i64 (.ofNat 2), .int .i64 (.ofNat 9), .int .i64 (.ofNat 3)]),
    (3, .cells true 0 [.int .i64 (.ofNat 5), .int .i64 (.ofNat 6), .int .i64 (.ofNat 20), .int .i64 (.ofNat 21), .int .i64 (.ofNat 1), .int .i64 (.ofNat 2), .int .i64 (.ofNat 2), .int .i64 (.ofNat 3), .int .i64 (.ofNat 1), .int .i64 (.ofNat 3), .int .i64 (.ofNat 5), .int .i64 (.ofNat 8), .int .i64 (.ofNat 8), .int .i64 (.ofNat 18), .int .i64 (.ofNat 18), .int .i64 (.ofNat 0), .int .i64 (.ofNat 1), .int .i64 (.ofNat 1), .int .i64 (.ofNat 1), .int .i64 (.ofNat 0), .int .i64 (.ofNat 6), .int .i64 (.ofNat 7)]),
    (4, .cells true 0 [.int .i64 (.ofNat 0), .slice (some ⟨5, 0, none⟩) 2 2, .int .i64 (.ofNat 3), .slice (some ⟨6, 0, none⟩) 1 1, .int .i64 (.ofNat 3), .slice (some ⟨7, 0, none⟩) 1 1]),
    (5, .cells true 0 [.int .i64 (.ofNat 6), .int .i64 (.ofNat 20), .int .i64 (.ofNat 1), .int .i64 (.ofNat 8), .int .i64 (.ofNat 18), .int .i64 (.ofNat 1)]),
    (6, .cells true 0 [.int .i64 (.ofNat 8), .int .i64 (.ofNat 18), .int .i64 (.ofNat 1)]),
    (7, .cells true 0 [.int .i64 (.ofNat 10), .int .i64 (.ofNat 18), .int .i64 (.ofNat 1)])],
   [],
   .int .i64 (.ofNat 0)⟩
theorem bx42_ok : bx42.okS EE.G = true := by kernel_rfl
theorem bx42_run : evT EE baT 1000000000 (.call bx42.f bx42.args) bx42.heap (keptK bx42) = some (.bool true) := by kernel_rfl
theorem bx42_h : bx42.holds EE := ent_run envOk baT_holds _ _ bx42_ok bx42_run
-- decani/bench.Fill, 1649 steps
noncomputable def bx53 : Ent :=
  ⟨11, [.agg ⟨[.slice (some ⟨3, 0, none⟩) 2 2, .int .i64 (.ofNat 4), .slice none 0 0, .slice (some ⟨4, 0, none⟩) 3 3, .int .i64 (.ofNat 1)]⟩], 8,
   [(0, .cells false 0 [.int .i64 (.negSucc 0), .int .i64 (.negSucc 0), .int .i64 (.negSucc 0), .int .i64 (.negSucc 0), .int .i64 (.negSucc 0)]),
    (1, .cells false 0 [.int .i64 (.ofNat 0), .int .i64 (.ofNat 0), .int .i64 (.ofNat 0), .int .i64 (.ofNat 0)]),
    (2, .cells false 0 [.int .i64 (.ofNat 40), .int .i64 (.ofNat 2), .int .i64 (.ofNat 40), .int .i64 (.ofNat 2), .int .i64 (.ofNat 2), .int .i64 (.ofNat 1), .int .i64 (.ofNat 6), .int .i64 (.ofNat 2), .int .i64 (.ofNat 9), .int .i64 (.ofNat 3)]),
    (3, .cells true 0 [.int .i64 (.ofNat 5), .int .i64 (.ofNat 6), .int .i64 (.ofNat 20), .int .i64 (.ofNat 21), .int .i64 (.ofNat 1), .int .i64 (.ofNat 2), .int .i64 (.ofNat 2), .int .i64 (.ofNat 3), .int .i64 (.ofNat 1), .int .i64 (.ofNat 3), .int .i64 (.ofNat 5), .int .i64 (.ofNat 8), .int .i64 (.ofNat 8), .int .i64 (.ofNat 18), .int .i64 (.ofNat 18), .int .i64 (.ofNat 0), .int .i64 (.ofNat 1), .int .i64 (.ofNat 1), .int .i64 (.ofNat 1), .int .i64 (.ofNat 0), .int .i64 (.ofNat 6), .int .i64 (.ofNat 7)]),
    (4, .cells true 0 [.int .i64 (.ofNat 0), .slice (some ⟨5, 0, none⟩) 2 2, .int .i64 (.ofNat 3), .slice (some ⟨6, 0, none⟩) 1 1, .int .i64 (.ofNat 3), .slice (some ⟨7, 0, none⟩) 1 1]),
    (5, .cells true 0 [.int .i64 (.ofNat 6), .int .i64 (.ofNat 20), .int .i64 (.ofNat 4), .int .i64 (.ofNat 8), .int .i64 (.ofNat 18), .int .i64 (.ofNat 1)]),
    (6, .cells true 0 [.int .i64 (.ofNat 8), .int .i64 (.ofNat 18), .int .i64 (.ofNat 1)]),
    (7, .cells true 0 [.int .i64 (.ofNat 10), .int .i64 (.ofNat 18), .int .i64 (.ofNat 1)])],
   [],
   .tuple ⟨[.slice none 0 0, .int .i64 (.ofNat 70)]⟩⟩
theorem bx53_ok : bx53.okS EE.G = true := by kernel_rfl
theorem bx53_run : evT EE baT 1000000000 (.call bx53.f bx53.args) bx53.heap (keptK bx53) = some (.bool true) := by kernel_rfl
theorem bx53_h : bx53.holds EE := ent_run envOk baT_holds _ _ bx53_ok bx53_run
-- decani/bench.Change, 1631 steps
noncomputable def bx59 : Ent :=
  ⟨12, [.agg ⟨[.slice (some ⟨3, 0, none⟩) 2 2, .int .i64 (.ofNat 4), .slice none 0 0, .slice (some ⟨4, 0, none⟩) 3 3, .int .i64 (.ofNat 1)]⟩], 8,
   [(0, .cells false 0 [.int .i64 (.negSucc 0), .int .i64 (.negSucc 0), .int .i64 (.negSucc 0), .int .i64 (.negSucc 0), .int .i64 (.negSucc 0)]),
    (1, .cells false 0 [.int .i64 (.ofNat 0), .int .i64 (.ofNat 0), .int .i64 (.ofNat 0), .int .i64 (.ofNat 0)]),
    (2, .cells false 0 [.int .i64 (.ofNat 40), .int .i64 (.ofNat 2), .int .i64 (.ofNat 40), .int .i64 (.ofNat 2), .int .i64 (.ofNat 2), .int .i64 (.ofNat 1), .int .i64 (.ofNat 6), .int .i64 (.ofNat 2), .int .i64 (.ofNat 9), .int .i64 (.ofNat 3)]),
    (3, .cells true 0 [.int .i64 (.ofNat 5), .int .i64 (.ofNat 6), .int .i64 (.ofNat 20), .int .i64 (.ofNat 21), .int .i64 (.ofNat 1), .int .i64 (.ofNat 2), .int .i64 (.ofNat 2), .int .i64 (.ofNat 3), .int .i64 (.ofNat 1), .int .i64 (.ofNat 3), .int .i64 (.ofNat 5), .int .i64 (.ofNat 8), .int .i64 (.ofNat 8), .int .i64 (.ofNat 18), .int .i64 (.ofNat 18), .int .i64 (.ofNat 0), .int .i64 (.ofNat 1), .int .i64 (.ofNat 1), .int .i64 (.ofNat 1), .int .i64 (.ofNat 0), .int .i64 (.ofNat 6), .int .i64 (.ofNat 7)]),
    (4, .cells true 0 [.int .i64 (.ofNat 0), .slice (some ⟨5, 0, none⟩) 2 2, .int .i64 (.ofNat 3), .slice (some ⟨6, 0, none⟩) 1 1, .int .i64 (.ofNat 3), .slice (some ⟨7, 0, none⟩) 1 1]),
    (5, .cells true 0 [.int .i64 (.ofNat 7), .int .i64 (.ofNat 6), .int .i64 (.ofNat 1), .int .i64 (.ofNat 8), .int .i64 (.ofNat 18), .int .i64 (.ofNat 1)]),
    (6, .cells true 0 [.int .i64 (.ofNat 8), .int .i64 (.ofNat 18), .int .i64 (.ofNat 1)]),
    (7, .cells true 0 [.int .i64 (.ofNat 10), .int .i64 (.ofNat 18), .int .i64 (.ofNat 1)])],
   [],
   .tuple ⟨[.slice none 0 0, .int .i64 (.ofNat 70)]⟩⟩
theorem bx59_ok : bx59.okS EE.G = true := by kernel_rfl
theorem bx59_run : evT EE baT 1000000000 (.call bx59.f bx59.args) bx59.heap (keptK bx59) = some (.bool true) := by kernel_rfl
theorem bx59_h : bx59.holds EE := ent_run envOk baT_holds _ _ bx59_ok bx59_run
-- decani/bench.Seats, 1631 steps
noncomputable def bx65 : Ent :=
  ⟨13, [.agg ⟨[.slice (some ⟨3, 0, none⟩) 2 2, .int .i64 (.ofNat 4), .slice none 0 0, .slice (some ⟨4, 0, none⟩) 3 3, .int .i64 (.ofNat 1)]⟩], 8,
   [(0, .cells false 0 [.int .i64 (.negSucc 0), .int .i64 (.negSucc 0), .int .i64 (.negSucc 0), .int .i64 (.negSucc 0), .int .i64 (.negSucc 0)]),
    (1, .cells false 0 [.int .i64 (.ofNat 0), .int .i64 (.ofNat 0), .int .i64 (.ofNat 0), .int .i64 (.ofNat 0)]),
    (2, .cells false 0 [.int .i64 (.ofNat 40), .int .i64 (.ofNat 2), .int .i64 (.ofNat 40), .int .i64 (.ofNat 2), .int .i64 (.ofNat 2), .int .i64 (.ofNat 1), .int .i64 (.ofNat 6), .int .i64 (.ofNat 2), .int .i64 (.ofNat 9), .int .i64 (.ofNat 3)]),
    (3, .cells true 0 [.int .i64 (.ofNat 5), .int .i64 (.ofNat 6), .int .i64 (.ofNat 20), .int .i64 (.ofNat 21), .int .i64 (.ofNat 1), .int .i64 (.ofNat 2), .int .i64 (.ofNat 2), .int .i64 (.ofNat 3), .int .i64 (.ofNat 1), .int .i64 (.ofNat 3), .int .i64 (.ofNat 5), .int .i64 (.ofNat 8), .int .i64 (.ofNat 8), .int .i64 (.ofNat 18), .int .i64 (.ofNat 18), .int .i64 (.ofNat 0), .int .i64 (.ofNat 1), .int .i64 (.ofNat 1), .int .i64 (.ofNat 1), .int .i64 (.ofNat 0), .int .i64 (.ofNat 6), .int .i64 (.ofNat 7)]),
    (4, .cells true 0 [.int .i64 (.ofNat 0), .slice (some ⟨5, 0, none⟩) 2 2, .int .i64 (.ofNat 3), .slice (some ⟨6, 0, none⟩) 1 1, .int .i64 (.ofNat 3), .slice (some ⟨7, 0, none⟩) 1 1]),
    (5, .cells true 0 [.int .i64 (.ofNat 6), .int .i64 (.ofNat 41), .int .i64 (.ofNat 1), .int .i64 (.ofNat 8), .int .i64 (.ofNat 18), .int .i64 (.ofNat 1)]),
    (6, .cells true 0 [.int .i64 (.ofNat 8), .int .i64 (.ofNat 18), .int .i64 (.ofNat 1)]),
    (7, .cells true 0 [.int .i64 (.ofNat 10), .int .i64 (.ofNat 18), .int .i64 (.ofNat 1)])],
   [],
   .tuple ⟨[.slice none 0 0, .int .i64 (.ofNat 70)]⟩⟩
theorem bx65_ok : bx65.okS EE.G = true := by kernel_rfl
theorem bx65_run : evT EE baT 1000000000 (.call bx65.f bx65.args) bx65.heap (keptK bx65) = some (.bool true) := by kernel_rfl
theorem bx65_h : bx65.holds EE := ent_run envOk baT_holds _ _ bx65_ok bx65_run
-- decani/bench.Check, 1571 steps
noncomputable def bx71 : Ent :=
  ⟨15, [.agg ⟨[.slice (some ⟨3, 0, none⟩) 2 2, .int .i64 (.ofNat 4), .slice none 0 0, .slice (some ⟨4, 0, none⟩) 3 3, .int .i64 (.ofNat 1)]⟩], 8,
   [(0, .cells false 0 [.int .i64 (.negSucc 0), .int .i64 (.negSucc 0), .int .i64 (.negSucc 0), .int .i64 (.negSucc 0), .int .i64 (.negSucc 0)]),
    (1, .cells false 0 [.int .i64 (.ofNat 0), .int .i64 (.ofNat 0), .int .i64 (.ofNat 0), .int .i64 (.ofNat 0)]),
    (2, .cells false 0 [.int .i64 (.ofNat 40), .int .i64 (.ofNat 2), .int .i64 (.ofNat 40), .int .i64 (.ofNat 2), .int .i64 (.ofNat 2), .int .i64 (.ofNat 1), .int .i64 (.ofNat 6), .int .i64 (.ofNat 2), .int .i64 (.ofNat 9), .int .i64 (.ofNat 3)]),
    (3, .cells true 0 [.int .i64 (.ofNat 5), .int .i64 (.ofNat 6), .int .i64 (.ofNat 20), .int .i64 (.ofNat 21), .int .i64 (.ofNat 1), .int .i64 (.ofNat 2), .int .i64 (.ofNat 2), .int .i64 (.ofNat 3), .int .i64 (.ofNat 1), .int .i64 (.ofNat 3), .int .i64 (.ofNat 5), .int .i64 (.ofNat 8), .int .i64 (.ofNat 8), .int .i64 (.ofNat 18), .int .i64 (.ofNat 18), .int .i64 (.ofNat 0), .int .i64 (.ofNat 1), .int .i64 (.ofNat 1), .int .i64 (.ofNat 1), .int .i64 (.ofNat 0), .int .i64 (.ofNat 6), .int .i64 (.ofNat 7)]),
    (4, .cells true 0 [.int .i64 (.ofNat 0), .slice (some ⟨5, 0, none⟩) 2 2, .int .i64 (.ofNat 3), .slice (some ⟨6, 0, none⟩) 1 1, .int .i64 (.ofNat 3), .slice (some ⟨7, 0, none⟩) 1 1]),
    (5, .cells true 0 [.int .i64 (.ofNat 7), .int .i64 (.ofNat 6), .int .i64 (.ofNat 1), .int .i64 (.ofNat 8), .int .i64 (.ofNat 18), .int .i64 (.ofNat 1)]),
    (6, .cells true 0 [.int .i64 (.ofNat 8), .int .i64 (.ofNat 18), .int .i64 (.ofNat 1)]),
    (7, .cells true 0 [.int .i64 (.ofNat 10), .int .i64 (.ofNat 18), .int .i64 (.ofNat 1)])],
   [],
   .int .i64 (.ofNat 70)⟩
theorem bx71_ok : bx71.okS EE.G = true := by kernel_rfl
theorem bx71_run : evT EE baT 1000000000 (.call bx71.f bx71.args) bx71.heap (keptK bx71) = some (.bool true) := by kernel_rfl
theorem bx71_h : bx71.holds EE := ent_run envOk baT_holds _ _ bx71_ok bx71_run
-- decani/bench.Fill, 1496 steps
noncomputable def bx77 : Ent :=
  ⟨11, [.agg ⟨[.slice (some ⟨3, 0, none⟩) 2 2, .int .i64 (.ofNat 4), .slice none 0 0, .slice (some ⟨4, 0, none⟩) 3 3, .int .i64 (.ofNat 1)]⟩], 7,
   [(0, .cells false 0 [.int .i64 (.negSucc 0), .int .i64 (.negSucc 0), .int .i64 (.negSucc 0), .int .i64 (.negSucc 0), .int .i64 (.negSucc 0)]),
    (1, .cells false 0 [.int .i64 (.ofNat 0), .int .i64 (.ofNat 0), .int .i64 (.ofNat 0), .int .i64 (.ofNat 0)]),
    (2, .cells false 0 [.int .i64 (.ofNat 40), .int .i64 (.ofNat 2), .int .i64 (.ofNat 40), .int .i64 (.ofNat 2), .int .i64 (.ofNat 2), .int .i64 (.ofNat 1), .int .i64 (.ofNat 6), .int .i64 (.ofNat 2), .int .i64 (.ofNat 9), .int .i64 (.ofNat 3)]),
    (3, .cells true 0 [.int .i64 (.ofNat 5), .int .i64 (.ofNat 6), .int .i64 (.ofNat 20), .int .i64 (.ofNat 21), .int .i64 (.ofNat 1), .int .i64 (.ofNat 2), .int .i64 (.ofNat 2), .int .i64 (.ofNat 3), .int .i64 (.ofNat 1), .int .i64 (.ofNat 3), .int .i64 (.ofNat 5), .int .i64 (.ofNat 8), .int .i64 (.ofNat 8), .int .i64 (.ofNat 18), .int .i64 (.ofNat 18), .int .i64 (.ofNat 0), .int .i64 (.ofNat 1), .int .i64 (.ofNat 1), .int .i64 (.ofNat 1), .int .i64 (.ofNat 0), .int .i64 (.ofNat 6), .int .i64 (.ofNat 7)]),
    (4, .cells true 0 [.int .i64 (.ofNat 0), .slice none 0 0, .int .i64 (.ofNat 3), .slice (some ⟨5, 0, none⟩) 1 1, .int .i64 (.ofNat 3), .slice (some ⟨6, 0, none⟩) 1 1]),
    (5, .cells true 0 [.int .i64 (.ofNat 8), .int .i64 (.ofNat 18), .int .i64 (.ofNat 1)]),
    (6, .cells true 0 [.int .i64 (.ofNat 10), .int .i64 (.ofNat 18), .int .i64 (.ofNat 1)])],
   [],
   .tuple ⟨[.slice none 0 0, .int .i64 (.ofNat 70)]⟩⟩
theorem bx77_ok : bx77.okS EE.G = true := by kernel_rfl
theorem bx77_run : evT EE baT 1000000000 (.call bx77.f bx77.args) bx77.heap (keptK bx77) = some (.bool true) := by kernel_rfl
theorem bx77_h : bx77.holds EE := ent_run envOk baT_holds _ _ bx77_ok bx77_run
-- decani/bench.Change, 1478 steps
noncomputable def bx83 : Ent :=
  ⟨12, [.agg ⟨[.slice (some ⟨3, 0, none⟩) 2 2, .int .i64 (.ofNat 4), .slice none 0 0, .slice (some ⟨4, 0, none⟩) 3 3, .int .i64 (.ofNat 1)]⟩], 8,
   [(0, .cells false 0 [.int .i64 (.negSucc 0), .int .i64 (.negSucc 0), .int .i64 (.negSucc 0), .int .i64 (.negSucc 0), .int .i64 (.negSucc 0)]),
    (1, .cells false 0 [.int .i64 (.ofNat 0), .int .i64 (.ofNat 0), .int .i64 (.ofNat 0), .int .i64 (.ofNat 0)]),
    (2, .cells false 0 [.int .i64 (.ofNat 40), .int .i64 (.ofNat 2), .int .i64 (.ofNat 40), .int .i64 (.ofNat 2), .int .i64 (.ofNat 2), .int .i64 (.ofNat 1), .int .i64 (.ofNat 6), .int .i64 (.ofNat 2), .int .i64 (.ofNat 9), .int .i64 (.ofNat 3)]),
    (3, .cells true 0 [.int .i64 (.ofNat 5), .int .i64 (.ofNat 6), .int .i64 (.ofNat 20), .int .i64 (.ofNat 21), .int .i64 (.ofNat 1), .int .i64 (.ofNat 2), .int .i64 (.ofNat 2), .int .i64 (.ofNat 3), .int .i64 (.ofNat 1), .int .i64 (.ofNat 3), .int .i64 (.ofNat 5), .int .i64 (.ofNat 8), .int .i64 (.ofNat 8), .int .i64 (.ofNat 18), .int .i64 (.ofNat 18), .int .i64 (.ofNat 0), .int .i64 (.ofNat 1), .int .i64 (.ofNat 1), .int .i64 (.ofNat 1), .int .i64 (.ofNat 0), .int .i64 (.ofNat 6), .int .i64 (.ofNat 7)]),
    (4, .cells true 0 [.int .i64 (.ofNat 4), .slice (some ⟨5, 0, none⟩) 2 2, .int .i64 (.ofNat 3), .slice (some ⟨6, 0, none⟩) 1 1, .int .i64 (.ofNat 3), .slice (some ⟨7, 0, none⟩) 1 1]),
    (5, .cells true 0 [.int .i64 (.ofNat 6), .int .i64 (.ofNat 20), .int .i64 (.ofNat 1), .int .i64 (.ofNat 8), .int .i64 (.ofNat 18), .int .i64 (.ofNat 1)]),
    (6, .cells true 0 [.int .i64 (.ofNat 8), .int .i64 (.ofNat 18), .int .i64 (.ofNat 1)]),
    (7, .cells true 0 [.int .i64 (.ofNat 10), .int .i64 (.ofNat 18), .int .i64 (.ofNat 1)])],
   [],
   .tuple ⟨[.slice none 0 0, .int .i64 (.ofNat 70)]⟩⟩
theorem bx83_ok : bx83.okS EE.G = true := by kernel_rfl
theorem bx83_run : evT EE baT 1000000000 (.call bx83.f bx83.args) bx83.heap (keptK bx83) = some (.bool true) := by kernel_rfl
theorem bx83_h : bx83.holds EE := ent_run envOk baT_holds _ _ bx83_ok bx83_run
-- decani/bench.Check, 1418 steps
noncomputable def bx89 : Ent :=
  ⟨15, [.agg ⟨[.slice (some ⟨3, 0, none⟩) 2 2, .int .i64 (.ofNat 4), .slice none 0 0, .slice (some ⟨4, 0, none⟩) 3 3, .int .i64 (.ofNat 1)]⟩], 8,
   [(0, .cells false 0 [.int .i64 (.negSucc 0), .int .i64 (.negSucc 0), .int .i64 (.negSucc 0), .int .i64 (.negSucc 0), .int .i64 (.negSucc 0)]),
    (1, .cells false 0 [.int .i64 (.ofNat 0), .int .i64 (.ofNat 0), .int .i64 (.ofNat 0), .int .i64 (.ofNat 0)]),
    (2, .cells false 0 [.int .i64 (.ofNat 40), .int .i64 (.ofNat 2), .int .i64 (.ofNat 40), .int .i64 (.ofNat 2), .int .i64 (.ofNat 2), .int .i64 (.ofNat 1), .int .i64 (.ofNat 6), .int .i64 (.ofNat 2), .int .i64 (.ofNat 9), .int .i64 (.ofNat 3)]),
    (3, .cells true 0 [.int .i64 (.ofNat 5), .int .i64 (.ofNat 6), .int .i64 (.ofNat 20), .int .i64 (.ofNat 21), .int .i64 (.ofNat 1), .int .i64 (.ofNat 2), .int .i64 (.ofNat 2), .int .i64 (.ofNat 3), .int .i64 (.ofNat 1), .int .i64 (.ofNat 3), .int .i64 (.ofNat 5), .int .i64 (.ofNat 8), .int .i64 (.ofNat 8), .int .i64 (.ofNat 18), .int .i64 (.ofNat 18), .int .i64 (.ofNat 0), .int .i64 (.ofNat 1), .int .i64 (.ofNat 1), .int .i64 (.ofNat 1), .int .i64 (.ofNat 0), .int .i64 (.ofNat 6), .int .i64 (.ofNat 7)]),
    (4, .cells true 0 [.int .i64 (.ofNat 4), .slice (some ⟨5, 0, none⟩) 2 2, .int .i64 (.ofNat 3), .slice (some ⟨6, 0, none⟩) 1 1, .int .i64 (.ofNat 3), .slice (some ⟨7, 0, none⟩) 1 1]),
    (5, .cells true 0 [.int .i64 (.ofNat 6), .int .i64 (.ofNat 20), .int .i64 (.ofNat 1), .int .i64 (.ofNat 8), .int .i64 (.ofNat 18), .int .i64 (.ofNat 1)]),
    (6, .cells true 0 [.int .i64 (.ofNat 8), .int .i64 (.ofNat 18), .int .i64 (.ofNat 1)]),
    (7, .cells true 0 [.int .i64 (.ofNat 10), .int .i64 (.ofNat 18), .int .i64 (.ofNat 1)])],
   [],
   .int .i64 (.ofNat 70)⟩
theorem bx89_ok : bx89.okS EE.G = true := by kernel_rfl
theorem bx89_run : evT EE baT 1000000000 (.call bx89.f bx89.args) bx89.heap (keptK bx89) = some (.bool true) := by kernel_rfl
theorem bx89_h : bx89.holds EE := ent_run envOk baT_holds _ _ bx89_ok bx89_run
-- decani/bench.Can, 1386 steps
noncomputable def bx95 : Ent :=
  ⟨7, [.agg ⟨[.slice (some ⟨3, 0, none⟩) 2 2, .int .i64 (.ofNat 4), .slice none 0 0, .slice (some ⟨4, 0, none⟩) 6 18446744073709551616, .int .i64 (.ofNat 1)]⟩, .int .i64 (.negSucc 0), .int .i64 (.ofNat 0)], 11,
   [(0, .cells false 0 [.int .i64 (.negSucc 0), .int .i64 (.negSucc 0), .int .i64 (.negSucc 0), .int .i64 (.negSucc 0), .int .i64 (.negSucc 0)]),
    (1, .cells false 0 [.int .i64 (.ofNat 0), .int .i64 (.ofNat 0), .int .i64 (.ofNat 0), .int .i64 (.ofNat 0)]),
    (2, .cells false 0 [.int .i64 (.ofNat 40), .int .i64 (.ofNat 2), .int .i64 (.ofNat 40), .int .i64 (.ofNat 2), .int .i64 (.ofNat 2), .int .i64 (.ofNat 1), .int .i64 (.ofNat 6), .int .i64 (.ofNat 2), .int .i64 (.ofNat 9), .int .i64 (.ofNat 3)]),
    (3, .cells true 0 [.int .i64 (.ofNat 5), .int .i64 (.ofNat 6), .int .i64 (.ofNat 20), .int .i64 (.ofNat 21), .int .i64 (.ofNat 1), .int .i64 (.ofNat 2), .int .i64 (.ofNat 2), .int .i64 (.ofNat 3), .int .i64 (.ofNat 1), .int .i64 (.ofNat 3), .int .i64 (.ofNat 5), .int .i64 (.ofNat 8), .int .i64 (.ofNat 8), .int .i64 (.ofNat 18), .int .i64 (.ofNat 18), .int .i64 (.ofNat 0), .int .i64 (.ofNat 1), .int .i64 (.ofNat 1), .int .i64 (.ofNat 1), .int .i64 (.ofNat 0), .int .i64 (.ofNat 6), .int .i64 (.ofNat 7)]),
    (4, .cells true 3 [.int .i64 (.ofNat 0), .slice (some ⟨5, 0, none⟩) 2 2, .int .i64 (.ofNat 3), .slice (some ⟨6, 0, none⟩) 1 1, .int .i64 (.ofNat 3), .slice (some ⟨7, 0, none⟩) 1 1, .int .i64 (.ofNat 0), .slice (some ⟨8, 0, none⟩) 2 2, .int .i64 (.ofNat 3), .slice (some ⟨9, 0, none⟩) 1 1, .int .i64 (.ofNat 3), .slice (some ⟨10, 0, none⟩) 1 1]),
    (5, .cells true 0 [.int .i64 (.ofNat 6), .int .i64 (.ofNat 20), .int .i64 (.ofNat 1), .int .i64 (.ofNat 8), .int .i64 (.ofNat 18), .int .i64 (.ofNat 1)]),
    (6, .cells true 0 [.int .i64 (.ofNat 8), .int .i64 (.ofNat 18), .int .i64 (.ofNat 1)]),
    (7, .cells true 0 [.int .i64 (.ofNat 10), .int .i64 (.ofNat 18), .int .i64 (.ofNat 1)]),
    (8, .cells true 0 [.int .i64 (.ofNat 6), .int .i64 (.ofNat 20), .int .i64 (.ofNat 1), .int .i64 (.ofNat 8), .int .i64 (.ofNat 18), .int .i64 (.ofNat 1)]),
    (9, .cells true 0 [.int .i64 (.ofNat 8), .int .i64 (.ofNat 18), .int .i64 (.ofNat 1)]),
    (10, .cells true 0 [.int .i64 (.ofNat 10), .int .i64 (.ofNat 18), .int .i64 (.ofNat 1)])],
   [],
   .tuple ⟨[.slice none 0 0, .int .i64 (.ofNat 70)]⟩⟩
theorem bx95_ok : bx95.okS EE.G = true := by kernel_rfl
theorem bx95_run : evT EE baT 1000000000 (.call bx95.f bx95.args) bx95.heap (keptK bx95) = some (.bool true) := by kernel_rfl
theorem bx95_h : bx95.holds EE := ent_run envOk baT_holds _ _ bx95_ok bx95_run
-- decani/bench.Fill, 1328 steps
noncomputable def bx101 : Ent :=
  ⟨11, [.agg ⟨[.slice (some ⟨3, 0, none⟩) 2 2, .int .i64 (.ofNat 4), .slice none 0 0, .slice (some ⟨4, 0, none⟩) 3 3, .int .i64 (.ofNat 0)]⟩], 8,
   [(0, .cells false 0 [.int .i64 (.negSucc 0), .int .i64 (.negSucc 0), .int .i64 (.negSucc 0), .int .i64 (.negSucc 0), .int .i64 (.negSucc 0)]),
    (1, .cells false 0 [.int .i64 (.ofNat 0), .int .i64 (.ofNat 0), .int .i64 (.ofNat 0), .int .i64 (.ofNat 0)]),
    (2, .cells false 0 [.int .i64 (.ofNat 40), .int .i64 (.ofNat 2), .int .i64 (.ofNat 40), .int .i64 (.ofNat 2), .int .i64 (.ofNat 2), .int .i64 (.ofNat 1), .int .i64 (.ofNat 6), .int .i64 (.ofNat 2), .int .i64 (.ofNat 9), .int .i64 (.ofNat 3)]),
    (3, .cells true 0 [.int .i64 (.ofNat 5), .int .i64 (.ofNat 6), .int .i64 (.ofNat 20), .int .i64 (.ofNat 21), .int .i64 (.ofNat 1), .int .i64 (.ofNat 2), .int .i64 (.ofNat 2), .int .i64 (.ofNat 3), .int .i64 (.ofNat 1), .int .i64 (.ofNat 3), .int .i64 (.ofNat 5), .int .i64 (.ofNat 8), .int .i64 (.ofNat 8), .int .i64 (.ofNat 18), .int .i64 (.ofNat 18), .int .i64 (.ofNat 0), .int .i64 (.ofNat 1), .int .i64 (.ofNat 1), .int .i64 (.ofNat 1), .int .i64 (.ofNat 0), .int .i64 (.ofNat 6), .int .i64 (.ofNat 7)]),
    (4, .cells true 0 [.int .i64 (.ofNat 0), .slice (some ⟨5, 0, none⟩) 2 2, .int .i64 (.ofNat 3), .slice (some ⟨6, 0, none⟩) 1 1, .int .i64 (.ofNat 3), .slice (some ⟨7, 0, none⟩) 1 1]),
    (5, .cells true 0 [.int .i64 (.ofNat 6), .int .i64 (.ofNat 20), .int .i64 (.ofNat 1), .int .i64 (.ofNat 8), .int .i64 (.ofNat 18), .int .i64 (.ofNat 1)]),
    (6, .cells true 0 [.int .i64 (.ofNat 8), .int .i64 (.ofNat 18), .int .i64 (.ofNat 1)]),
    (7, .cells true 0 [.int .i64 (.ofNat 10), .int .i64 (.ofNat 18), .int .i64 (.ofNat 1)])],
   [],
   .tuple ⟨[.slice none 0 0, .int .i64 (.ofNat 70)]⟩⟩
theorem bx101_ok : bx101.okS EE.G = true := by kernel_rfl
theorem bx101_run : evT EE baT 1000000000 (.call bx101.f bx101.args) bx101.heap (keptK bx101) = some (.bool true) := by kernel_rfl
theorem bx101_h : bx101.holds EE := ent_run envOk baT_holds _ _ bx101_ok bx101_run
-- decani/bench.Change, 1328 steps
noncomputable def bx107 : Ent :=
  ⟨12, [.agg ⟨[.slice (some ⟨3, 0, none⟩) 2 2, .int .i64 (.ofNat 4), .slice none 0 0, .slice (some ⟨4, 0, none⟩) 3 3, .int .i64 (.ofNat 4)]⟩], 8,
   [(0, .cells false 0 [.int .i64 (.negSucc 0), .int .i64 (.negSucc 0), .int .i64 (.negSucc 0), .int .i64 (.negSucc 0), .int .i64 (.negSucc 0)]),
    (1, .cells false 0 [.int .i64 (.ofNat 0), .int .i64 (.ofNat 0), .int .i64 (.ofNat 0), .int .i64 (.ofNat 0)]),
    (2, .cells false 0 [.int .i64 (.ofNat 40), .int .i64 (.ofNat 2), .int .i64 (.ofNat 40), .int .i64 (.ofNat 2), .int .i64 (.ofNat 2), .int .i64 (.ofNat 1), .int .i64 (.ofNat 6), .int .i64 (.ofNat 2), .int .i64 (.ofNat 9), .int .i64 (.ofNat 3)]),
    (3, .cells true 0 [.int .i64 (.ofNat 5), .int .i64 (.ofNat 6), .int .i64 (.ofNat 20), .int .i64 (.ofNat 21), .int .i64 (.ofNat 1), .int .i64 (.ofNat 2), .int .i64 (.ofNat 2), .int .i64 (.ofNat 3), .int .i64 (.ofNat 1), .int .i64 (.ofNat 3), .int .i64 (.ofNat 5), .int .i64 (.ofNat 8), .int .i64 (.ofNat 8), .int .i64 (.ofNat 18), .int .i64 (.ofNat 18), .int .i64 (.ofNat 0), .int .i64 (.ofNat 1), .int .i64 (.ofNat 1), .int .i64 (.ofNat 1), .int .i64 (.ofNat 0), .int .i64 (.ofNat 6), .int .i64 (.ofNat 7)]),
    (4, .cells true 0 [.int .i64 (.ofNat 0), .slice (some ⟨5, 0, none⟩) 2 2, .int .i64 (.ofNat 3), .slice (some ⟨6, 0, none⟩) 1 1, .int .i64 (.ofNat 3), .slice (some ⟨7, 0, none⟩) 1 1]),
    (5, .cells true 0 [.int .i64 (.ofNat 6), .int .i64 (.ofNat 20), .int .i64 (.ofNat 1), .int .i64 (.ofNat 8), .int .i64 (.ofNat 18), .int .i64 (.ofNat 1)]),
    (6, .cells true 0 [.int .i64 (.ofNat 8), .int .i64 (.ofNat 18), .int .i64 (.ofNat 1)]),
    (7, .cells true 0 [.int .i64 (.ofNat 10), .int .i64 (.ofNat 18), .int .i64 (.ofNat 1)])],
   [],
   .tuple ⟨[.slice none 0 0, .int .i64 (.ofNat 70)]⟩⟩
theorem bx107_ok : bx107.okS EE.G = true := by kernel_rfl
theorem bx107_run : evT EE baT 1000000000 (.call bx107.f bx107.args) bx107.heap (keptK bx107) = some (.bool true) := by kernel_rfl
theorem bx107_h : bx107.holds EE := ent_run envOk baT_holds _ _ bx107_ok bx107_run
-- decani/bench.Seats, 1310 steps
noncomputable def bx113 : Ent :=
  ⟨13, [.agg ⟨[.slice (some ⟨3, 0, none⟩) 2 2, .int .i64 (.ofNat 4), .slice none 0 0, .slice none 0 0, .int .i64 (.ofNat 1)]⟩], 4,
   [(0, .cells false 0 [.int .i64 (.negSucc 0), .int .i64 (.negSucc 0), .int .i64 (.negSucc 0), .int .i64 (.negSucc 0), .int .i64 (.negSucc 0)]),
    (1, .cells false 0 [.int .i64 (.ofNat 0), .int .i64 (.ofNat 0), .int .i64 (.ofNat 0), .int .i64 (.ofNat 0)]),
    (2, .cells false 0 [.int .i64 (.ofNat 40), .int .i64 (.ofNat 2), .int .i64 (.ofNat 40), .int .i64 (.ofNat 2), .int .i64 (.ofNat 2), .int .i64 (.ofNat 1), .int .i64 (.ofNat 6), .int .i64 (.ofNat 2), .int .i64 (.ofNat 9), .int .i64 (.ofNat 3)]),
    (3, .cells true 0 [.int .i64 (.ofNat 5), .int .i64 (.ofNat 6), .int .i64 (.ofNat 20), .int .i64 (.ofNat 21), .int .i64 (.ofNat 1), .int .i64 (.ofNat 2), .int .i64 (.ofNat 2), .int .i64 (.ofNat 3), .int .i64 (.ofNat 1), .int .i64 (.ofNat 3), .int .i64 (.ofNat 5), .int .i64 (.ofNat 8), .int .i64 (.ofNat 8), .int .i64 (.ofNat 18), .int .i64 (.ofNat 18), .int .i64 (.ofNat 0), .int .i64 (.ofNat 1), .int .i64 (.ofNat 1), .int .i64 (.ofNat 1), .int .i64 (.ofNat 0), .int .i64 (.ofNat 6), .int .i64 (.ofNat 7)])],
   [],
   .tuple ⟨[.slice none 0 0, .int .i64 (.ofNat 70)]⟩⟩
theorem bx113_ok : bx113.okS EE.G = true := by kernel_rfl
theorem bx113_run : evT EE baT 1000000000 (.call bx113.f bx113.args) bx113.heap (keptK bx113) = some (.bool true) := by kernel_rfl
theorem bx113_h : bx113.holds EE := ent_run envOk baT_holds _ _ bx113_ok bx113_run
-- decani/bench.Need, 1310 steps
noncomputable def bx119 : Ent :=
  ⟨14, [.agg ⟨[.slice (some ⟨3, 0, none⟩) 2 2, .int .i64 (.ofNat 4), .slice none 0 0, .slice (some ⟨4, 0, none⟩) 6 18446744073709551616, .int .i64 (.ofNat 1)]⟩], 11,
   [(0, .cells false 0 [.int .i64 (.negSucc 0), .int .i64 (.negSucc 0), .int .i64 (.negSucc 0), .int .i64 (.negSucc 0), .int .i64 (.negSucc 0)]),
    (1, .cells false 0 [.int .i64 (.ofNat 0), .int .i64 (.ofNat 0), .int .i64 (.ofNat 0), .int .i64 (.ofNat 0)]),
    (2, .cells false 0 [.int .i64 (.ofNat 40), .int .i64 (.ofNat 2), .int .i64 (.ofNat 40), .int .i64 (.ofNat 2), .int .i64 (.ofNat 2), .int .i64 (.ofNat 1), .int .i64 (.ofNat 6), .int .i64 (.ofNat 2), .int .i64 (.ofNat 9), .int .i64 (.ofNat 3)]),
    (3, .cells true 0 [.int .i64 (.ofNat 5), .int .i64 (.ofNat 6), .int .i64 (.ofNat 20), .int .i64 (.ofNat 21), .int .i64 (.ofNat 1), .int .i64 (.ofNat 2), .int .i64 (.ofNat 2), .int .i64 (.ofNat 3), .int .i64 (.ofNat 1), .int .i64 (.ofNat 3), .int .i64 (.ofNat 5), .int .i64 (.ofNat 8), .int .i64 (.ofNat 8), .int .i64 (.ofNat 18), .int .i64 (.ofNat 18), .int .i64 (.ofNat 0), .int .i64 (.ofNat 1), .int .i64 (.ofNat 1), .int .i64 (.ofNat 1), .int .i64 (.ofNat 0), .int .i64 (.ofNat 6), .int .i64 (.ofNat 7)]),
    (4, .cells true 3 [.int .i64 (.ofNat 0), .slice (some ⟨5, 0, none⟩) 2 2, .int .i64 (.ofNat 3), .slice (some ⟨6, 0, none⟩) 1 1, .int .i64 (.ofNat 3), .slice (some ⟨7, 0, none⟩) 1 1, .int .i64 (.ofNat 0), .slice (some ⟨8, 0, none⟩) 2 2, .int .i64 (.ofNat 3), .slice (some ⟨9, 0, none⟩) 1 1, .int .i64 (.ofNat 3), .slice (some ⟨10, 0, none⟩) 1 1]),
    (5, .cells true 0 [.int .i64 (.ofNat 6), .int .i64 (.ofNat 20), .int .i64 (.ofNat 1), .int .i64 (.ofNat 8), .int .i64 (.ofNat 18), .int .i64 (.ofNat 1)]),
    (6, .cells true 0 [.int .i64 (.ofNat 8), .int .i64 (.ofNat 18), .int .i64 (.ofNat 1)]),
    (7, .cells true 0 [.int .i64 (.ofNat 10), .int .i64 (.ofNat 18), .int .i64 (.ofNat 1)]),
    (8, .cells true 0 [.int .i64 (.ofNat 6), .int .i64 (.ofNat 20), .int .i64 (.ofNat 1), .int .i64 (.ofNat 8), .int .i64 (.ofNat 18), .int .i64 (.ofNat 1)]),
    (9, .cells true 0 [.int .i64 (.ofNat 8), .int .i64 (.ofNat 18), .int .i64 (.ofNat 1)]),
    (10, .cells true 0 [.int .i64 (.ofNat 10), .int .i64 (.ofNat 18), .int .i64 (.ofNat 1)])],
   [],
   .tuple ⟨[.slice none 0 0, .int .i64 (.ofNat 70)]⟩⟩
theorem bx119_ok : bx119.okS EE.G = true := by kernel_rfl
theorem bx119_run : evT EE baT 1000000000 (.call bx119.f bx119.args) bx119.heap (keptK bx119) = some (.bool true) := by kernel_rfl
theorem bx119_h : bx119.holds EE := ent_run envOk baT_holds _ _ bx119_ok bx119_run
-- decani/bench.May, 276 steps
noncomputable def bx125 : Ent :=
  ⟨9, [.agg ⟨[.slice none 0 0, .int .i64 (.ofNat 0), .slice none 0 0, .slice none 0 0, .int .i64 (.ofNat 0)]⟩, .slice (some ⟨3, 0, none⟩) 1 1, .slice none 0 0], 4,
   [(0, .cells false 0 [.int .i64 (.negSucc 0), .int .i64 (.negSucc 0), .int .i64 (.negSucc 0), .int .i64 (.negSucc 0), .int .i64 (.negSucc 0)]),
    (1, .cells false 0 [.int .i64 (.ofNat 0), .int .i64 (.ofNat 0), .int .i64 (.ofNat 0), .int .i64 (.ofNat 0)]),
    (2, .cells false 0 [.int .i64 (.ofNat 40), .int .i64 (.ofNat 2), .int .i64 (.ofNat 40), .int .i64 (.ofNat 2), .int .i64 (.ofNat 2), .int .i64 (.ofNat 1), .int .i64 (.ofNat 6), .int .i64 (.ofNat 2), .int .i64 (.ofNat 9), .int .i64 (.ofNat 3)]),
    (3, .cells true 0 [.int .i64 (.ofNat 9)])],
   [],
   .tuple ⟨[.bool false, .int .i64 (.ofNat 70)]⟩⟩
theorem bx125_ok : bx125.okS EE.G = true := by kernel_rfl
theorem bx125_run : evT EE baT 1000000000 (.call bx125.f bx125.args) bx125.heap (keptK bx125) = some (.bool true) := by kernel_rfl
theorem bx125_h : bx125.holds EE := ent_run envOk baT_holds _ _ bx125_ok bx125_run
-- decani/bench.Can, 274 steps
noncomputable def bx126 : Ent :=
  ⟨7, [.agg ⟨[.slice (some ⟨3, 0, none⟩) 2 2, .int .i64 (.ofNat 7), .slice none 0 0, .slice (some ⟨4, 0, none⟩) 3 3, .int .i64 (.ofNat 1)]⟩, .int .i64 (.negSucc 0), .int .i64 (.ofNat 0)], 8,
   [(0, .cells false 0 [.int .i64 (.negSucc 0), .int .i64 (.negSucc 0), .int .i64 (.negSucc 0), .int .i64 (.negSucc 0), .int .i64 (.negSucc 0)]),
    (1, .cells false 0 [.int .i64 (.ofNat 0), .int .i64 (.ofNat 0), .int .i64 (.ofNat 0), .int .i64 (.ofNat 0)]),
    (2, .cells false 0 [.int .i64 (.ofNat 40), .int .i64 (.ofNat 2), .int .i64 (.ofNat 40), .int .i64 (.ofNat 2), .int .i64 (.ofNat 2), .int .i64 (.ofNat 1), .int .i64 (.ofNat 6), .int .i64 (.ofNat 2), .int .i64 (.ofNat 9), .int .i64 (.ofNat 3)]),
    (3, .cells true 0 [.int .i64 (.ofNat 5), .int .i64 (.ofNat 6), .int .i64 (.ofNat 20), .int .i64 (.ofNat 21), .int .i64 (.ofNat 1), .int .i64 (.ofNat 2), .int .i64 (.ofNat 2), .int .i64 (.ofNat 3), .int .i64 (.ofNat 1), .int .i64 (.ofNat 3), .int .i64 (.ofNat 5), .int .i64 (.ofNat 8), .int .i64 (.ofNat 8), .int .i64 (.ofNat 18), .int .i64 (.ofNat 18), .int .i64 (.ofNat 0), .int .i64 (.ofNat 1), .int .i64 (.ofNat 1), .int .i64 (.ofNat 1), .int .i64 (.ofNat 0), .int .i64 (.ofNat 6), .int .i64 (.ofNat 7)]),
    (4, .cells true 0 [.int .i64 (.ofNat 0), .slice (some ⟨5, 0, none⟩) 2 2, .int .i64 (.ofNat 3), .slice (some ⟨6, 0, none⟩) 1 1, .int .i64 (.ofNat 3), .slice (some ⟨7, 0, none⟩) 1 1]),
    (5, .cells true 0 [.int .i64 (.ofNat 6), .int .i64 (.ofNat 20), .int .i64 (.ofNat 1), .int .i64 (.ofNat 8), .int .i64 (.ofNat 18), .int .i64 (.ofNat 1)]),
    (6, .cells true 0 [.int .i64 (.ofNat 8), .int .i64 (.ofNat 18), .int .i64 (.ofNat 1)]),
    (7, .cells true 0 [.int .i64 (.ofNat 10), .int .i64 (.ofNat 18), .int .i64 (.ofNat 1)])],
   [],
   .tuple ⟨[.slice none 0 0, .int .i64 (.ofNat 70)]⟩⟩
theorem bx126_ok : bx126.okS EE.G = true := by kernel_rfl
theorem bx126_run : evT EE baT 1000000000 (.call bx126.f bx126.args) bx126.heap (keptK bx126) = some (.bool true) := by kernel_rfl
theorem bx126_h : bx126.holds EE := ent_run envOk baT_holds _ _ bx126_ok bx126_run
-- decani/bench.Lack, 218 steps
noncomputable def bx129 : Ent :=
  ⟨8, [.agg ⟨[.slice none 0 0, .int .i64 (.ofNat 0), .slice none 0 0, .slice none 0 0, .int .i64 (.ofNat 0)]⟩, .int .i64 (.negSucc 0)], 3,
   [(0, .cells false 0 [.int .i64 (.negSucc 0), .int .i64 (.negSucc 0), .int .i64 (.negSucc 0), .int .i64 (.negSucc 0), .int .i64 (.negSucc 0)]),
    (1, .cells false 0 [.int .i64 (.ofNat 0), .int .i64 (.ofNat 0), .int .i64 (.ofNat 0), .int .i64 (.ofNat 0)]),
    (2, .cells false 0 [.int .i64 (.ofNat 40), .int .i64 (.ofNat 2), .int .i64 (.ofNat 40), .int .i64 (.ofNat 2), .int .i64 (.ofNat 2), .int .i64 (.ofNat 1), .int .i64 (.ofNat 6), .int .i64 (.ofNat 2), .int .i64 (.ofNat 9), .int .i64 (.ofNat 3)])],
   [],
   .tuple ⟨[.int .i64 (.ofNat 0), .int .i64 (.ofNat 70)]⟩⟩
theorem bx129_ok : bx129.okS EE.G = true := by kernel_rfl
theorem bx129_run : evT EE baT 1000000000 (.call bx129.f bx129.args) bx129.heap (keptK bx129) = some (.bool true) := by kernel_rfl
theorem bx129_h : bx129.holds EE := ent_run envOk baT_holds _ _ bx129_ok bx129_run
-- decani/bench.Need, 198 steps
noncomputable def bx134 : Ent :=
  ⟨14, [.agg ⟨[.slice (some ⟨3, 0, none⟩) 2 2, .int .i64 (.ofNat 7), .slice none 0 0, .slice (some ⟨4, 0, none⟩) 3 3, .int .i64 (.ofNat 1)]⟩], 8,
   [(0, .cells false 0 [.int .i64 (.negSucc 0), .int .i64 (.negSucc 0), .int .i64 (.negSucc 0), .int .i64 (.negSucc 0), .int .i64 (.negSucc 0)]),
    (1, .cells false 0 [.int .i64 (.ofNat 0), .int .i64 (.ofNat 0), .int .i64 (.ofNat 0), .int .i64 (.ofNat 0)]),
    (2, .cells false 0 [.int .i64 (.ofNat 40), .int .i64 (.ofNat 2), .int .i64 (.ofNat 40), .int .i64 (.ofNat 2), .int .i64 (.ofNat 2), .int .i64 (.ofNat 1), .int .i64 (.ofNat 6), .int .i64 (.ofNat 2), .int .i64 (.ofNat 9), .int .i64 (.ofNat 3)]),
    (3, .cells true 0 [.int .i64 (.ofNat 5), .int .i64 (.ofNat 6), .int .i64 (.ofNat 20), .int .i64 (.ofNat 21), .int .i64 (.ofNat 1), .int .i64 (.ofNat 2), .int .i64 (.ofNat 2), .int .i64 (.ofNat 3), .int .i64 (.ofNat 1), .int .i64 (.ofNat 3), .int .i64 (.ofNat 5), .int .i64 (.ofNat 8), .int .i64 (.ofNat 8), .int .i64 (.ofNat 18), .int .i64 (.ofNat 18), .int .i64 (.ofNat 0), .int .i64 (.ofNat 1), .int .i64 (.ofNat 1), .int .i64 (.ofNat 1), .int .i64 (.ofNat 0), .int .i64 (.ofNat 6), .int .i64 (.ofNat 7)]),
    (4, .cells true 0 [.int .i64 (.ofNat 0), .slice (some ⟨5, 0, none⟩) 2 2, .int .i64 (.ofNat 3), .slice (some ⟨6, 0, none⟩) 1 1, .int .i64 (.ofNat 3), .slice (some ⟨7, 0, none⟩) 1 1]),
    (5, .cells true 0 [.int .i64 (.ofNat 6), .int .i64 (.ofNat 20), .int .i64 (.ofNat 1), .int .i64 (.ofNat 8), .int .i64 (.ofNat 18), .int .i64 (.ofNat 1)]),
    (6, .cells true 0 [.int .i64 (.ofNat 8), .int .i64 (.ofNat 18), .int .i64 (.ofNat 1)]),
    (7, .cells true 0 [.int .i64 (.ofNat 10), .int .i64 (.ofNat 18), .int .i64 (.ofNat 1)])],
   [],
   .tuple ⟨[.slice none 0 0, .int .i64 (.ofNat 70)]⟩⟩
theorem bx134_ok : bx134.okS EE.G = true := by kernel_rfl
theorem bx134_run : evT EE baT 1000000000 (.call bx134.f bx134.args) bx134.heap (keptK bx134) = some (.bool true) := by kernel_rfl
theorem bx134_h : bx134.holds EE := ent_run envOk baT_holds _ _ bx134_ok bx134_run
-- decani/bench.Check, 120 steps
noncomputable def bx141 : Ent :=
  ⟨15, [.agg ⟨[.slice none 0 0, .int .i64 (.ofNat 0), .slice none 0 0, .slice none 0 0, .int .i64 (.ofNat 0)]⟩], 3,
   [(0, .cells false 0 [.int .i64 (.negSucc 0), .int .i64 (.negSucc 0), .int .i64 (.negSucc 0), .int .i64 (.negSucc 0), .int .i64 (.negSucc 0)]),
    (1, .cells false 0 [.int .i64 (.ofNat 0), .int .i64 (.ofNat 0), .int .i64 (.ofNat 0), .int .i64 (.ofNat 0)]),
    (2, .cells false 0 [.int .i64 (.ofNat 40), .int .i64 (.ofNat 2), .int .i64 (.ofNat 40), .int .i64 (.ofNat 2), .int .i64 (.ofNat 2), .int .i64 (.ofNat 1), .int .i64 (.ofNat 6), .int .i64 (.ofNat 2), .int .i64 (.ofNat 9), .int .i64 (.ofNat 3)])],
   [],
   .int .i64 (.ofNat 70)⟩
theorem bx141_ok : bx141.okS EE.G = true := by kernel_rfl
theorem bx141_run : evT EE baT 1000000000 (.call bx141.f bx141.args) bx141.heap (keptK bx141) = some (.bool true) := by kernel_rfl
theorem bx141_h : bx141.holds EE := ent_run envOk baT_holds _ _ bx141_ok bx141_run
end Go.Proofs.YthbgjljkepfhcabGreatDoor
