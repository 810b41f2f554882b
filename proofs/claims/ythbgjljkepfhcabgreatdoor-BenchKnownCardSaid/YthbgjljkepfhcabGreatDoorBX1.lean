/- Known calls, part 1: what single calls hand back, at small heaps, by the kernel's own run of the evaluator. No conditions. -/
import Derived.Test.YthbgjljkepfhcabGreatDoorBA
set_option linter.all false
namespace Go.Proofs.YthbgjljkepfhcabGreatDoor
open Go.Ai
set_option maxRecDepth 1000000
-- decani/bench.May, 210555 steps
noncomputable def bx1 : Ent :=
  ⟨9, [.agg ⟨[.slice (some ⟨3, 0, none⟩) 2 2, .int .i64 (.ofNat 4), .slice none 0 0, .slice (some ⟨4, 0, none⟩) 3 3, .int .i64 (.ofNat 1)]⟩, .slice (some ⟨8, 0, none⟩) 1 1, .slice (some ⟨9, 0, none⟩) 1 1], 10,
   [(0, .cells false 0 [.int .i64 (.negSucc 0), .int .i64 (.negSucc 0), .int .i64 (.negSucc 0), .int .i64 (.negSucc 0), .int .i64 (.negSucc 0)]),
    (1, .cells false 0 [.int .i64 (.ofNat 0), .int .i64 (.ofNat 0), .int .i64 (.ofNat 0), .int .i64 (.ofNat 0)]),
    (2, .cells false 0 [.int .i64 (.ofNat 40), .int .i64 (.ofNat 2), .int .i64 (.ofNat 40), .int .i64 (.ofNat 2), .int .i64 (.ofNat 2), .int .i64 (.ofNat 1), .int .i64 (.ofNat 6), .int .i64 (.ofNat 2), .int .i64 (.ofNat 9), .int .i64 (.ofNat 3)]),
    (3, .cells true 0 [.int .i64 (.ofNat 5), .int .i64 (.ofNat 6), .int .i64 (.ofNat 20), .int .i64 (.ofNat 21), .int .i64 (.ofNat 1), .int .i64 (.ofNat 2), .int .i64 (.ofNat 2), .int .i64 (.ofNat 3), .int .i64 (.ofNat 1), .int .i64 (.ofNat 3), .int .i64 (.ofNat 5), .int .i64 (.ofNat 8), .int .i64 (.ofNat 8), .int .i64 (.ofNat 18), .int .i64 (.ofNat 18), .int .i64 (.ofNat 0), .int .i64 (.ofNat 1), .int .i64 (.ofNat 1), .int .i64 (.ofNat 1), .int .i64 (.ofNat 0), .int .i64 (.ofNat 6), .int .i64 (.ofNat 7)]),
    (4, .cells true 0 [.int .i64 (.ofNat 0), .slice (some ⟨5, 0, none⟩) 2 2, .int .i64 (.ofNat 3), .slice (some ⟨6, 0, none⟩) 1 1, .int .i64 (.ofNat 3), .slice (some ⟨7, 0, none⟩) 1 1]),
    (5, .cells true 0 [.int .i64 (.ofNat 6), .int .i64 (.ofNat 20), .int .i64 (.ofNat 1), .int .i64 (.ofNat 8), .int .i64 (.ofNat 18), .int .i64 (.ofNat 1)]),
    (6, .cells true 0 [.int .i64 (.ofNat 8), .int .i64 (.ofNat 18), .int .i64 (.ofNat 1)]),
    (7, .cells true 0 [.int .i64 (.ofNat 10), .int .i64 (.ofNat 18), .int .i64 (.ofNat 1)]),
    (8, .cells true 0 [.int .i64 (.ofNat 0)]),
    (9, .cells true 0 [.int .i64 (.ofNat 0), .int .i64 (.ofNat 0), .int .i64 (.ofNat 0)])],
   [],
   .tuple ⟨[.bool false, .int .i64 (.ofNat 0)]⟩⟩
theorem bx1_ok : bx1.okS EE.G = true := by kernel_rfl
theorem bx1_run : evT EE baT 1000000000 (.call bx1.f bx1.args) bx1.heap (keptK bx1) = some (.bool true) := by kernel_rfl
theorem bx1_h : bx1.holds EE := ent_run envOk baT_holds _ _ bx1_ok bx1_run
-- decani/bench.May, 210555 steps
noncomputable def bx7 : Ent :=
  ⟨9, [.agg ⟨[.slice (some ⟨3, 0, none⟩) 2 2, .int .i64 (.ofNat 4), .slice none 0 0, .slice (some ⟨4, 0, none⟩) 3 3, .int .i64 (.ofNat 1)]⟩, .slice (some ⟨8, 0, none⟩) 1 1, .slice (some ⟨9, 0, none⟩) 1 1], 10,
   [(0, .cells false 0 [.int .i64 (.negSucc 0), .int .i64 (.negSucc 0), .int .i64 (.negSucc 0), .int .i64 (.negSucc 0), .int .i64 (.negSucc 0)]),
    (1, .cells false 0 [.int .i64 (.ofNat 0), .int .i64 (.ofNat 0), .int .i64 (.ofNat 0), .int .i64 (.ofNat 0)]),
    (2, .cells false 0 [.int .i64 (.ofNat 40), .int .i64 (.ofNat 2), .int .i64 (.ofNat 40), .int .i64 (.ofNat 2), .int .i64 (.ofNat 2), .int .i64 (.ofNat 1), .int .i64 (.ofNat 6), .int .i64 (.ofNat 2), .int .i64 (.ofNat 9), .int .i64 (.ofNat 3)]),
    (3, .cells true 0 [.int .i64 (.ofNat 5), .int .i64 (.ofNat 6), .int .i64 (.ofNat 20), .int .i64 (.ofNat 21), .int .i64 (.ofNat 1), .int .i64 (.ofNat 2), .int .i64 (.ofNat 2), .int .i64 (.ofNat 3), .int .i64 (.ofNat 1), .int .i64 (.ofNat 3), .int .i64 (.ofNat 5), .int .i64 (.ofNat 8), .int .i64 (.ofNat 8), .int .i64 (.ofNat 18), .int .i64 (.ofNat 18), .int .i64 (.ofNat 0), .int .i64 (.ofNat 1), .int .i64 (.ofNat 1), .int .i64 (.ofNat 1), .int .i64 (.ofNat 0), .int .i64 (.ofNat 6), .int .i64 (.ofNat 7)]),
    (4, .cells true 0 [.int .i64 (.ofNat 0), .slice (some ⟨5, 0, none⟩) 2 2, .int .i64 (.ofNat 3), .slice (some ⟨6, 0, none⟩) 1 1, .int .i64 (.ofNat 3), .slice (some ⟨7, 0, none⟩) 1 1]),
    (5, .cells true 0 [.int .i64 (.ofNat 6), .int .i64 (.ofNat 20), .int .i64 (.ofNat 1), .int .i64 (.ofNat 8), .int .i64 (.ofNat 18), .int .i64 (.ofNat 1)]),
    (6, .cells true 0 [.int .i64 (.ofNat 8), .int .i64 (.ofNat 18), .int .i64 (.ofNat 1)]),
    (7, .cells true 0 [.int .i64 (.ofNat 10), .int .i64 (.ofNat 18), .int .i64 (.ofNat 1)]),
    (8, .cells true 0 [.int .i64 (.ofNat 0)]),
    (9, .cells true 0 [.int .i64 (.negSucc 0), .int .i64 (.ofNat 0), .int .i64 (.ofNat 0)])],
   [],
   .tuple ⟨[.bool false, .int .i64 (.ofNat 0)]⟩⟩
theorem bx7_ok : bx7.okS EE.G = true := by kernel_rfl
theorem bx7_run : evT EE baT 1000000000 (.call bx7.f bx7.args) bx7.heap (keptK bx7) = some (.bool true) := by kernel_rfl
theorem bx7_h : bx7.holds EE := ent_run envOk baT_holds _ _ bx7_ok bx7_run
-- decani/bench.Need, 38993 steps
noncomputable def bx13 : Ent :=
  ⟨14, [.agg ⟨[.slice (some ⟨3, 0, none⟩) 2 2, .int .i64 (.ofNat 4), .slice (some ⟨4, 0, none⟩) 2 2, .slice (some ⟨5, 0, none⟩) 3 3, .int .i64 (.ofNat 1)]⟩], 9,
   [(0, .cells false 0 [.int .i64 (.negSucc 0), .int .i64 (.negSucc 0), .int .i64 (.negSucc 0), .int .i64 (.negSucc 0), .int .i64 (.negSucc 0)]),
    (1, .cells false 0 [.int .i64 (.ofNat 0), .int .i64 (.ofNat 0), .int .i64 (.ofNat 0), .int .i64 (.ofNat 0)]),
    (2, .cells false 0 [.int .i64 (.ofNat 40), .int .i64 (.ofNat 2), .int .i64 (.ofNat 40), .int .i64 (.ofNat 2), .int .i64 (.ofNat 2), .int .i64 (.ofNat 1), .int .i64 (.ofNat 6), .int .i64 (.ofNat 2), .int .i64 (.ofNat 9), .int .i64 (.ofNat 3)]),
    (3, .cells true 0 [.int .i64 (.ofNat 5), .int .i64 (.ofNat 6), .int .i64 (.ofNat 20), .int .i64 (.ofNat 21), .int .i64 (.ofNat 1), .int .i64 (.ofNat 2), .int .i64 (.ofNat 2), .int .i64 (.ofNat 3), .int .i64 (.ofNat 1), .int .i64 (.ofNat 3), .int .i64 (.ofNat 5), .int .i64 (.ofNat 8), .int .i64 (.ofNat 8), .int .i64 (.ofNat 18), .int .i64 (.ofNat 18), .int .i64 (.ofNat 0), .int .i64 (.ofNat 1), .int .i64 (.ofNat 1), .int .i64 (.ofNat 1), .int .i64 (.ofNat 0), .int .i64 (.ofNat 6), .int .i64 (.ofNat 7)]),
    (4, .cells true 0 [.int .i64 (.ofNat 0), .int .i64 (.ofNat 3), .int .i64 (.ofNat 15), .int .i64 (.ofNat 0), .int .i64 (.ofNat 0), .int .i64 (.ofNat 3), .int .i64 (.ofNat 20), .int .i64 (.ofNat 1)]),
    (5, .cells true 0 [.int .i64 (.ofNat 0), .slice (some ⟨6, 0, none⟩) 2 2, .int .i64 (.ofNat 3), .slice (some ⟨7, 0, none⟩) 1 1, .int .i64 (.ofNat 3), .slice (some ⟨8, 0, none⟩) 1 1]),
    (6, .cells true 0 [.int .i64 (.ofNat 6), .int .i64 (.ofNat 20), .int .i64 (.ofNat 1), .int .i64 (.ofNat 8), .int .i64 (.ofNat 18), .int .i64 (.ofNat 1)]),
    (7, .cells true 0 [.int .i64 (.ofNat 8), .int .i64 (.ofNat 18), .int .i64 (.ofNat 1)]),
    (8, .cells true 0 [.int .i64 (.ofNat 10), .int .i64 (.ofNat 18), .int .i64 (.ofNat 1)])],
   [],
   .tuple ⟨[.slice none 0 0, .int .i64 (.ofNat 72)]⟩⟩
theorem bx13_ok : bx13.okS EE.G = true := by kernel_rfl
theorem bx13_run : evT EE baT 1000000000 (.call bx13.f bx13.args) bx13.heap (keptK bx13) = some (.bool true) := by kernel_rfl
theorem bx13_h : bx13.holds EE := ent_run envOk baT_holds _ _ bx13_ok bx13_run
-- decani/bench.Ways, 217273 steps
noncomputable def bx19 : Ent :=
  ⟨10, [.agg ⟨[.slice (some ⟨3, 0, none⟩) 2 2, .int .i64 (.ofNat 4), .slice none 0 0, .slice (some ⟨4, 0, none⟩) 3 3, .int .i64 (.ofNat 1)]⟩], 8,
   [(0, .cells false 0 [.int .i64 (.negSucc 0), .int .i64 (.negSucc 0), .int .i64 (.negSucc 0), .int .i64 (.negSucc 0), .int .i64 (.negSucc 0)]),
    (1, .cells false 0 [.int .i64 (.ofNat 0), .int .i64 (.ofNat 0), .int .i64 (.ofNat 0), .int .i64 (.ofNat 0)]),
    (2, .cells false 0 [.int .i64 (.ofNat 40), .int .i64 (.ofNat 2), .int .i64 (.ofNat 40), .int .i64 (.ofNat 2), .int .i64 (.ofNat 2), .int .i64 (.ofNat 1), .int .i64 (.ofNat 6), .int .i64 (.ofNat 2), .int .i64 (.ofNat 9), .int .i64 (.ofNat 3)]),
    (3, .cells true 0 [.int .i64 (.ofNat 5), .int .i64 (.ofNat 6), .int .i64 (.ofNat 20), .int .i64 (.ofNat 21), .int .i64 (.ofNat 1), .int .i64 (.ofNat 2), .int .i64 (.ofNat 2), .int .i64 (.ofNat 3), .int .i64 (.ofNat 1), .int .i64 (.ofNat 3), .int .i64 (.ofNat 5), .int .i64 (.ofNat 8), .int .i64 (.ofNat 8), .int .i64 (.ofNat 18), .int .i64 (.ofNat 18), .int .i64 (.ofNat 0), .int .i64 (.ofNat 1), .int .i64 (.ofNat 1), .int .i64 (.ofNat 1), .int .i64 (.ofNat 0), .int .i64 (.ofNat 6), .int .i64 (.ofNat 7)]),
    (4, .cells true 0 [.int .i64 (.ofNat 0), .slice (some ⟨5, 0, none⟩) 2 2, .int .i64 (.ofNat 3), .slice (some ⟨6, 0, none⟩) 1 1, .int .i64 (.ofNat 3), .slice (some ⟨7, 0, none⟩) 1 1]),
    (5, .cells true 0 [.int .i64 (.ofNat 6), .int .i64 (.ofNat 20), .int .i64 (.ofNat 1), .int .i64 (.ofNat 8), .int .i64 (.ofNat 18), .int .i64 (.ofNat 1)]),
    (6, .cells true 0 [.int .i64 (.ofNat 8), .int .i64 (.ofNat 18), .int .i64 (.ofNat 1)]),
    (7, .cells true 0 [.int .i64 (.ofNat 10), .int .i64 (.ofNat 18), .int .i64 (.ofNat 1)])],
   [],
   .tuple ⟨[.int .i64 (.ofNat 0), .int .i64 (.ofNat 0)]⟩⟩
theorem bx19_ok : bx19.okS EE.G = true := by kernel_rfl
theorem bx19_run : evT EE baT 1000000000 (.call bx19.f bx19.args) bx19.heap (keptK bx19) = some (.bool true) := by kernel_rfl
theorem bx19_h : bx19.holds EE := ent_run envOk baT_holds _ _ bx19_ok bx19_run
-- decani/bench.May, 212641 steps
noncomputable def bx25 : Ent :=
  ⟨9, [.agg ⟨[.slice (some ⟨3, 0, none⟩) 2 2, .int .i64 (.ofNat 4), .slice none 0 0, .slice (some ⟨4, 0, none⟩) 3 3, .int .i64 (.ofNat 1)]⟩, .slice (some ⟨8, 0, none⟩) 2 2, .slice (some ⟨9, 0, none⟩) 2 2], 10,
   [(0, .cells false 0 [.int .i64 (.negSucc 0), .int .i64 (.negSucc 0), .int .i64 (.negSucc 0), .int .i64 (.negSucc 0), .int .i64 (.negSucc 0)]),
    (1, .cells false 0 [.int .i64 (.ofNat 0), .int .i64 (.ofNat 0), .int .i64 (.ofNat 0), .int .i64 (.ofNat 0)]),
    (2, .cells false 0 [.int .i64 (.ofNat 40), .int .i64 (.ofNat 2), .int .i64 (.ofNat 40), .int .i64 (.ofNat 2), .int .i64 (.ofNat 2), .int .i64 (.ofNat 1), .int .i64 (.ofNat 6), .int .i64 (.ofNat 2), .int .i64 (.ofNat 9), .int .i64 (.ofNat 3)]),
    (3, .cells true 0 [.int .i64 (.ofNat 5), .int .i64 (.ofNat 6), .int .i64 (.ofNat 20), .int .i64 (.ofNat 21), .int .i64 (.ofNat 1), .int .i64 (.ofNat 2), .int .i64 (.ofNat 2), .int .i64 (.ofNat 3), .int .i64 (.ofNat 1), .int .i64 (.ofNat 3), .int .i64 (.ofNat 5), .int .i64 (.ofNat 8), .int .i64 (.ofNat 8), .int .i64 (.ofNat 18), .int .i64 (.ofNat 18), .int .i64 (.ofNat 0), .int .i64 (.ofNat 1), .int .i64 (.ofNat 1), .int .i64 (.ofNat 1), .int .i64 (.ofNat 0), .int .i64 (.ofNat 6), .int .i64 (.ofNat 7)]),
    (4, .cells true 0 [.int .i64 (.ofNat 0), .slice (some ⟨5, 0, none⟩) 2 2, .int .i64 (.ofNat 3), .slice (some ⟨6, 0, none⟩) 1 1, .int .i64 (.ofNat 3), .slice (some ⟨7, 0, none⟩) 1 1]),
    (5, .cells true 0 [.int .i64 (.ofNat 6), .int .i64 (.ofNat 20), .int .i64 (.ofNat 1), .int .i64 (.ofNat 8), .int .i64 (.ofNat 18), .int .i64 (.ofNat 1)]),
    (6, .cells true 0 [.int .i64 (.ofNat 8), .int .i64 (.ofNat 18), .int .i64 (.ofNat 1)]),
    (7, .cells true 0 [.int .i64 (.ofNat 10), .int .i64 (.ofNat 18), .int .i64 (.ofNat 1)]),
    (8, .cells true 0 [.int .i64 (.ofNat 1), .int .i64 (.ofNat 2)]),
    (9, .cells true 0 [.int .i64 (.ofNat 1), .int .i64 (.ofNat 0), .int .i64 (.ofNat 1), .int .i64 (.ofNat 2), .int .i64 (.ofNat 0), .int .i64 (.ofNat 1)])],
   [],
   .tuple ⟨[.bool false, .int .i64 (.ofNat 0)]⟩⟩
theorem bx25_ok : bx25.okS EE.G = true := by kernel_rfl
theorem bx25_run : evT EE baT 1000000000 (.call bx25.f bx25.args) bx25.heap (keptK bx25) = some (.bool true) := by kernel_rfl
theorem bx25_h : bx25.holds EE := ent_run envOk baT_holds _ _ bx25_ok bx25_run
-- decani/bench.Seats, 248848 steps
noncomputable def bx31 : Ent :=
  ⟨13, [.agg ⟨[.slice (some ⟨3, 0, none⟩) 2 2, .int .i64 (.ofNat 4), .slice none 0 0, .slice (some ⟨4, 0, none⟩) 3 3, .int .i64 (.ofNat 1)]⟩], 8,
   [(0, .cells false 0 [.int .i64 (.negSucc 0), .int .i64 (.negSucc 0), .int .i64 (.negSucc 0), .int .i64 (.negSucc 0), .int .i64 (.negSucc 0)]),
    (1, .cells false 0 [.int .i64 (.ofNat 0), .int .i64 (.ofNat 0), .int .i64 (.ofNat 0), .int .i64 (.ofNat 0)]),
    (2, .cells false 0 [.int .i64 (.ofNat 40), .int .i64 (.ofNat 2), .int .i64 (.ofNat 40), .int .i64 (.ofNat 2), .int .i64 (.ofNat 2), .int .i64 (.ofNat 1), .int .i64 (.ofNat 6), .int .i64 (.ofNat 2), .int .i64 (.ofNat 9), .int .i64 (.ofNat 3)]),
    (3, .cells true 0 [.int .i64 (.ofNat 5), .int .i64 (.ofNat 6), .int .i64 (.ofNat 20), .int .i64 (.ofNat 21), .int .i64 (.ofNat 1), .int .i64 (.ofNat 2), .int .i64 (.ofNat 2), .int .i64 (.ofNat 3), .int .i64 (.ofNat 1), .int .i64 (.ofNat 3), .int .i64 (.ofNat 5), .int .i64 (.ofNat 8), .int .i64 (.ofNat 8), .int .i64 (.ofNat 18), .int .i64 (.ofNat 18), .int .i64 (.ofNat 0), .int .i64 (.ofNat 1), .int .i64 (.ofNat 1), .int .i64 (.ofNat 1), .int .i64 (.ofNat 0), .int .i64 (.ofNat 6), .int .i64 (.ofNat 7)]),
    (4, .cells true 0 [.int .i64 (.ofNat 0), .slice (some ⟨5, 0, none⟩) 2 2, .int .i64 (.ofNat 3), .slice (some ⟨6, 0, none⟩) 1 1, .int .i64 (.ofNat 3), .slice (some ⟨7, 0, none⟩) 1 1]),
    (5, .cells true 0 [.int .i64 (.ofNat 6), .int .i64 (.ofNat 20), .int .i64 (.ofNat 1), .int .i64 (.ofNat 8), .int .i64 (.ofNat 18), .int .i64 (.ofNat 1)]),
    (6, .cells true 0 [.int .i64 (.ofNat 8), .int .i64 (.ofNat 18), .int .i64 (.ofNat 1)]),
    (7, .cells true 0 [.int .i64 (.ofNat 10), .int .i64 (.ofNat 18), .int .i64 (.ofNat 1)])],
   [.cells true 4 [.int .i64 (.ofNat 0), .int .i64 (.ofNat 0), .int .i64 (.ofNat 0), .int .i64 (.ofNat 0), .int .i64 (.ofNat 1), .int .i64 (.ofNat 1), .int .i64 (.ofNat 2), .int .i64 (.ofNat 0), .int .i64 (.ofNat 1)]],
   .tuple ⟨[.slice (some ⟨8, 0, none⟩) 3 18446744073709551616, .int .i64 (.ofNat 0)]⟩⟩
theorem bx31_ok : bx31.okS EE.G = true := by kernel_rfl
theorem bx31_run : evT EE baT 1000000000 (.call bx31.f bx31.args) bx31.heap (keptK bx31) = some (.bool true) := by kernel_rfl
theorem bx31_h : bx31.holds EE := ent_run envOk baT_holds _ _ bx31_ok bx31_run
-- decani/bench.Lack, 2767 steps
noncomputable def bx38 : Ent :=
  ⟨8, [.agg ⟨[.slice (some ⟨3, 0, none⟩) 2 2, .int .i64 (.ofNat 4), .slice (some ⟨4, 0, none⟩) 2 2, .slice (some ⟨5, 0, none⟩) 3 3, .int .i64 (.ofNat 1)]⟩, .int .i64 (.negSucc 0)], 9,
   [(0, .cells false 0 [.int .i64 (.negSucc 0), .int .i64 (.negSucc 0), .int .i64 (.negSucc 0), .int .i64 (.negSucc 0), .int .i64 (.negSucc 0)]),
    (1, .cells false 0 [.int .i64 (.ofNat 0), .int .i64 (.ofNat 0), .int .i64 (.ofNat 0), .int .i64 (.ofNat 0)]),
    (2, .cells false 0 [.int .i64 (.ofNat 40), .int .i64 (.ofNat 2), .int .i64 (.ofNat 40), .int .i64 (.ofNat 2), .int .i64 (.ofNat 2), .int .i64 (.ofNat 1), .int .i64 (.ofNat 6), .int .i64 (.ofNat 2), .int .i64 (.ofNat 9), .int .i64 (.ofNat 3)]),
    (3, .cells true 0 [.int .i64 (.ofNat 5), .int .i64 (.ofNat 6), .int .i64 (.ofNat 20), .int .i64 (.ofNat 21), .int .i64 (.ofNat 1), .int .i64 (.ofNat 2), .int .i64 (.ofNat 2), .int .i64 (.ofNat 3), .int .i64 (.ofNat 1), .int .i64 (.ofNat 3), .int .i64 (.ofNat 5), .int .i64 (.ofNat 8), .int .i64 (.ofNat 8), .int .i64 (.ofNat 18), .int .i64 (.ofNat 18), .int .i64 (.ofNat 0), .int .i64 (.ofNat 1), .int .i64 (.ofNat 1), .int .i64 (.ofNat 1), .int .i64 (.ofNat 0), .int .i64 (.ofNat 6), .int .i64 (.ofNat 7)]),
    (4, .cells true 0 [.int .i64 (.ofNat 0), .int .i64 (.ofNat 3), .int .i64 (.ofNat 15), .int .i64 (.ofNat 0), .int .i64 (.ofNat 0), .int .i64 (.ofNat 3), .int .i64 (.ofNat 20), .int .i64 (.ofNat 1)]),
    (5, .cells true 0 [.int .i64 (.ofNat 0), .slice (some ⟨6, 0, none⟩) 2 2, .int .i64 (.ofNat 3), .slice (some ⟨7, 0, none⟩) 1 1, .int .i64 (.ofNat 3), .slice (some ⟨8, 0, none⟩) 1 1]),
    (6, .cells true 0 [.int .i64 (.ofNat 6), .int .i64 (.ofNat 20), .int .i64 (.ofNat 1), .int .i64 (.ofNat 8), .int .i64 (.ofNat 18), .int .i64 (.ofNat 1)]),
    (7, .cells true 0 [.int .i64 (.ofNat 8), .int .i64 (.ofNat 18), .int .i64 (.ofNat 1)]),
    (8, .cells true 0 [.int .i64 (.ofNat 10), .int .i64 (.ofNat 18), .int .i64 (.ofNat 1)])],
   [],
   .tuple ⟨[.int .i64 (.ofNat 0), .int .i64 (.ofNat 71)]⟩⟩
theorem bx38_ok : bx38.okS EE.G = true := by kernel_rfl
theorem bx38_run : evT EE baT 1000000000 (.call bx38.f bx38.args) bx38.heap (keptK bx38) = some (.bool true) := by kernel_rfl
theorem bx38_h : bx38.holds EE := ent_run envOk baT_holds _ _ bx38_ok bx38_run
-- decani/bench.Can, 1725 steps
noncomputable def bx46 : Ent :=
  ⟨7, [.agg ⟨[.slice (some ⟨3, 0, none⟩) 2 2, .int .i64 (.ofNat 4), .slice none 0 0, .slice (some ⟨4, 0, none⟩) 3 3, .int .i64 (.ofNat 1)]⟩, .int .i64 (.negSucc 0), .int .i64 (.ofNat 0)], 8,
   [(0, .cells false 0 [.int .i64 (.negSucc 0), .int .i64 (.negSucc 0), .int .i64 (.negSucc 0), .int .i64 (.negSucc 0), .int .i64 (.negSucc 0)]),
    (1, .cells false 0 [.int .i64 (.ofNat 0), .int .i64 (.ofNat 0), .int .i64 (.ofNat 0), .int .i64 (.ofNat 0)]),
    (2, .cells false 0 [.int .i64 (.ofNat 40), .int .i64 (.ofNat 2), .int .i64 (.ofNat 40), .int .i64 (.ofNat 2), .int .i64 (.ofNat 2), .int .i64 (.ofNat 1), .int .i64 (.ofNat 6), .int .i64 (.ofNat 2), .int .i64 (.ofNat 9), .int .i64 (.ofNat 3)]),
    (3, .cells true 0 [.int .i64 (.ofNat 5), .int .i64 (.ofNat 6), .int .i64 (.ofNat 20), .int .i64 (.ofNat 21), .int .i64 (.ofNat 1), .int .i64 (.ofNat 2), .int .i64 (.ofNat 2), .int .i64 (.ofNat 3), .int .i64 (.ofNat 1), .int .i64 (.ofNat 3), .int .i64 (.ofNat 5), .int .i64 (.ofNat 8), .int .i64 (.ofNat 8), .int .i64 (.ofNat 18), .int .i64 (.ofNat 18), .int .i64 (.ofNat 0), .int .i64 (.ofNat 1), .int .i64 (.ofNat 1), .int .i64 (.ofNat 1), .int .i64 (.ofNat 0), .int .i64 (.ofNat 6), .int .i64 (.ofNat 7)]),
    (4, .cells true 0 [.int .i64 (.ofNat 0), .slice (some ⟨5, 0, none⟩) 2 2, .int .i64 (.ofNat 3), .slice (some ⟨6, 0, none⟩) 1 1, .int .i64 (.ofNat 3), .slice (some ⟨7, 0, none⟩) 1 1]),
    (5, .cells true 0 [.int .i64 (.ofNat 6), .int .i64 (.ofNat 20), .int .i64 (.ofNat 4), .int .i64 (.ofNat 8), .int .i64 (.ofNat 18), .int .i64 (.ofNat 1)]),
    (6, .cells true 0 [.int .i64 (.ofNat 8), .int .i64 (.ofNat 18), .int .i64 (.ofNat 1)]),
    (7, .cells true 0 [.int .i64 (.ofNat 10), .int .i64 (.ofNat 18), .int .i64 (.ofNat 1)])],
   [],
   .tuple ⟨[.slice none 0 0, .int .i64 (.ofNat 70)]⟩⟩
theorem bx46_ok : bx46.okS EE.G = true := by kernel_rfl
theorem bx46_run : evT EE baT 1000000000 (.call bx46.f bx46.args) bx46.heap (keptK bx46) = some (.bool true) := by kernel_rfl
theorem bx46_h : bx46.holds EE := ent_run envOk baT_holds _ _ bx46_ok bx46_run
-- decani/bench.Lack, 1669 steps
noncomputable def bx51 : Ent :=
  ⟨8, [.agg ⟨[.slice (some ⟨3, 0, none⟩) 2 2, .int .i64 (.ofNat 4), .slice none 0 0, .slice (some ⟨4, 0, none⟩) 3 3, .int .i64 (.ofNat 1)]⟩, .int .i64 (.negSucc 0)], 8,
   [(0, .cells false 0 [.int .i64 (.negSucc 0), .int .i64 (.negSucc 0), .int .i64 (.negSucc 0), .int .i64 (.negSucc 0), .int .i64 (.negSucc 0)]),
    (1, .cells false 0 [.int .i64 (.ofNat 0), .int .i64 (.ofNat 0), .int .i64 (.ofNat 0), .int .i64 (.ofNat 0)]),
    (2, .cells false 0 [.int .i64 (.ofNat 40), .int .i64 (.ofNat 2), .int .i64 (.ofNat 40), .int .i64 (.ofNat 2), .int .i64 (.ofNat 2), .int .i64 (.ofNat 1), .int .i64 (.ofNat 6), .int .i64 (.ofNat 2), .int .i64 (.ofNat 9), .int .i64 (.ofNat 3)]),
    (3, .cells true 0 [.int .i64 (.ofNat 5), .int .i64 (.ofNat 6), .int .i64 (.ofNat 20), .int .i64 (.ofNat 21), .int .i64 (.ofNat 1), .int .i64 (.ofNat 2), .int .i64 (.ofNat 2), .int .i64 (.ofNat 3), .int .i64 (.ofNat 1), .int .i64 (.ofNat 3), .int .i64 (.ofNat 5), .int .i64 (.ofNat 8), .int .i64 (.ofNat 8), .int .i64 (.ofNat 18), .int .i64 (.ofNat 18), .int .i64 (.ofNat 0), .int .i64 (.ofNat 1), .int .i64 (.ofNat 1), .int .i64 (.ofNat 1), .int .i64 (.ofNat 0), .int .i64 (.ofNat 6), .int .i64 (.ofNat 7)]),
    (4, .cells true 0 [.int .i64 (.ofNat 0), .slice (some ⟨5, 0, none⟩) 2 2, .int .i64 (.ofNat 3), .slice (some ⟨6, 0, none⟩) 1 1, .int .i64 (.ofNat 3), .slice (some ⟨7, 0, none⟩) 1 1]),
    (5, .cells true 0 [.int .i64 (.ofNat 6), .int .i64 (.ofNat 41), .int .i64 (.ofNat 1), .int .i64 (.ofNat 8), .int .i64 (.ofNat 18), .int .i64 (.ofNat 1)]),
    (6, .cells true 0 [.int .i64 (.ofNat 8), .int .i64 (.ofNat 18), .int .i64 (.ofNat 1)]),
    (7, .cells true 0 [.int .i64 (.ofNat 10), .int .i64 (.ofNat 18), .int .i64 (.ofNat 1)])],
   [],
   .tuple ⟨[.int .i64 (.ofNat 0), .int .i64 (.ofNat 70)]⟩⟩
theorem bx51_ok : bx51.okS EE.G = true := by kernel_rfl
theorem bx51_run : evT EE baT 1000000000 (.call bx51.f bx51.args) bx51.heap (keptK bx51) = some (.bool true) := by kernel_rfl
theorem bx51_h : bx51.holds EE := ent_run envOk baT_holds _ _ bx51_ok bx51_run
-- decani/bench.Fill, 1631 steps
noncomputable def bx58 : Ent :=
  ⟨11, [.agg ⟨[.slice (some ⟨3, 0, none⟩) 2 2, .int .i64 (.ofNat 4), .slice none 0 0, .slice (some ⟨4, 0, none⟩) 3 3, .int .i64 (.ofNat 1)]⟩], 8,
   [(0, .cells false 0 [.int .i64 (.negSucc 0), .int .i64 (.negSucc 0), .int .i64 (.negSucc 0), .int .i64 (.negSucc 0), .int .i64 (.negSucc 0)]),
    (1, .cells false 0 [.int .i64 (.ofNat 0), .int .i64 (.ofNat 0), .int .i64 (.ofNat 0), .int .i64 (.ofNat 0)]),
    (2, .cells false 0 [.int .i64 (.ofNat 40), .int .i64 (.ofNat 2), .int .i64 (.ofNat 40), .int .i64 (.ofNat 2), .int .i64 (.ofNat 2), .int .i64 (.ofNat 1), .int .i64 (.ofNat 6), .int .i64 (.ofNat 2), .int .i64 (.ofNat 9), .int .i64 (.ofNat 3)]),
    (3, .cells true 0 [.int .i64 (.ofNat 5), .int .i64 (.ofNat 6), .int .i64 (.ofNat 20), .int .i64 (.ofNat 21), .int .i64 (.ofNat 1), .int .i64 (.ofNat 2), .int .i64 (.ofNat 2), .int .i64 (.ofNat 3), .int .i64 (.ofNat 1), .int .i64 (.ofNat 3), .int .i64 (.ofNat 5), .int .i64 (.ofNat 8), .int .i64 (.ofNat 8), .int .i64 (.ofNat 18), .int .i64 (.ofNat 18), .int .i64 (.ofNat 0), .int .i64 (.ofNat 1), .int .i64 (.ofNat 1), .int .i64 (.ofNat 1), .int .i64 (.ofNat 0), .int .i64 (.ofNat 6), .int .i64 (.ofNat 7)]),
    (4, .cells true 0 [.int .i64 (.ofNat 0), .slice (some ⟨5, 0, none⟩) 2 2, .int .i64 (.ofNat 3), .slice (some ⟨6, 0, none⟩) 1 1, .int .i64 (.ofNat 3), .slice (some ⟨7, 0, none⟩) 1 1]),
    (5, .cells true 0 [.int .i64 (.ofNat 7), .int .i64 (.ofNat 6), .int .i64 (.ofNat 1), .int .i64 (.ofNat 8), .int .i64 (.ofNat 18), .int .i64 (.ofNat 1)]),
    (6, .cells true 0 [.int .i64 (.ofNat 8), .int .i64 (.ofNat 18), .int .i64 (.ofNat 1)]),
    (7, .cells true 0 [.int .i64 (.ofNat 10), .int .i64 (.ofNat 18), .int .i64 (.ofNat 1)])],
   [],
   .tuple ⟨[.slice none 0 0, .int .i64 (.ofNat 70)]⟩⟩
theorem bx58_ok : bx58.okS EE.G = true := by kernel_rfl
theorem bx58_run : evT EE baT 1000000000 (.call bx58.f bx58.args) bx58.heap (keptK bx58) = some (.bool true) := by kernel_rfl
theorem bx58_h : bx58.holds EE := ent_run envOk baT_holds _ _ bx58_ok bx58_run
-- decani/bench.Change, 1631 steps
noncomputable def bx64 : Ent :=
  ⟨12, [.agg ⟨[.slice (some ⟨3, 0, none⟩) 2 2, .int .i64 (.ofNat 4), .slice none 0 0, .slice (some ⟨4, 0, none⟩) 3 3, .int .i64 (.ofNat 1)]⟩], 8,
   [(0, .cells false 0 [.int .i64 (.negSucc 0), .int .i64 (.negSucc 0), .int .i64 (.negSucc 0), .int .i64 (.negSucc 0), .int .i64 (.negSucc 0)]),
    (1, .cells false 0 [.int .i64 (.ofNat 0), .int .i64 (.ofNat 0), .int .i64 (.ofNat 0), .int .i64 (.ofNat 0)]),
    (2, .cells false 0 [.int .i64 (.ofNat 40), .int .i64 (.ofNat 2), .int .i64 (.ofNat 40), .int .i64 (.ofNat 2), .int .i64 (.ofNat 2), .int .i64 (.ofNat 1), .int .i64 (.ofNat 6), .int .i64 (.ofNat 2), .int .i64 (.ofNat 9), .int .i64 (.ofNat 3)]),
    (3, .cells true 0 [.int .i64 (.ofNat 5), .int .i64 (.ofNat 6), .int .i64 (.ofNat 20), .int .i64 (.ofNat 21), .int .i64 (.ofNat 1), .int .i64 (.ofNat 2), .int .i64 (.ofNat 2), .int .i64 (.ofNat 3), .int .i64 (.ofNat 1), .int .i64 (.ofNat 3), .int .i64 (.ofNat 5), .int .i64 (.ofNat 8), .int .i64 (.ofNat 8), .int .i64 (.ofNat 18), .int .i64 (.ofNat 18), .int .i64 (.ofNat 0), .int .i64 (.ofNat 1), .int .i64 (.ofNat 1), .int .i64 (.ofNat 1), .int .i64 (.ofNat 0), .int .i64 (.ofNat 6), .int .i64 (.ofNat 7)]),
    (4, .cells true 0 [.int .i64 (.ofNat 0), .slice (some ⟨5, 0, none⟩) 2 2, .int .i64 (.ofNat 3), .slice (some ⟨6, 0, none⟩) 1 1, .int .i64 (.ofNat 3), .slice (some ⟨7, 0, none⟩) 1 1]),
    (5, .cells true 0 [.int .i64 (.ofNat 6), .int .i64 (.ofNat 41), .int .i64 (.ofNat 1), .int .i64 (.ofNat 8), .int .i64 (.ofNat 18), .int .i64 (.ofNat 1)]),
    (6, .cells true 0 [.int .i64 (.ofNat 8), .int .i64 (.ofNat 18), .int .i64 (.ofNat 1)]),
    (7, .cells true 0 [.int .i64 (.ofNat 10), .int .i64 (.ofNat 18), .int .i64 (.ofNat 1)])],
   [],
   .tuple ⟨[.slice none 0 0, .int .i64 (.ofNat 70)]⟩⟩
theorem bx64_ok : bx64.okS EE.G = true := by kernel_rfl
theorem bx64_run : evT EE baT 1000000000 (.call bx64.f bx64.args) bx64.heap (keptK bx64) = some (.bool true) := by kernel_rfl
theorem bx64_h : bx64.holds EE := ent_run envOk baT_holds _ _ bx64_ok bx64_run
-- decani/bench.Can, 1572 steps
noncomputable def bx70 : Ent :=
  ⟨7, [.agg ⟨[.slice (some ⟨3, 0, none⟩) 2 2, .int .i64 (.ofNat 4), .slice none 0 0, .slice (some ⟨4, 0, none⟩) 3 3, .int .i64 (.ofNat 1)]⟩, .int .i64 (.negSucc 0), .int .i64 (.ofNat 0)], 7,
   [(0, .cells false 0 [.int .i64 (.negSucc 0), .int .i64 (.negSucc 0), .int .i64 (.negSucc 0), .int .i64 (.negSucc 0), .int .i64 (.negSucc 0)]),
    (1, .cells false 0 [.int .i64 (.ofNat 0), .int .i64 (.ofNat 0), .int .i64 (.ofNat 0), .int .i64 (.ofNat 0)]),
    (2, .cells false 0 [.int .i64 (.ofNat 40), .int .i64 (.ofNat 2), .int .i64 (.ofNat 40), .int .i64 (.ofNat 2), .int .i64 (.ofNat 2), .int .i64 (.ofNat 1), .int .i64 (.ofNat 6), .int .i64 (.ofNat 2), .int .i64 (.ofNat 9), .int .i64 (.ofNat 3)]),
    (3, .cells true 0 [.int .i64 (.ofNat 5), .int .i64 (.ofNat 6), .int .i64 (.ofNat 20), .int .i64 (.ofNat 21), .int .i64 (.ofNat 1), .int .i64 (.ofNat 2), .int .i64 (.ofNat 2), .int .i64 (.ofNat 3), .int .i64 (.ofNat 1), .int .i64 (.ofNat 3), .int .i64 (.ofNat 5), .int .i64 (.ofNat 8), .int .i64 (.ofNat 8), .int .i64 (.ofNat 18), .int .i64 (.ofNat 18), .int .i64 (.ofNat 0), .int .i64 (.ofNat 1), .int .i64 (.ofNat 1), .int .i64 (.ofNat 1), .int .i64 (.ofNat 0), .int .i64 (.ofNat 6), .int .i64 (.ofNat 7)]),
    (4, .cells true 0 [.int .i64 (.ofNat 0), .slice none 0 0, .int .i64 (.ofNat 3), .slice (some ⟨5, 0, none⟩) 1 1, .int .i64 (.ofNat 3), .slice (some ⟨6, 0, none⟩) 1 1]),
    (5, .cells true 0 [.int .i64 (.ofNat 8), .int .i64 (.ofNat 18), .int .i64 (.ofNat 1)]),
    (6, .cells true 0 [.int .i64 (.ofNat 10), .int .i64 (.ofNat 18), .int .i64 (.ofNat 1)])],
   [],
   .tuple ⟨[.slice none 0 0, .int .i64 (.ofNat 70)]⟩⟩
theorem bx70_ok : bx70.okS EE.G = true := by kernel_rfl
theorem bx70_run : evT EE baT 1000000000 (.call bx70.f bx70.args) bx70.heap (keptK bx70) = some (.bool true) := by kernel_rfl
theorem bx70_h : bx70.holds EE := ent_run envOk baT_holds _ _ bx70_ok bx70_run
-- decani/bench.Lack, 1516 steps
noncomputable def bx75 : Ent :=
  ⟨8, [.agg ⟨[.slice (some ⟨3, 0, none⟩) 2 2, .int .i64 (.ofNat 4), .slice none 0 0, .slice (some ⟨4, 0, none⟩) 3 3, .int .i64 (.ofNat 1)]⟩, .int .i64 (.negSucc 0)], 8,
   [(0, .cells false 0 [.int .i64 (.negSucc 0), .int .i64 (.negSucc 0), .int .i64 (.negSucc 0), .int .i64 (.negSucc 0), .int .i64 (.negSucc 0)]),
    (1, .cells false 0 [.int .i64 (.ofNat 0), .int .i64 (.ofNat 0), .int .i64 (.ofNat 0), .int .i64 (.ofNat 0)]),
    (2, .cells false 0 [.int .i64 (.ofNat 40), .int .i64 (.ofNat 2), .int .i64 (.ofNat 40), .int .i64 (.ofNat 2), .int .i64 (.ofNat 2), .int .i64 (.ofNat 1), .int .i64 (.ofNat 6), .int .i64 (.ofNat 2), .int .i64 (.ofNat 9), .int .i64 (.ofNat 3)]),
    (3, .cells true 0 [.int .i64 (.ofNat 5), .int .i64 (.ofNat 6), .int .i64 (.ofNat 20), .int .i64 (.ofNat 21), .int .i64 (.ofNat 1), .int .i64 (.ofNat 2), .int .i64 (.ofNat 2), .int .i64 (.ofNat 3), .int .i64 (.ofNat 1), .int .i64 (.ofNat 3), .int .i64 (.ofNat 5), .int .i64 (.ofNat 8), .int .i64 (.ofNat 8), .int .i64 (.ofNat 18), .int .i64 (.ofNat 18), .int .i64 (.ofNat 0), .int .i64 (.ofNat 1), .int .i64 (.ofNat 1), .int .i64 (.ofNat 1), .int .i64 (.ofNat 0), .int .i64 (.ofNat 6), .int .i64 (.ofNat 7)]),
    (4, .cells true 0 [.int .i64 (.ofNat 4), .slice (some ⟨5, 0, none⟩) 2 2, .int .i64 (.ofNat 3), .slice (some ⟨6, 0, none⟩) 1 1, .int .i64 (.ofNat 3), .slice (some ⟨7, 0, none⟩) 1 1]),
    (5, .cells true 0 [.int .i64 (.ofNat 6), .int .i64 (.ofNat 20), .int .i64 (.ofNat 1), .int .i64 (.ofNat 8), .int .i64 (.ofNat 18), .int .i64 (.ofNat 1)]),
    (6, .cells true 0 [.int .i64 (.ofNat 8), .int .i64 (.ofNat 18), .int .i64 (.ofNat 1)]),
    (7, .cells true 0 [.int .i64 (.ofNat 10), .int .i64 (.ofNat 18), .int .i64 (.ofNat 1)])],
   [],
   .tuple ⟨[.int .i64 (.ofNat 0), .int .i64 (.ofNat 70)]⟩⟩
theorem bx75_ok : bx75.okS EE.G = true := by kernel_rfl
theorem bx75_run : evT EE baT 1000000000 (.call bx75.f bx75.args) bx75.heap (keptK bx75) = some (.bool true) := by kernel_rfl
theorem bx75_h : bx75.holds EE := ent_run envOk baT_holds _ _ bx75_ok bx75_run
-- decani/bench.Ways, 1478 steps
noncomputable def bx81 : Ent :=
  ⟨10, [.agg ⟨[.slice (some ⟨3, 0, none⟩) 2 2, .int .i64 (.ofNat 4), .slice none 0 0, .slice (some ⟨4, 0, none⟩) 3 3, .int .i64 (.ofNat 1)]⟩], 8,
   [(0, .cells false 0 [.int .i64 (.negSucc 0), .int .i64 (.negSucc 0), .int .i64 (.negSucc 0), .int .i64 (.negSucc 0), .int .i64 (.negSucc 0)]),
    (1, .cells false 0 [.int .i64 (.ofNat 0), .int .i64 (.ofNat 0), .int .i64 (.ofNat 0), .int .i64 (.ofNat 0)]),
    (2, .cells false 0 [.int .i64 (.ofNat 40), .int .i64 (.ofNat 2), .int .i64 (.ofNat 40), .int .i64 (.ofNat 2), .int .i64 (.ofNat 2), .int .i64 (.ofNat 1), .int .i64 (.ofNat 6), .int .i64 (.ofNat 2), .int .i64 (.ofNat 9), .int .i64 (.ofNat 3)]),
    (3, .cells true 0 [.int .i64 (.ofNat 5), .int .i64 (.ofNat 6), .int .i64 (.ofNat 20), .int .i64 (.ofNat 21), .int .i64 (.ofNat 1), .int .i64 (.ofNat 2), .int .i64 (.ofNat 2), .int .i64 (.ofNat 3), .int .i64 (.ofNat 1), .int .i64 (.ofNat 3), .int .i64 (.ofNat 5), .int .i64 (.ofNat 8), .int .i64 (.ofNat 8), .int .i64 (.ofNat 18), .int .i64 (.ofNat 18), .int .i64 (.ofNat 0), .int .i64 (.ofNat 1), .int .i64 (.ofNat 1), .int .i64 (.ofNat 1), .int .i64 (.ofNat 0), .int .i64 (.ofNat 6), .int .i64 (.ofNat 7)]),
    (4, .cells true 0 [.int .i64 (.ofNat 4), .slice (some ⟨5, 0, none⟩) 2 2, .int .i64 (.ofNat 3), .slice (some ⟨6, 0, none⟩) 1 1, .int .i64 (.ofNat 3), .slice (some ⟨7, 0, none⟩) 1 1]),
    (5, .cells true 0 [.int .i64 (.ofNat 6), .int .i64 (.ofNat 20), .int .i64 (.ofNat 1), .int .i64 (.ofNat 8), .int .i64 (.ofNat 18), .int .i64 (.ofNat 1)]),
    (6, .cells true 0 [.int .i64 (.ofNat 8), .int .i64 (.ofNat 18), .int .i64 (.ofNat 1)]),
    (7, .cells true 0 [.int .i64 (.ofNat 10), .int .i64 (.ofNat 18), .int .i64 (.ofNat 1)])],
   [],
   .tuple ⟨[.int .i64 (.ofNat 0), .int .i64 (.ofNat 70)]⟩⟩
theorem bx81_ok : bx81.okS EE.G = true := by kernel_rfl
theorem bx81_run : evT EE baT 1000000000 (.call bx81.f bx81.args) bx81.heap (keptK bx81) = some (.bool true) := by kernel_rfl
theorem bx81_h : bx81.holds EE := ent_run envOk baT_holds _ _ bx81_ok bx81_run
-- decani/bench.Check, 1436 steps
noncomputable def bx86 : Ent :=
  ⟨15, [.agg ⟨[.slice (some ⟨3, 0, none⟩) 2 2, .int .i64 (.ofNat 4), .slice none 0 0, .slice (some ⟨4, 0, none⟩) 3 3, .int .i64 (.ofNat 1)]⟩], 7,
   [(0, .cells false 0 [.int .i64 (.negSucc 0), .int .i64 (.negSucc 0), .int .i64 (.negSucc 0), .int .i64 (.negSucc 0), .int .i64 (.negSucc 0)]),
    (1, .cells false 0 [.int .i64 (.ofNat 0), .int .i64 (.ofNat 0), .int .i64 (.ofNat 0), .int .i64 (.ofNat 0)]),
    (2, .cells false 0 [.int .i64 (.ofNat 40), .int .i64 (.ofNat 2), .int .i64 (.ofNat 40), .int .i64 (.ofNat 2), .int .i64 (.ofNat 2), .int .i64 (.ofNat 1), .int .i64 (.ofNat 6), .int .i64 (.ofNat 2), .int .i64 (.ofNat 9), .int .i64 (.ofNat 3)]),
    (3, .cells true 0 [.int .i64 (.ofNat 5), .int .i64 (.ofNat 6), .int .i64 (.ofNat 20), .int .i64 (.ofNat 21), .int .i64 (.ofNat 1), .int .i64 (.ofNat 2), .int .i64 (.ofNat 2), .int .i64 (.ofNat 3), .int .i64 (.ofNat 1), .int .i64 (.ofNat 3), .int .i64 (.ofNat 5), .int .i64 (.ofNat 8), .int .i64 (.ofNat 8), .int .i64 (.ofNat 18), .int .i64 (.ofNat 18), .int .i64 (.ofNat 0), .int .i64 (.ofNat 1), .int .i64 (.ofNat 1), .int .i64 (.ofNat 1), .int .i64 (.ofNat 0), .int .i64 (.ofNat 6), .int .i64 (.ofNat 7)]),
    (4, .cells true 0 [.int .i64 (.ofNat 0), .slice none 0 0, .int .i64 (.ofNat 3), .slice (some ⟨5, 0, none⟩) 1 1, .int .i64 (.ofNat 3), .slice (some ⟨6, 0, none⟩) 1 1]),
    (5, .cells true 0 [.int .i64 (.ofNat 8), .int .i64 (.ofNat 18), .int .i64 (.ofNat 1)]),
    (6, .cells true 0 [.int .i64 (.ofNat 10), .int .i64 (.ofNat 18), .int .i64 (.ofNat 1)])],
   [],
   .int .i64 (.ofNat 70)⟩
theorem bx86_ok : bx86.okS EE.G = true := by kernel_rfl
theorem bx86_run : evT EE baT 1000000000 (.call bx86.f bx86.args) bx86.heap (keptK bx86) = some (.bool true) := by kernel_rfl
theorem bx86_h : bx86.holds EE := ent_run envOk baT_holds _ _ bx86_ok bx86_run
-- decani/bench.Can, 1404 steps
noncomputable def bx92 : Ent :=
  ⟨7, [.agg ⟨[.slice (some ⟨3, 0, none⟩) 2 2, .int .i64 (.ofNat 4), .slice none 0 0, .slice (some ⟨4, 0, none⟩) 3 3, .int .i64 (.ofNat 0)]⟩, .int .i64 (.negSucc 0), .int .i64 (.ofNat 0)], 8,
   [(0, .cells false 0 [.int .i64 (.negSucc 0), .int .i64 (.negSucc 0), .int .i64 (.negSucc 0), .int .i64 (.negSucc 0), .int .i64 (.negSucc 0)]),
    (1, .cells false 0 [.int .i64 (.ofNat 0), .int .i64 (.ofNat 0), .int .i64 (.ofNat 0), .int .i64 (.ofNat 0)]),
    (2, .cells false 0 [.int .i64 (.ofNat 40), .int .i64 (.ofNat 2), .int .i64 (.ofNat 40), .int .i64 (.ofNat 2), .int .i64 (.ofNat 2), .int .i64 (.ofNat 1), .int .i64 (.ofNat 6), .int .i64 (.ofNat 2), .int .i64 (.ofNat 9), .int .i64 (.ofNat 3)]),
    (3, .cells true 0 [.int .i64 (.ofNat 5), .int .i64 (.ofNat 6), .int .i64 (.ofNat 20), .int .i64 (.ofNat 21), .int .i64 (.ofNat 1), .int .i64 (.ofNat 2), .int .i64 (.ofNat 2), .int .i64 (.ofNat 3), .int .i64 (.ofNat 1), .int .i64 (.ofNat 3), .int .i64 (.ofNat 5), .int .i64 (.ofNat 8), .int .i64 (.ofNat 8), .int .i64 (.ofNat 18), .int .i64 (.ofNat 18), .int .i64 (.ofNat 0), .int .i64 (.ofNat 1), .int .i64 (.ofNat 1), .int .i64 (.ofNat 1), .int .i64 (.ofNat 0), .int .i64 (.ofNat 6), .int .i64 (.ofNat 7)]),
    (4, .cells true 0 [.int .i64 (.ofNat 0), .slice (some ⟨5, 0, none⟩) 2 2, .int .i64 (.ofNat 3), .slice (some ⟨6, 0, none⟩) 1 1, .int .i64 (.ofNat 3), .slice (some ⟨7, 0, none⟩) 1 1]),
    (5, .cells true 0 [.int .i64 (.ofNat 6), .int .i64 (.ofNat 20), .int .i64 (.ofNat 1), .int .i64 (.ofNat 8), .int .i64 (.ofNat 18), .int .i64 (.ofNat 1)]),
    (6, .cells true 0 [.int .i64 (.ofNat 8), .int .i64 (.ofNat 18), .int .i64 (.ofNat 1)]),
    (7, .cells true 0 [.int .i64 (.ofNat 10), .int .i64 (.ofNat 18), .int .i64 (.ofNat 1)])],
   [],
   .tuple ⟨[.slice none 0 0, .int .i64 (.ofNat 70)]⟩⟩
theorem bx92_ok : bx92.okS EE.G = true := by kernel_rfl
theorem bx92_run : evT EE baT 1000000000 (.call bx92.f bx92.args) bx92.heap (keptK bx92) = some (.bool true) := by kernel_rfl
theorem bx92_h : bx92.holds EE := ent_run envOk baT_holds _ _ bx92_ok bx92_run
-- decani/bench.Lack, 1348 steps
noncomputable def bx98 : Ent :=
  ⟨8, [.agg ⟨[.slice (some ⟨3, 0, none⟩) 2 2, .int .i64 (.ofNat 4), .slice none 0 0, .slice none 0 0, .int .i64 (.ofNat 1)]⟩, .int .i64 (.negSucc 0)], 4,
   [(0, .cells false 0 [.int .i64 (.negSucc 0), .int .i64 (.negSucc 0), .int .i64 (.negSucc 0), .int .i64 (.negSucc 0), .int .i64 (.negSucc 0)]),
    (1, .cells false 0 [.int .i64 (.ofNat 0), .int .i64 (.ofNat 0), .int .i64 (.ofNat 0), .int .i64 (.ofNat 0)]),
    (2, .cells false 0 [.int .i64 (.ofNat 40), .int .i64 (.ofNat 2), .int .i64 (.ofNat 40), .int .i64 (.ofNat 2), .int .i64 (.ofNat 2), .int .i64 (.ofNat 1), .int .i64 (.ofNat 6), .int .i64 (.ofNat 2), .int .i64 (.ofNat 9), .int .i64 (.ofNat 3)]),
    (3, .cells true 0 [.int .i64 (.ofNat 5), .int .i64 (.ofNat 6), .int .i64 (.ofNat 20), .int .i64 (.ofNat 21), .int .i64 (.ofNat 1), .int .i64 (.ofNat 2), .int .i64 (.ofNat 2), .int .i64 (.ofNat 3), .int .i64 (.ofNat 1), .int .i64 (.ofNat 3), .int .i64 (.ofNat 5), .int .i64 (.ofNat 8), .int .i64 (.ofNat 8), .int .i64 (.ofNat 18), .int .i64 (.ofNat 18), .int .i64 (.ofNat 0), .int .i64 (.ofNat 1), .int .i64 (.ofNat 1), .int .i64 (.ofNat 1), .int .i64 (.ofNat 0), .int .i64 (.ofNat 6), .int .i64 (.ofNat 7)])],
   [],
   .tuple ⟨[.int .i64 (.ofNat 0), .int .i64 (.ofNat 70)]⟩⟩
theorem bx98_ok : bx98.okS EE.G = true := by kernel_rfl
theorem bx98_run : evT EE baT 1000000000 (.call bx98.f bx98.args) bx98.heap (keptK bx98) = some (.bool true) := by kernel_rfl
theorem bx98_h : bx98.holds EE := ent_run envOk baT_holds _ _ bx98_ok bx98_run
-- decani/bench.Seats, 1328 steps
noncomputable def bx103 : Ent :=
  ⟨13, [.agg ⟨[.slice (some ⟨3, 0, none⟩) 2 2, .int .i64 (.ofNat 4), .slice none 0 0, .slice (some ⟨4, 0, none⟩) 3 3, .int .i64 (.ofNat 0)]⟩], 8,
   [(0, .cells false 0 [.int .i64 (.negSucc 0), .int .i64 (.negSucc 0), .int .i64 (.negSucc 0), .int .i64 (.negSucc 0), .int .i64 (.negSucc 0)]),
    (1, .cells false 0 [.int .i64 (.ofNat 0), .int .i64 (.ofNat 0), .int .i64 (.ofNat 0), .int .i64 (.ofNat 0)]),
    (2, .cells false 0 [.int .i64 (.ofNat 40), .int .i64 (.ofNat 2), .int .i64 (.ofNat 40), .int .i64 (.ofNat 2), .int .i64 (.ofNat 2), .int .i64 (.ofNat 1), .int .i64 (.ofNat 6), .int .i64 (.ofNat 2), .int .i64 (.ofNat 9), .int .i64 (.ofNat 3)]),
    (3, .cells true 0 [.int .i64 (.ofNat 5), .int .i64 (.ofNat 6), .int .i64 (.ofNat 20), .int .i64 (.ofNat 21), .int .i64 (.ofNat 1), .int .i64 (.ofNat 2), .int .i64 (.ofNat 2), .int .i64 (.ofNat 3), .int .i64 (.ofNat 1), .int .i64 (.ofNat 3), .int .i64 (.ofNat 5), .int .i64 (.ofNat 8), .int .i64 (.ofNat 8), .int .i64 (.ofNat 18), .int .i64 (.ofNat 18), .int .i64 (.ofNat 0), .int .i64 (.ofNat 1), .int .i64 (.ofNat 1), .int .i64 (.ofNat 1), .int .i64 (.ofNat 0), .int .i64 (.ofNat 6), .int .i64 (.ofNat 7)]),
    (4, .cells true 0 [.int .i64 (.ofNat 0), .slice (some ⟨5, 0, none⟩) 2 2, .int .i64 (.ofNat 3), .slice (some ⟨6, 0, none⟩) 1 1, .int .i64 (.ofNat 3), .slice (some ⟨7, 0, none⟩) 1 1]),
    (5, .cells true 0 [.int .i64 (.ofNat 6), .int .i64 (.ofNat 20), .int .i64 (.ofNat 1), .int .i64 (.ofNat 8), .int .i64 (.ofNat 18), .int .i64 (.ofNat 1)]),
    (6, .cells true 0 [.int .i64 (.ofNat 8), .int .i64 (.ofNat 18), .int .i64 (.ofNat 1)]),
    (7, .cells true 0 [.int .i64 (.ofNat 10), .int .i64 (.ofNat 18), .int .i64 (.ofNat 1)])],
   [],
   .tuple ⟨[.slice none 0 0, .int .i64 (.ofNat 70)]⟩⟩
theorem bx103_ok : bx103.okS EE.G = true := by kernel_rfl
theorem bx103_run : evT EE baT 1000000000 (.call bx103.f bx103.args) bx103.heap (keptK bx103) = some (.bool true) := by kernel_rfl
theorem bx103_h : bx103.holds EE := ent_run envOk baT_holds _ _ bx103_ok bx103_run
-- decani/bench.Need, 1328 steps
noncomputable def bx109 : Ent :=
  ⟨14, [.agg ⟨[.slice (some ⟨3, 0, none⟩) 2 2, .int .i64 (.ofNat 4), .slice none 0 0, .slice (some ⟨4, 0, none⟩) 3 3, .int .i64 (.ofNat 4)]⟩], 8,
   [(0, .cells false 0 [.int .i64 (.negSucc 0), .int .i64 (.negSucc 0), .int .i64 (.negSucc 0), .int .i64 (.negSucc 0), .int .i64 (.negSucc 0)]),
    (1, .cells false 0 [.int .i64 (.ofNat 0), .int .i64 (.ofNat 0), .int .i64 (.ofNat 0), .int .i64 (.ofNat 0)]),
    (2, .cells false 0 [.int .i64 (.ofNat 40), .int .i64 (.ofNat 2), .int .i64 (.ofNat 40), .int .i64 (.ofNat 2), .int .i64 (.ofNat 2), .int .i64 (.ofNat 1), .int .i64 (.ofNat 6), .int .i64 (.ofNat 2), .int .i64 (.ofNat 9), .int .i64 (.ofNat 3)]),
    (3, .cells true 0 [.int .i64 (.ofNat 5), .int .i64 (.ofNat 6), .int .i64 (.ofNat 20), .int .i64 (.ofNat 21), .int .i64 (.ofNat 1), .int .i64 (.ofNat 2), .int .i64 (.ofNat 2), .int .i64 (.ofNat 3), .int .i64 (.ofNat 1), .int .i64 (.ofNat 3), .int .i64 (.ofNat 5), .int .i64 (.ofNat 8), .int .i64 (.ofNat 8), .int .i64 (.ofNat 18), .int .i64 (.ofNat 18), .int .i64 (.ofNat 0), .int .i64 (.ofNat 1), .int .i64 (.ofNat 1), .int .i64 (.ofNat 1), .int .i64 (.ofNat 0), .int .i64 (.ofNat 6), .int .i64 (.ofNat 7)]),
    (4, .cells true 0 [.int .i64 (.ofNat 0), .slice (some ⟨5, 0, none⟩) 2 2, .int .i64 (.ofNat 3), .slice (some ⟨6, 0, none⟩) 1 1, .int .i64 (.ofNat 3), .slice (some ⟨7, 0, none⟩) 1 1]),
    (5, .cells true 0 [.int .i64 (.ofNat 6), .int .i64 (.ofNat 20), .int .i64 (.ofNat 1), .int .i64 (.ofNat 8), .int .i64 (.ofNat 18), .int .i64 (.ofNat 1)]),
    (6, .cells true 0 [.int .i64 (.ofNat 8), .int .i64 (.ofNat 18), .int .i64 (.ofNat 1)]),
    (7, .cells true 0 [.int .i64 (.ofNat 10), .int .i64 (.ofNat 18), .int .i64 (.ofNat 1)])],
   [],
   .tuple ⟨[.slice none 0 0, .int .i64 (.ofNat 70)]⟩⟩
theorem bx109_ok : bx109.okS EE.G = true := by kernel_rfl
theorem bx109_run : evT EE baT 1000000000 (.call bx109.f bx109.args) bx109.heap (keptK bx109) = some (.bool true) := by kernel_rfl
theorem bx109_h : bx109.holds EE := ent_run envOk baT_holds _ _ bx109_ok bx109_run
-- decani/bench.Seats, 1310 steps
noncomputable def bx118 : Ent :=
  ⟨13, [.agg ⟨[.slice (some ⟨3, 0, none⟩) 2 2, .int .i64 (.ofNat 4), .slice none 0 0, .slice (some ⟨4, 0, none⟩) 6 18446744073709551616, .int .i64 (.ofNat 1)]⟩], 11,
   [(0, .cells false 0 [.int .i64 (.negSucc 0), .int .i64 (.negSucc 0), .int .i64 (.negSucc 0), .int .i64 (.negSucc 0), .int .i64 (.negSucc 0)]),
    (1, .cells false 0 [.int .i64 (.ofNat 0), .int .i64 (.ofNat 0), .int .i64 (.ofNat 0), .int .i64 (.ofNat 0)]),
    (2, .cells false 0 [.int .i64 (.ofNat 40), .int .i64 (.ofNat 2), .int .i64 (.ofNat 40), .int .i64 (.ofNat 2), .int .i64 (.ofNat 2), .int .i64 (.ofNat 1), .int .i64 (.ofNat 6), .int .i64 (.ofNat 2), .int .i64 (.ofNat 9), .int .i64 (.ofNat 3)]),
    (3, .cells true 0 [.int .i64 (.ofNat 5), .int .i64 (.ofNat 6), .int .i64 (.ofNat 20), .int .i64 (.ofNat 21), .int .i64 (.ofNat 1), .int .i64 (.ofNat 2), .int .i64 (.ofNat 2), .int .i64 (.ofNat 3), .int .i64 (.ofNat 1), .int .i64 (.ofNat 3), .int .i64 (.ofNat 5), .int .i64 (.ofNat 8), .int .i64 (.ofNat 8), .int .i64 (.ofNat 18), .int .i64 (.ofNat 18), .int .i64 (.ofNat 0), .int .i64 (.ofNat 1), .int .i64 (.ofNat 1), .int .i64 (.ofNat 1), .int .i64 (.ofNat 0), .int .i64 (.ofNat 6), .int .i64 (.ofNat 7)]),
    (4, .cells true 3 [.int .i64 (.ofNat 0), .slice (some ⟨5, 0, none⟩) 2 2, .int .i64 (.ofNat 3), .slice (some ⟨6, 0, none⟩) 1 1, .int .i64 (.ofNat 3), .slice (some ⟨7, 0, none⟩) 1 1, .int .i64 (.ofNat 0), .slice (some ⟨8, 0, none⟩) 2 2, .int .i64 (.ofNat 3), .slice (some ⟨9, 0, none⟩) 1 1, .int .i64 (.ofNat 3), .slice (some ⟨10, 0, none⟩) 1 1]),
    (5, .cells true 0 [.int .i64 (.ofNat 6), .int .i64 (.ofNat 20), .int .i64 (.ofNat 1), .int .i64 (.ofNat 8), .int .i64 (.ofNat 18), .int .i64 (.ofNat 1)]),
    (6, .cells true 0 [.int .i64 (.ofNat 8), .int .i64 (.ofNat 18), .int .i64 (.ofNat 1)]),
    (7, .cells true 0 [.int .i64 (.ofNat 10), .int .i64 (.ofNat 18), .int .i64 (.ofNat 1)]),
    (8, .cells true 0 [.int .i64 (.ofNat 6), .int .i64 (.ofNat 20), .int .i64 (.ofNat 1), .int .i64 (.ofNat 8), .int .i64 (.ofNat 18), .int .i64 (.ofNat 1)]),
    (9, .cells true 0 [.int .i64 (.ofNat 8), .int .i64 (.ofNat 18), .int .i64 (.ofNat 1)]),
    (10, .cells true 0 [.int .i64 (.ofNat 10), .int .i64 (.ofNat 18), .int .i64 (.ofNat 1)])],
   [],
   .tuple ⟨[.slice none 0 0, .int .i64 (.ofNat 70)]⟩⟩
theorem bx118_ok : bx118.okS EE.G = true := by kernel_rfl
theorem bx118_run : evT EE baT 1000000000 (.call bx118.f bx118.args) bx118.heap (keptK bx118) = some (.bool true) := by kernel_rfl
theorem bx118_h : bx118.holds EE := ent_run envOk baT_holds _ _ bx118_ok bx118_run
-- decani/bench.May, 294 steps
noncomputable def bx124 : Ent :=
  ⟨9, [.agg ⟨[.slice (some ⟨3, 0, none⟩) 2 2, .int .i64 (.ofNat 7), .slice none 0 0, .slice (some ⟨4, 0, none⟩) 3 3, .int .i64 (.ofNat 1)]⟩, .slice (some ⟨8, 0, none⟩) 1 1, .slice none 0 0], 9,
   [(0, .cells false 0 [.int .i64 (.negSucc 0), .int .i64 (.negSucc 0), .int .i64 (.negSucc 0), .int .i64 (.negSucc 0), .int .i64 (.negSucc 0)]),
    (1, .cells false 0 [.int .i64 (.ofNat 0), .int .i64 (.ofNat 0), .int .i64 (.ofNat 0), .int .i64 (.ofNat 0)]),
    (2, .cells false 0 [.int .i64 (.ofNat 40), .int .i64 (.ofNat 2), .int .i64 (.ofNat 40), .int .i64 (.ofNat 2), .int .i64 (.ofNat 2), .int .i64 (.ofNat 1), .int .i64 (.ofNat 6), .int .i64 (.ofNat 2), .int .i64 (.ofNat 9), .int .i64 (.ofNat 3)]),
    (3, .cells true 0 [.int .i64 (.ofNat 5), .int .i64 (.ofNat 6), .int .i64 (.ofNat 20), .int .i64 (.ofNat 21), .int .i64 (.ofNat 1), .int .i64 (.ofNat 2), .int .i64 (.ofNat 2), .int .i64 (.ofNat 3), .int .i64 (.ofNat 1), .int .i64 (.ofNat 3), .int .i64 (.ofNat 5), .int .i64 (.ofNat 8), .int .i64 (.ofNat 8), .int .i64 (.ofNat 18), .int .i64 (.ofNat 18), .int .i64 (.ofNat 0), .int .i64 (.ofNat 1), .int .i64 (.ofNat 1), .int .i64 (.ofNat 1), .int .i64 (.ofNat 0), .int .i64 (.ofNat 6), .int .i64 (.ofNat 7)]),
    (4, .cells true 0 [.int .i64 (.ofNat 0), .slice (some ⟨5, 0, none⟩) 2 2, .int .i64 (.ofNat 3), .slice (some ⟨6, 0, none⟩) 1 1, .int .i64 (.ofNat 3), .slice (some ⟨7, 0, none⟩) 1 1]),
    (5, .cells true 0 [.int .i64 (.ofNat 6), .int .i64 (.ofNat 20), .int .i64 (.ofNat 1), .int .i64 (.ofNat 8), .int .i64 (.ofNat 18), .int .i64 (.ofNat 1)]),
    (6, .cells true 0 [.int .i64 (.ofNat 8), .int .i64 (.ofNat 18), .int .i64 (.ofNat 1)]),
    (7, .cells true 0 [.int .i64 (.ofNat 10), .int .i64 (.ofNat 18), .int .i64 (.ofNat 1)]),
    (8, .cells true 0 [.int .i64 (.ofNat 9)])],
   [],
   .tuple ⟨[.bool false, .int .i64 (.ofNat 70)]⟩⟩
theorem bx124_ok : bx124.okS EE.G = true := by kernel_rfl
theorem bx124_run : evT EE baT 1000000000 (.call bx124.f bx124.args) bx124.heap (keptK bx124) = some (.bool true) := by kernel_rfl
theorem bx124_h : bx124.holds EE := ent_run envOk baT_holds _ _ bx124_ok bx124_run
-- decani/bench.Can, 256 steps
noncomputable def bx127 : Ent :=
  ⟨7, [.agg ⟨[.slice none 0 0, .int .i64 (.ofNat 0), .slice none 0 0, .slice none 0 0, .int .i64 (.ofNat 0)]⟩, .int .i64 (.negSucc 0), .int .i64 (.ofNat 0)], 3,
   [(0, .cells false 0 [.int .i64 (.negSucc 0), .int .i64 (.negSucc 0), .int .i64 (.negSucc 0), .int .i64 (.negSucc 0), .int .i64 (.negSucc 0)]),
    (1, .cells false 0 [.int .i64 (.ofNat 0), .int .i64 (.ofNat 0), .int .i64 (.ofNat 0), .int .i64 (.ofNat 0)]),
    (2, .cells false 0 [.int .i64 (.ofNat 40), .int .i64 (.ofNat 2), .int .i64 (.ofNat 40), .int .i64 (.ofNat 2), .int .i64 (.ofNat 2), .int .i64 (.ofNat 1), .int .i64 (.ofNat 6), .int .i64 (.ofNat 2), .int .i64 (.ofNat 9), .int .i64 (.ofNat 3)])],
   [],
   .tuple ⟨[.slice none 0 0, .int .i64 (.ofNat 70)]⟩⟩
theorem bx127_ok : bx127.okS EE.G = true := by kernel_rfl
theorem bx127_run : evT EE baT 1000000000 (.call bx127.f bx127.args) bx127.heap (keptK bx127) = some (.bool true) := by kernel_rfl
theorem bx127_h : bx127.holds EE := ent_run envOk baT_holds _ _ bx127_ok bx127_run
-- decani/bench.Lack, 236 steps
noncomputable def bx128 : Ent :=
  ⟨8, [.agg ⟨[.slice (some ⟨3, 0, none⟩) 2 2, .int .i64 (.ofNat 7), .slice none 0 0, .slice (some ⟨4, 0, none⟩) 3 3, .int .i64 (.ofNat 1)]⟩, .int .i64 (.negSucc 0)], 8,
   [(0, .cells false 0 [.int .i64 (.negSucc 0), .int .i64 (.negSucc 0), .int .i64 (.negSucc 0), .int .i64 (.negSucc 0), .int .i64 (.negSucc 0)]),
    (1, .cells false 0 [.int .i64 (.ofNat 0), .int .i64 (.ofNat 0), .int .i64 (.ofNat 0), .int .i64 (.ofNat 0)]),
    (2, .cells false 0 [.int .i64 (.ofNat 40), .int .i64 (.ofNat 2), .int .i64 (.ofNat 40), .int .i64 (.ofNat 2), .int .i64 (.ofNat 2), .int .i64 (.ofNat 1), .int .i64 (.ofNat 6), .int .i64 (.ofNat 2), .int .i64 (.ofNat 9), .int .i64 (.ofNat 3)]),
    (3, .cells true 0 [.int .i64 (.ofNat 5), .int .i64 (.ofNat 6), .int .i64 (.ofNat 20), .int .i64 (.ofNat 21), .int .i64 (.ofNat 1), .int .i64 (.ofNat 2), .int .i64 (.ofNat 2), .int .i64 (.ofNat 3), .int .i64 (.ofNat 1), .int .i64 (.ofNat 3), .int .i64 (.ofNat 5), .int .i64 (.ofNat 8), .int .i64 (.ofNat 8), .int .i64 (.ofNat 18), .int .i64 (.ofNat 18), .int .i64 (.ofNat 0), .int .i64 (.ofNat 1), .int .i64 (.ofNat 1), .int .i64 (.ofNat 1), .int .i64 (.ofNat 0), .int .i64 (.ofNat 6), .int .i64 (.ofNat 7)]),
    (4, .cells true 0 [.int .i64 (.ofNat 0), .slice (some ⟨5, 0, none⟩) 2 2, .int .i64 (.ofNat 3), .slice (some ⟨6, 0, none⟩) 1 1, .int .i64 (.ofNat 3), .slice (some ⟨7, 0, none⟩) 1 1]),
    (5, .cells true 0 [.int .i64 (.ofNat 6), .int .i64 (.ofNat 20), .int .i64 (.ofNat 1), .int .i64 (.ofNat 8), .int .i64 (.ofNat 18), .int .i64 (.ofNat 1)]),
    (6, .cells true 0 [.int .i64 (.ofNat 8), .int .i64 (.ofNat 18), .int .i64 (.ofNat 1)]),
    (7, .cells true 0 [.int .i64 (.ofNat 10), .int .i64 (.ofNat 18), .int .i64 (.ofNat 1)])],
   [],
   .tuple ⟨[.int .i64 (.ofNat 0), .int .i64 (.ofNat 70)]⟩⟩
theorem bx128_ok : bx128.okS EE.G = true := by kernel_rfl
theorem bx128_run : evT EE baT 1000000000 (.call bx128.f bx128.args) bx128.heap (keptK bx128) = some (.bool true) := by kernel_rfl
theorem bx128_h : bx128.holds EE := ent_run envOk baT_holds _ _ bx128_ok bx128_run
-- decani/bench.Ways, 180 steps
noncomputable def bx135 : Ent :=
  ⟨10, [.agg ⟨[.slice none 0 0, .int .i64 (.ofNat 0), .slice none 0 0, .slice none 0 0, .int .i64 (.ofNat 0)]⟩], 3,
   [(0, .cells false 0 [.int .i64 (.negSucc 0), .int .i64 (.negSucc 0), .int .i64 (.negSucc 0), .int .i64 (.negSucc 0), .int .i64 (.negSucc 0)]),
    (1, .cells false 0 [.int .i64 (.ofNat 0), .int .i64 (.ofNat 0), .int .i64 (.ofNat 0), .int .i64 (.ofNat 0)]),
    (2, .cells false 0 [.int .i64 (.ofNat 40), .int .i64 (.ofNat 2), .int .i64 (.ofNat 40), .int .i64 (.ofNat 2), .int .i64 (.ofNat 2), .int .i64 (.ofNat 1), .int .i64 (.ofNat 6), .int .i64 (.ofNat 2), .int .i64 (.ofNat 9), .int .i64 (.ofNat 3)])],
   [],
   .tuple ⟨[.int .i64 (.ofNat 0), .int .i64 (.ofNat 70)]⟩⟩
theorem bx135_ok : bx135.okS EE.G = true := by kernel_rfl
theorem bx135_run : evT EE baT 1000000000 (.call bx135.f bx135.args) bx135.heap (keptK bx135) = some (.bool true) := by kernel_rfl
theorem bx135_h : bx135.holds EE := ent_run envOk baT_holds _ _ bx135_ok bx135_run
-- decani/bench.Check, 138 steps
noncomputable def bx140 : Ent :=
  ⟨15, [.agg ⟨[.slice (some ⟨3, 0, none⟩) 2 2, .int .i64 (.ofNat 7), .slice none 0 0, .slice (some ⟨4, 0, none⟩) 3 3, .int .i64 (.ofNat 1)]⟩], 8,
   [(0, .cells false 0 [.int .i64 (.negSucc 0), .int .i64 (.negSucc 0), .int .i64 (.negSucc 0), .int .i64 (.negSucc 0), .int .i64 (.negSucc 0)]),
    (1, .cells false 0 [.int .i64 (.ofNat 0), .int .i64 (.ofNat 0), .int .i64 (.ofNat 0), .int .i64 (.ofNat 0)]),
    (2, .cells false 0 [.int .i64 (.ofNat 40), .int .i64 (.ofNat 2), .int .i64 (.ofNat 40), .int .i64 (.ofNat 2), .int .i64 (.ofNat 2), .int .i64 (.ofNat 1), .int .i64 (.ofNat 6), .int .i64 (.ofNat 2), .int .i64 (.ofNat 9), .int .i64 (.ofNat 3)]),
    (3, .cells true 0 [.int .i64 (.ofNat 5), .int .i64 (.ofNat 6), .int .i64 (.ofNat 20), .int .i64 (.ofNat 21), .int .i64 (.ofNat 1), .int .i64 (.ofNat 2), .int .i64 (.ofNat 2), .int .i64 (.ofNat 3), .int .i64 (.ofNat 1), .int .i64 (.ofNat 3), .int .i64 (.ofNat 5), .int .i64 (.ofNat 8), .int .i64 (.ofNat 8), .int .i64 (.ofNat 18), .int .i64 (.ofNat 18), .int .i64 (.ofNat 0), .int .i64 (.ofNat 1), .int .i64 (.ofNat 1), .int .i64 (.ofNat 1), .int .i64 (.ofNat 0), .int .i64 (.ofNat 6), .int .i64 (.ofNat 7)]),
    (4, .cells true 0 [.int .i64 (.ofNat 0), .slice (some ⟨5, 0, none⟩) 2 2, .int .i64 (.ofNat 3), .slice (some ⟨6, 0, none⟩) 1 1, .int .i64 (.ofNat 3), .slice (some ⟨7, 0, none⟩) 1 1]),
    (5, .cells true 0 [.int .i64 (.ofNat 6), .int .i64 (.ofNat 20), .int .i64 (.ofNat 1), .int .i64 (.ofNat 8), .int .i64 (.ofNat 18), .int .i64 (.ofNat 1)]),
    (6, .cells true 0 [.int .i64 (.ofNat 8), .int .i64 (.ofNat 18), .int .i64 (.ofNat 1)]),
    (7, .cells true 0 [.int .i64 (.ofNat 10), .int .i64 (.ofNat 18), .int .i64 (.ofNat 1)])],
   [],
   .int .i64 (.ofNat 70)⟩
theorem bx140_ok : bx140.okS EE.G = true := by kernel_rfl
theorem bx140_run : evT EE baT 1000000000 (.call bx140.f bx140.args) bx140.heap (keptK bx140) = some (.bool true) := by kernel_rfl
theorem bx140_h : bx140.holds EE := ent_run envOk baT_holds _ _ bx140_ok bx140_run
end Go.Proofs.YthbgjljkepfhcabGreatDoor
