/- Known calls, part 0: what single calls hand back, at small heaps, by the kernel's own run of the evaluator. No conditions. -/
import Derived.Test.YthbgjljkepfhcabGreatDoorBMT
set_option linter.all false
namespace Go.Proofs.YthbgjljkepfhcabGreatDoor
open Go.Ai
set_option maxRecDepth 1000000
-- decani/bench.newStalls, 204180 steps
noncomputable def bw0 : Ent :=
  ⟨42, [.agg ⟨[.slice (some ⟨3, 0, none⟩) 2 2, .int .i64 (.ofNat 4), .slice none 0 0, .slice (some ⟨4, 0, none⟩) 3 3, .int .i64 (.ofNat 1)]⟩], 8,
   [(0, .cells false 0 [.int .i64 (.negSucc 0), .int .i64 (.negSucc 0), .int .i64 (.negSucc 0), .int .i64 (.negSucc 0), .int .i64 (.negSucc 0)]),
    (1, .cells false 0 [.int .i64 (.ofNat 0), .int .i64 (.ofNat 0), .int .i64 (.ofNat 0), .int .i64 (.ofNat 0)]),
    (2, .cells false 0 [.int .i64 (.ofNat 40), .int .i64 (.ofNat 2), .int .i64 (.ofNat 40), .int .i64 (.ofNat 2), .int .i64 (.ofNat 2), .int .i64 (.ofNat 1), .int .i64 (.ofNat 6), .int .i64 (.ofNat 2), .int .i64 (.ofNat 9), .int .i64 (.ofNat 3)]),
    (3, .cells true 0 [.int .i64 (.ofNat 5), .int .i64 (.ofNat 6), .int .i64 (.ofNat 20), .int .i64 (.ofNat 21), .int .i64 (.ofNat 1), .int .i64 (.ofNat 2), .int .i64 (.ofNat 2), .int .i64 (.ofNat 3), .int .i64 (.ofNat 1), .int .i64 (.ofNat 3), .int .i64 (.ofNat 5), .int .i64 (.ofNat 8), .int .i64 (.ofNat 8), .int .i64 (.ofNat 18), .int .i64 (.ofNat 18), .int .i64 (.ofNat 0), .int .i64 (.ofNat 1), .int .i64 (.ofNat 1), .int .i64 (.ofNat 1), .int .i64 (.ofNat 0), .int .i64 (.ofNat 6), .int .i64 (.ofNat 7)]),
    (4, .cells true 0 [.int .i64 (.ofNat 0), .slice (some ⟨5, 0, none⟩) 2 2, .int .i64 (.ofNat 3), .slice (some ⟨6, 0, none⟩) 1 1, .int .i64 (.ofNat 3), .slice (some ⟨7, 0, none⟩) 1 1]),
    (5, .cells true 0 [.int .i64 (.ofNat 6), .int .i64 (.ofNat 20), .int .i64 (.ofNat 1), .int .i64 (.ofNat 8), .int .i64 (.ofNat 18), .int .i64 (.ofNat 1)]),
    (6, .cells true 0 [.int .i64 (.ofNat 8), .int .i64 (.ofNat 18), .int .i64 (.ofNat 1)]),
    (7, .cells true 0 [.int .i64 (.ofNat 10), .int .i64 (.ofNat 18), .int .i64 (.ofNat 1)])],
   [.map [⟨.agg ⟨[.int .i64 (.ofNat 0), .int .i64 (.ofNat 0)]⟩, .slice (some ⟨9, 0, none⟩) 1 18446744073709551616, 0⟩, ⟨.agg ⟨[.int .i64 (.ofNat 0), .int .i64 (.ofNat 1)]⟩, .slice (some ⟨10, 0, none⟩) 2 18446744073709551616, 1⟩, ⟨.agg ⟨[.int .i64 (.ofNat 1), .int .i64 (.ofNat 0)]⟩, .slice (some ⟨11, 0, none⟩) 1 18446744073709551616, 2⟩, ⟨.agg ⟨[.int .i64 (.ofNat 2), .int .i64 (.ofNat 0)]⟩, .slice (some ⟨12, 0, none⟩) 1 18446744073709551616, 3⟩] 4, .cells true 2 [.int .i64 (.ofNat 0)], .cells true 2 [.int .i64 (.ofNat 0), .int .i64 (.ofNat 1)], .cells true 2 [.int .i64 (.ofNat 1)], .cells true 2 [.int .i64 (.ofNat 1)]],
   .agg ⟨[.slice (some ⟨3, 0, none⟩) 2 2, .int .i64 (.ofNat 4), .slice none 0 0, .slice (some ⟨4, 0, none⟩) 3 3, .int .i64 (.ofNat 1), .map (some 8), .func (.func 63) ⟨[]⟩ ⟨[]⟩]⟩⟩
theorem bw0_ok : bw0.okS EE.G = true := by kernel_rfl
theorem bw0_run : evT EE bmT 1000000000 (.call bw0.f bw0.args) bw0.heap (keptK bw0) = some (.bool true) := by kernel_rfl
theorem bw0_h : bw0.holds EE := ent_run envOk bmT_holds _ _ bw0_ok bw0_run
-- (decani/bench.stalls).need, 46584 steps
noncomputable def bw6 : Ent :=
  ⟨37, [.agg ⟨[.slice (some ⟨3, 0, none⟩) 2 2, .int .i64 (.ofNat 4), .slice none 0 0, .slice (some ⟨4, 0, none⟩) 3 3, .int .i64 (.ofNat 1), .map (some 8), .func (.func 63) ⟨[]⟩ ⟨[]⟩]⟩], 12,
   [(0, .cells false 0 [.int .i64 (.negSucc 0), .int .i64 (.negSucc 0), .int .i64 (.negSucc 0), .int .i64 (.negSucc 0), .int .i64 (.negSucc 0)]),
    (1, .cells false 0 [.int .i64 (.ofNat 0), .int .i64 (.ofNat 0), .int .i64 (.ofNat 0), .int .i64 (.ofNat 0)]),
    (2, .cells false 0 [.int .i64 (.ofNat 40), .int .i64 (.ofNat 2), .int .i64 (.ofNat 40), .int .i64 (.ofNat 2), .int .i64 (.ofNat 2), .int .i64 (.ofNat 1), .int .i64 (.ofNat 6), .int .i64 (.ofNat 2), .int .i64 (.ofNat 9), .int .i64 (.ofNat 3)]),
    (3, .cells true 0 [.int .i64 (.ofNat 5), .int .i64 (.ofNat 6), .int .i64 (.ofNat 20), .int .i64 (.ofNat 21), .int .i64 (.ofNat 1), .int .i64 (.ofNat 2), .int .i64 (.ofNat 2), .int .i64 (.ofNat 3), .int .i64 (.ofNat 1), .int .i64 (.ofNat 3), .int .i64 (.ofNat 5), .int .i64 (.ofNat 8), .int .i64 (.ofNat 8), .int .i64 (.ofNat 18), .int .i64 (.ofNat 18), .int .i64 (.ofNat 0), .int .i64 (.ofNat 1), .int .i64 (.ofNat 1), .int .i64 (.ofNat 1), .int .i64 (.ofNat 0), .int .i64 (.ofNat 6), .int .i64 (.ofNat 7)]),
    (4, .cells true 0 [.int .i64 (.ofNat 0), .slice (some ⟨5, 0, none⟩) 2 2, .int .i64 (.ofNat 3), .slice (some ⟨6, 0, none⟩) 1 1, .int .i64 (.ofNat 3), .slice (some ⟨7, 0, none⟩) 1 1]),
    (5, .cells true 0 [.int .i64 (.ofNat 6), .int .i64 (.ofNat 24), .int .i64 (.ofNat 1), .int .i64 (.ofNat 8), .int .i64 (.ofNat 18), .int .i64 (.ofNat 1)]),
    (6, .cells true 0 [.int .i64 (.ofNat 8), .int .i64 (.ofNat 18), .int .i64 (.ofNat 1)]),
    (7, .cells true 0 [.int .i64 (.ofNat 10), .int .i64 (.ofNat 18), .int .i64 (.ofNat 1)]),
    (8, .map [⟨.agg ⟨[.int .i64 (.ofNat 0), .int .i64 (.ofNat 1)]⟩, .slice (some ⟨9, 0, none⟩) 2 18446744073709551616, 0⟩, ⟨.agg ⟨[.int .i64 (.ofNat 1), .int .i64 (.ofNat 0)]⟩, .slice (some ⟨10, 0, none⟩) 1 18446744073709551616, 1⟩, ⟨.agg ⟨[.int .i64 (.ofNat 2), .int .i64 (.ofNat 0)]⟩, .slice (some ⟨11, 0, none⟩) 1 18446744073709551616, 2⟩] 3),
    (9, .cells true 2 [.int .i64 (.ofNat 0), .int .i64 (.ofNat 1)]),
    (10, .cells true 2 [.int .i64 (.ofNat 1)]),
    (11, .cells true 2 [.int .i64 (.ofNat 1)])],
   [.cells true 2 [.int .i64 (.ofNat 1)]],
   .slice (some ⟨12, 0, none⟩) 1 18446744073709551616⟩
theorem bw6_ok : bw6.okS EE.G = true := by kernel_rfl
theorem bw6_run : evT EE bmT 1000000000 (.call bw6.f bw6.args) bw6.heap (keptK bw6) = some (.bool true) := by kernel_rfl
theorem bw6_h : bw6.holds EE := ent_run envOk bmT_holds _ _ bw6_ok bw6_run
end Go.Proofs.YthbgjljkepfhcabGreatDoor
