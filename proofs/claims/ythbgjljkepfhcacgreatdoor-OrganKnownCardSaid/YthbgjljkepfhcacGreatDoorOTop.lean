/- The closed law's own call, by the kernel's run of the evaluator over the tables of known calls. No conditions. -/
import Derived.Test.YthbgjljkepfhcacGreatDoorVWT
set_option linter.all false
namespace Go.Proofs.YthbgjljkepfhcacGreatDoor
open Go.Ai
set_option maxRecDepth 1000000
noncomputable def oTT : List Ent := vmT ++ vwT
theorem oTT_holds : ∀ e ∈ oTT, e.holds EE := fun e he => (List.mem_append.1 he).elim (vmT_holds e) (vwT_holds e)
noncomputable def oeTop : Ent := ⟨3, [], 3, [(0, .cells false 0 [.int .i64 (.negSucc 60), .int .i64 (.negSucc 60), .int .i64 (.negSucc 60), .int .i64 (.negSucc 60), .int .i64 (.negSucc 60)]), (1, .cells false 0 [.int .i64 (.negSucc 0), .int .i64 (.negSucc 0), .int .i64 (.negSucc 0), .int .i64 (.negSucc 0), .int .i64 (.negSucc 0)]),
  (2, .cells false 0 [.int .i64 (.ofNat 40), .int .i64 (.ofNat 2), .int .i64 (.ofNat 40), .int .i64 (.ofNat 2), .int .i64 (.ofNat 2), .int .i64 (.ofNat 1), .int .i64 (.ofNat 6), .int .i64 (.ofNat 2), .int .i64 (.ofNat 9), .int .i64 (.ofNat 3)])], [], .bool true⟩
theorem oeTop_ok : oeTop.okS EE.G = true := by kernel_rfl
theorem oeTop_run : evT EE oTT 1000000000 (.call oeTop.f oeTop.args) oeTop.heap (keptK oeTop) = some (.bool true) := by kernel_rfl
theorem oeTop_h : oeTop.holds EE := ent_run envOk oTT_holds _ _ oeTop_ok oeTop_run
end Go.Proofs.YthbgjljkepfhcacGreatDoor
