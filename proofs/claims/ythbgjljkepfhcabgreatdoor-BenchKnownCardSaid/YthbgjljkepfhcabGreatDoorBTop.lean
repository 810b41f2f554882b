/- The closed law's own call, by the kernel's run of the evaluator over the table of known calls. No conditions. -/
import Derived.Test.YthbgjljkepfhcabGreatDoorBXT
set_option linter.all false
namespace Go.Proofs.YthbgjljkepfhcabGreatDoor
open Go.Ai
set_option maxRecDepth 1000000
noncomputable def beTop : Ent := ⟨3, [], 3, [(0, .cells false 0 [.int .i64 (.negSucc 0), .int .i64 (.negSucc 0), .int .i64 (.negSucc 0), .int .i64 (.negSucc 0), .int .i64 (.negSucc 0)]), (1, .cells false 0 [.int .i64 (.ofNat 0), .int .i64 (.ofNat 0), .int .i64 (.ofNat 0), .int .i64 (.ofNat 0)]),
  (2, .cells false 0 [.int .i64 (.ofNat 40), .int .i64 (.ofNat 2), .int .i64 (.ofNat 40), .int .i64 (.ofNat 2), .int .i64 (.ofNat 2), .int .i64 (.ofNat 1), .int .i64 (.ofNat 6), .int .i64 (.ofNat 2), .int .i64 (.ofNat 9), .int .i64 (.ofNat 3)])], [], .bool true⟩
theorem beTop_ok : beTop.okS EE.G = true := by kernel_rfl
theorem beTop_run : evT EE bxT 1000000000 (.call beTop.f beTop.args) beTop.heap (keptK beTop) = some (.bool true) := by kernel_rfl
theorem beTop_h : beTop.holds EE := ent_run envOk bxT_holds _ _ beTop_ok beTop_run
end Go.Proofs.YthbgjljkepfhcabGreatDoor
