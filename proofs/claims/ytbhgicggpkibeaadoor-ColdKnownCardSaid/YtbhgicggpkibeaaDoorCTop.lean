/- The closed law's own call, by the kernel's run of the evaluator over the table of known calls. No conditions. -/
import Derived.Test.YtbhgicggpkibeaaDoorCET
set_option linter.all false
namespace Go.Proofs.YtbhgicggpkibeaaDoor
open Go.Ai
set_option maxRecDepth 1000000
noncomputable def ceTop : Ent := ⟨4, [], 4, [(0, .cells false 0 [.int .i64 (.negSucc 0), .int .i64 (.negSucc 0)]), (1, .dead),
  (2, .cells false 0 [.int .i64 (.ofNat 6), .int .i64 (.ofNat 6), .int .i64 (.ofNat 6), .int .i64 (.ofNat 6), .int .i64 (.ofNat 6)]), (3, .dead)], [], .bool true⟩
theorem ceTop_ok : ceTop.okS EE.G = true := by kernel_rfl
theorem ceTop_run : evT EE ceT 1000000000 (.call ceTop.f ceTop.args) ceTop.heap (keptK ceTop) = some (.bool true) := by kernel_rfl
theorem ceTop_h : ceTop.holds EE := ent_run envOk ceT_holds _ _ ceTop_ok ceTop_run
end Go.Proofs.YtbhgicggpkibeaaDoor
