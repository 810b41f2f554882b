/- The closed law's own call, by the kernel's run of the evaluator over the table of known calls. No conditions. -/
import Derived.Test.YtahphmhiehimiaaDoorVWT
set_option linter.all false
namespace Go.Proofs.YtahphmhiehimiaaDoor
open Go.Ai
set_option maxRecDepth 1000000
noncomputable def keTop : Ent := ⟨3, [], 1, [(0, .cells false 0 [.int .i64 (.negSucc 300), .int .i64 (.negSucc 300)])], [], .bool true⟩
theorem keTop_ok : keTop.okS EE.G = true := by kernel_rfl
theorem keTop_run : evT EE vwT 1000000000 (.call keTop.f keTop.args) keTop.heap (keptK keTop) = some (.bool true) := by kernel_rfl
theorem keTop_h : keTop.holds EE := ent_run envOk vwT_holds _ _ keTop_ok keTop_run
end Go.Proofs.YtahphmhiehimiaaDoor
