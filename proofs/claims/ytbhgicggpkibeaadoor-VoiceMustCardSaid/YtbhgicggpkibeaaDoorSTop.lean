/- The chapter's examples: the law's own call 'sung', by the kernel's run of the evaluator over the table of known calls. No conditions. -/
import Derived.Test.YtbhgicggpkibeaaDoorSET
set_option linter.all false
namespace Go.Proofs.YtbhgicggpkibeaaDoor
open Go.Ai
set_option maxRecDepth 1000000
noncomputable def seTop : Ent := ⟨6, [], 4, [(0, .dead), (1, .cells false 0 [.int .i64 (.negSucc 0), .int .i64 (.negSucc 0), .int .i64 (.negSucc 0), .int .i64 (.negSucc 0), .int .i64 (.negSucc 0)]), (2, .dead),
  (3, .cells false 0 [.int .i64 (.ofNat 40), .int .i64 (.ofNat 2), .int .i64 (.ofNat 40), .int .i64 (.ofNat 2), .int .i64 (.ofNat 2), .int .i64 (.ofNat 1), .int .i64 (.ofNat 6), .int .i64 (.ofNat 2), .int .i64 (.ofNat 9), .int .i64 (.ofNat 3)])], [], .bool true⟩
theorem seTop_ok : seTop.okS EE.G = true := by kernel_rfl
theorem seTop_run : evT EE seT 1000000000 (.call seTop.f seTop.args) seTop.heap (keptK seTop) = some (.bool true) := by kernel_rfl
theorem seTop_h : seTop.holds EE := ent_run envOk seT_holds _ _ seTop_ok seTop_run
end Go.Proofs.YtbhgicggpkibeaaDoor
