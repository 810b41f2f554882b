/- The closed law's own call, by the kernel's run of the evaluator over the table of known calls. No conditions. -/
import Derived.Test.YtkkjbmecomoglaaDoorOET
import Derived.Test.YtkkjbmecomoglaaDoorAiL
set_option linter.all false
namespace Go.Proofs.YtkkjbmecomoglaaDoor
open Go.Ai
set_option maxRecDepth 1000000
noncomputable def oeTop : Ent := ⟨3, [], 3, [(0, .cells false 0 [.int .i64 (.negSucc 0), .int .i64 (.negSucc 0), .int .i64 (.negSucc 0), .int .i64 (.negSucc 0)]), (1, .dead), (2, .dead)], [], .bool true⟩
theorem oeTop_ok : oeTop.okS EE.G = true := by kernel_rfl
theorem oeTop_run : evT EE oeT 1000000000 (.call oeTop.f oeTop.args) oeTop.heap (keptK oeTop) = some (.bool true) := by kernel_rfl
theorem oeTop_h : oeTop.holds EE := ent_run envOk oeT_holds _ _ oeTop_ok oeTop_run
end Go.Proofs.YtkkjbmecomoglaaDoor
