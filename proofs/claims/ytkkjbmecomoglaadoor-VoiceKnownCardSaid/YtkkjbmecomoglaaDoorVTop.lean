/- The closed law's own call, by the kernel's run of the evaluator over the table of known calls. No conditions. -/
import Derived.Test.YtkkjbmecomoglaaDoorVET
import Derived.Test.YtkkjbmecomoglaaDoorVWT
set_option linter.all false
namespace Go.Proofs.YtkkjbmecomoglaaDoor
open Go.Ai
set_option maxRecDepth 1000000
noncomputable def vTT : List Ent := veT ++ vwT
theorem vTT_holds : ∀ e ∈ vTT, e.holds EE := fun e he => (List.mem_append.1 he).elim (veT_holds e) (vwT_holds e)
noncomputable def veTop : Ent := ⟨4, [], 3, [(0, .dead), (1, .cells false 0 [.int .i64 (.negSucc 0), .int .i64 (.negSucc 0), .int .i64 (.negSucc 0), .int .i64 (.negSucc 0), .int .i64 (.negSucc 0)]),
  (2, .cells false 0 [.int .i64 (.ofNat 40), .int .i64 (.ofNat 2), .int .i64 (.ofNat 40), .int .i64 (.ofNat 2), .int .i64 (.ofNat 2), .int .i64 (.ofNat 1), .int .i64 (.ofNat 6), .int .i64 (.ofNat 2), .int .i64 (.ofNat 9), .int .i64 (.ofNat 3)])], [], .bool true⟩
theorem veTop_ok : veTop.okS EE.G = true := by kernel_rfl
theorem veTop_run : evT EE vTT 1000000000 (.call veTop.f veTop.args) veTop.heap (keptK veTop) = some (.bool true) := by kernel_rfl
theorem veTop_h : veTop.holds EE := ent_run envOk vTT_holds _ _ veTop_ok veTop_run
end Go.Proofs.YtkkjbmecomoglaaDoor
