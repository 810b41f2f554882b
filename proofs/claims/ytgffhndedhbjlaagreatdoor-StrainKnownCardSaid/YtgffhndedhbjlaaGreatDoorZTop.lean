/- The closed law's own call, by the kernel's run of the evaluator over the table of known calls. No conditions. -/
import Derived.Test.YtgffhndedhbjlaaGreatDoorZFT
set_option linter.all false
namespace Go.Proofs.YtgffhndedhbjlaaGreatDoor
open Go.Ai
set_option maxRecDepth 1000000
noncomputable def zfTop : Ent := ⟨3, [], 2, [(0, .cells false 0 [.int .i64 (.ofNat 5), .int .i64 (.ofNat 3)]), (1, .cells false 0 [.int .i64 (.negSucc 0), .int .i64 (.negSucc 0), .int .i64 (.negSucc 0)])], [], .bool true⟩
theorem zfTop_ok : zfTop.okS EE.G = true := by kernel_rfl
theorem zfTop_run : evT EE zfT 1000000000 (.call zfTop.f zfTop.args) zfTop.heap (keptK zfTop) = some (.bool true) := by kernel_rfl
theorem zfTop_h : zfTop.holds EE := ent_run envOk zfT_holds _ _ zfTop_ok zfTop_run
end Go.Proofs.YtgffhndedhbjlaaGreatDoor
