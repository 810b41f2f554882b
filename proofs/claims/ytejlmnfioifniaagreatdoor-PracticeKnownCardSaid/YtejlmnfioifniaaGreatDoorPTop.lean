/- The closed law's own call, by the kernel's run of the evaluator over the tables of known calls. No conditions. -/
import Derived.Test.YtejlmnfioifniaaGreatDoorPCT
set_option linter.all false
namespace Go.Proofs.YtejlmnfioifniaaGreatDoor
open Go.Ai
set_option maxRecDepth 1000000
noncomputable def pTT : List Ent := pcT ++ paT
theorem pTT_holds : ∀ e ∈ pTT, e.holds EE := fun e he => (List.mem_append.1 he).elim (pcT_holds e) (paT_holds e)
noncomputable def pkeTop : Ent := ⟨3, [], 5, [(0, .cells false 0 [.int .i64 (.ofNat 9), .int .i64 (.ofNat 9), .int .i64 (.ofNat 9)]), (1, .cells false 0 [.int .i64 (.negSucc 0), .int .i64 (.negSucc 0)]), (2, .cells false 0 [.int .i64 (.negSucc 0), .int .i64 (.negSucc 0), .int .i64 (.negSucc 0)]), (3, .cells false 0 [.int .i64 (.ofNat 5), .int .i64 (.ofNat 3)]), (4, .cells false 0 [.int .i64 (.ofNat 6), .int .i64 (.ofNat 6), .int .i64 (.ofNat 6), .int .i64 (.ofNat 6), .int .i64 (.ofNat 6)])], [], .bool true⟩
theorem pkeTop_ok : pkeTop.okS EE.G = true := by kernel_rfl
theorem pkeTop_run : evT EE pTT 1000000000 (.call pkeTop.f pkeTop.args) pkeTop.heap (keptK pkeTop) = some (.bool true) := by kernel_rfl
theorem pkeTop_h : pkeTop.holds EE := ent_run envOk pTT_holds _ _ pkeTop_ok pkeTop_run
end Go.Proofs.YtejlmnfioifniaaGreatDoor
