/- The closed law's own call, by the kernel's run of the evaluator over the tables of known calls. No conditions. -/
import Derived.Test.YtlnbhokokhecdaaGreatDoorFWT
set_option linter.all false
namespace Go.Proofs.YtlnbhokokhecdaaGreatDoor
open Go.Ai
set_option maxRecDepth 1000000
noncomputable def fTT : List Ent := feT ++ fwT
theorem fTT_holds : ∀ e ∈ fTT, e.holds EE := fun e he => (List.mem_append.1 he).elim (feT_holds e) (fwT_holds e)
noncomputable def fkeTop : Ent := ⟨3, [], 3, [(0, .cells false 0 [.int .i64 (.ofNat 0), .int .i64 (.ofNat 0), .int .i64 (.ofNat 0)]), (1, .cells false 0 [.int .i64 (.negSucc 0), .int .i64 (.negSucc 0), .int .i64 (.negSucc 0), .int .i64 (.negSucc 0)]),
  (2, .cells false 0 [.int .i64 (.negSucc 0), .int .i64 (.negSucc 0)])], [], .bool true⟩
theorem fkeTop_ok : fkeTop.okS EE.G = true := by kernel_rfl
theorem fkeTop_run : evT EE fTT 1000000000 (.call fkeTop.f fkeTop.args) fkeTop.heap (keptK fkeTop) = some (.bool true) := by kernel_rfl
theorem fkeTop_h : fkeTop.holds EE := ent_run envOk fTT_holds _ _ fkeTop_ok fkeTop_run
end Go.Proofs.YtlnbhokokhecdaaGreatDoor
