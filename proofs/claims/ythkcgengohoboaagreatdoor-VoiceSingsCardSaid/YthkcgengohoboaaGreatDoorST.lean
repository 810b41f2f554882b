/- The chapter's examples: the law's own call 'sung', by the kernel's run of the evaluator over the table of known calls. No conditions. -/
import Derived.Test.YthkcgengohoboaaGreatDoorSE0
import Derived.Test.YthkcgengohoboaaGreatDoorSE1
import Derived.Test.YthkcgengohoboaaGreatDoorSE2
import Derived.Test.YthkcgengohoboaaGreatDoorSE3
import Derived.Test.YthkcgengohoboaaGreatDoorSE4
import Derived.Test.YthkcgengohoboaaGreatDoorSE5
import Derived.Test.YthkcgengohoboaaGreatDoorSE6
set_option linter.all false
namespace Go.Proofs.YthkcgengohoboaaGreatDoor
open Go.Ai
noncomputable def seT : List Ent := [se0, se1, se2, se3, se4, se5, se6, se7, se8, se9, se10]
set_option maxRecDepth 1000000
theorem seT_holds : ∀ e ∈ seT, e.holds EE :=
  List.forall_mem_cons.2 ⟨se0_h,
  List.forall_mem_cons.2 ⟨se1_h,
  List.forall_mem_cons.2 ⟨se2_h,
  List.forall_mem_cons.2 ⟨se3_h,
  List.forall_mem_cons.2 ⟨se4_h,
  List.forall_mem_cons.2 ⟨se5_h,
  List.forall_mem_cons.2 ⟨se6_h,
  List.forall_mem_cons.2 ⟨se7_h,
  List.forall_mem_cons.2 ⟨se8_h,
  List.forall_mem_cons.2 ⟨se9_h,
  List.forall_mem_cons.2 ⟨se10_h,
  (fun _ h => by cases h)⟩⟩⟩⟩⟩⟩⟩⟩⟩⟩⟩
end Go.Proofs.YthkcgengohoboaaGreatDoor
namespace Go.Proofs.YthkcgengohoboaaGreatDoor
open Go.Ai
set_option maxRecDepth 1000000
noncomputable def seTop : Ent := ⟨18, [], 3, [(0, .cells false 0 [.int .i64 (.negSucc 0), .int .i64 (.negSucc 0), .int .i64 (.negSucc 0), .int .i64 (.negSucc 0), .int .i64 (.negSucc 0)]), 
  (1, .cells false 0 [.int .i64 (.ofNat 40), .int .i64 (.ofNat 2), .int .i64 (.ofNat 40), .int .i64 (.ofNat 2), .int .i64 (.ofNat 2), .int .i64 (.ofNat 1), .int .i64 (.ofNat 6), .int .i64 (.ofNat 2), .int .i64 (.ofNat 9), .int .i64 (.ofNat 3)]), (2, .dead)], [], .bool true⟩
theorem seTop_ok : seTop.okS EE.G = true := by kernel_rfl
theorem seTop_run : evT EE seT 1000000000 (.call seTop.f seTop.args) seTop.heap (keptK seTop) = some (.bool true) := by kernel_rfl
theorem seTop_h : seTop.holds EE := ent_run envOk seT_holds _ _ seTop_ok seTop_run
end Go.Proofs.YthkcgengohoboaaGreatDoor
