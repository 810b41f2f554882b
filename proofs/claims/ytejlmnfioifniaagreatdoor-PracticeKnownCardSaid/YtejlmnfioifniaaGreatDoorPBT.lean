/- The table of known calls. No conditions. -/
import Derived.Test.YtejlmnfioifniaaGreatDoorPB0
set_option linter.all false
namespace Go.Proofs.YtejlmnfioifniaaGreatDoor
open Go.Ai
noncomputable def pbT : List Ent := [pb0, pb1, pb2, pb3, pb4]
set_option maxRecDepth 1000000
theorem pbT_holds : ∀ e ∈ pbT, e.holds EE :=
  List.forall_mem_cons.2 ⟨pb0_h,
  List.forall_mem_cons.2 ⟨pb1_h,
  List.forall_mem_cons.2 ⟨pb2_h,
  List.forall_mem_cons.2 ⟨pb3_h,
  List.forall_mem_cons.2 ⟨pb4_h,
  (fun _ h => by cases h)⟩⟩⟩⟩⟩
end Go.Proofs.YtejlmnfioifniaaGreatDoor
