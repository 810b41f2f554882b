/- The table of known calls. No conditions. -/
import Derived.Test.YtejlmnfioifniaaGreatDoorPD0
import Derived.Test.YtejlmnfioifniaaGreatDoorPD1
import Derived.Test.YtejlmnfioifniaaGreatDoorPD2
import Derived.Test.YtejlmnfioifniaaGreatDoorPD3
set_option linter.all false
namespace Go.Proofs.YtejlmnfioifniaaGreatDoor
open Go.Ai
noncomputable def pdT : List Ent := [pd0, pd1, pd2, pd3]
set_option maxRecDepth 1000000
theorem pdT_holds : ∀ e ∈ pdT, e.holds EE :=
  List.forall_mem_cons.2 ⟨pd0_h,
  List.forall_mem_cons.2 ⟨pd1_h,
  List.forall_mem_cons.2 ⟨pd2_h,
  List.forall_mem_cons.2 ⟨pd3_h,
  (fun _ h => by cases h)⟩⟩⟩⟩
end Go.Proofs.YtejlmnfioifniaaGreatDoor
