/- The table of known calls. No conditions. -/
import Derived.Test.YtahphmhiehimiaaDoorVM0
import Derived.Test.YtahphmhiehimiaaDoorVM1
import Derived.Test.YtahphmhiehimiaaDoorVM2
import Derived.Test.YtahphmhiehimiaaDoorVM3
import Derived.Test.YtahphmhiehimiaaDoorVM4
set_option linter.all false
namespace Go.Proofs.YtahphmhiehimiaaDoor
open Go.Ai
noncomputable def vmT : List Ent := [vm0, vm1, vm2, vm3, vm4, vm5, vm6, vm7, vm8, vm9]
set_option maxRecDepth 1000000
theorem vmT_holds : ∀ e ∈ vmT, e.holds EE :=
  List.forall_mem_cons.2 ⟨vm0_h,
  List.forall_mem_cons.2 ⟨vm1_h,
  List.forall_mem_cons.2 ⟨vm2_h,
  List.forall_mem_cons.2 ⟨vm3_h,
  List.forall_mem_cons.2 ⟨vm4_h,
  List.forall_mem_cons.2 ⟨vm5_h,
  List.forall_mem_cons.2 ⟨vm6_h,
  List.forall_mem_cons.2 ⟨vm7_h,
  List.forall_mem_cons.2 ⟨vm8_h,
  List.forall_mem_cons.2 ⟨vm9_h,
  (fun _ h => by cases h)⟩⟩⟩⟩⟩⟩⟩⟩⟩⟩
end Go.Proofs.YtahphmhiehimiaaDoor
