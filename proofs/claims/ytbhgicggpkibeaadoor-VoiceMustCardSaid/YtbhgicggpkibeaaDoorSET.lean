/- The table of known calls. No conditions. -/
import Derived.Test.YtbhgicggpkibeaaDoorSE0
import Derived.Test.YtbhgicggpkibeaaDoorSE1
import Derived.Test.YtbhgicggpkibeaaDoorSE2
import Derived.Test.YtbhgicggpkibeaaDoorSE3
import Derived.Test.YtbhgicggpkibeaaDoorSE4
import Derived.Test.YtbhgicggpkibeaaDoorSE5
import Derived.Test.YtbhgicggpkibeaaDoorSE6
set_option linter.all false
namespace Go.Proofs.YtbhgicggpkibeaaDoor
open Go.Ai
noncomputable def seT : List Ent := [se0, se1, se2, se3, se4, se5, se6, se7, se8, se9, se10]
set_option maxRecDepth 1000000
theorem seT_holds : ∀ e ∈ seT, e.holds EE :=
  List.forall_mem_cons.2 ⟨se0_h,
  List.forall_mem_cons.2 ⟨se1_h,
  List.forall_mem_cons.2 ⟨se2_h,
  List.forall_mem_cons.2 ⟨se3_h,
  List.forall_mem_cons.2 ⟨se4_h,
  List.forall_mem_cons.2 ⟨se5_h,
  List.forall_mem_cons.2 ⟨se6_h,
  List.forall_mem_cons.2 ⟨se7_h,
  List.forall_mem_cons.2 ⟨se8_h,
  List.forall_mem_cons.2 ⟨se9_h,
  List.forall_mem_cons.2 ⟨se10_h,
  (fun _ h => by cases h)⟩⟩⟩⟩⟩⟩⟩⟩⟩⟩⟩
end Go.Proofs.YtbhgicggpkibeaaDoor
