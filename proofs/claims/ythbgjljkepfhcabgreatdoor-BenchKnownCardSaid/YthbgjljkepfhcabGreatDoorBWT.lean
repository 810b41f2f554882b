/- The table of known calls. No conditions. -/
import Derived.Test.YthbgjljkepfhcabGreatDoorBW0
import Derived.Test.YthbgjljkepfhcabGreatDoorBW1
import Derived.Test.YthbgjljkepfhcabGreatDoorBW2
import Derived.Test.YthbgjljkepfhcabGreatDoorBW3
import Derived.Test.YthbgjljkepfhcabGreatDoorBW4
import Derived.Test.YthbgjljkepfhcabGreatDoorBW5
set_option linter.all false
namespace Go.Proofs.YthbgjljkepfhcabGreatDoor
open Go.Ai
noncomputable def bwT : List Ent := [bw0, bw1, bw2, bw3, bw4, bw5, bw6, bw7, bw8, bw9, bw10, bw11, bw12, bw13]
set_option maxRecDepth 1000000
theorem bwT_holds : ∀ e ∈ bwT, e.holds EE :=
  List.forall_mem_cons.2 ⟨bw0_h,
  List.forall_mem_cons.2 ⟨bw1_h,
  List.forall_mem_cons.2 ⟨bw2_h,
  List.forall_mem_cons.2 ⟨bw3_h,
  List.forall_mem_cons.2 ⟨bw4_h,
  List.forall_mem_cons.2 ⟨bw5_h,
  List.forall_mem_cons.2 ⟨bw6_h,
  List.forall_mem_cons.2 ⟨bw7_h,
  List.forall_mem_cons.2 ⟨bw8_h,
  List.forall_mem_cons.2 ⟨bw9_h,
  List.forall_mem_cons.2 ⟨bw10_h,
  List.forall_mem_cons.2 ⟨bw11_h,
  List.forall_mem_cons.2 ⟨bw12_h,
  List.forall_mem_cons.2 ⟨bw13_h,
  (fun _ h => by cases h)⟩⟩⟩⟩⟩⟩⟩⟩⟩⟩⟩⟩⟩⟩
end Go.Proofs.YthbgjljkepfhcabGreatDoor
