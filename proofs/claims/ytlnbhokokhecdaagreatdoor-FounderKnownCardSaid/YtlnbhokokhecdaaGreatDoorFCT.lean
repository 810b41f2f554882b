/- The table of known calls. No conditions. -/
import Derived.Test.YtlnbhokokhecdaaGreatDoorFC0
import Derived.Test.YtlnbhokokhecdaaGreatDoorFC1
import Derived.Test.YtlnbhokokhecdaaGreatDoorFC2
import Derived.Test.YtlnbhokokhecdaaGreatDoorFC3
set_option linter.all false
namespace Go.Proofs.YtlnbhokokhecdaaGreatDoor
open Go.Ai
noncomputable def fcT : List Ent := [fc0, fc1, fc2, fc3, fc4, fc5, fc6, fc7, fc8, fc9, fc10, fc11, fc12, fc13, fc14]
set_option maxRecDepth 1000000
theorem fcT_holds : ∀ e ∈ fcT, e.holds EE :=
  List.forall_mem_cons.2 ⟨fc0_h,
  List.forall_mem_cons.2 ⟨fc1_h,
  List.forall_mem_cons.2 ⟨fc2_h,
  List.forall_mem_cons.2 ⟨fc3_h,
  List.forall_mem_cons.2 ⟨fc4_h,
  List.forall_mem_cons.2 ⟨fc5_h,
  List.forall_mem_cons.2 ⟨fc6_h,
  List.forall_mem_cons.2 ⟨fc7_h,
  List.forall_mem_cons.2 ⟨fc8_h,
  List.forall_mem_cons.2 ⟨fc9_h,
  List.forall_mem_cons.2 ⟨fc10_h,
  List.forall_mem_cons.2 ⟨fc11_h,
  List.forall_mem_cons.2 ⟨fc12_h,
  List.forall_mem_cons.2 ⟨fc13_h,
  List.forall_mem_cons.2 ⟨fc14_h,
  (fun _ h => by cases h)⟩⟩⟩⟩⟩⟩⟩⟩⟩⟩⟩⟩⟩⟩⟩
end Go.Proofs.YtlnbhokokhecdaaGreatDoor
