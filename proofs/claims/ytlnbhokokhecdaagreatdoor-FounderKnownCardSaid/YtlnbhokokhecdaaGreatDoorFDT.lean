/- The table of known calls. No conditions. -/
import Derived.Test.YtlnbhokokhecdaaGreatDoorFD0
import Derived.Test.YtlnbhokokhecdaaGreatDoorFD1
set_option linter.all false
namespace Go.Proofs.YtlnbhokokhecdaaGreatDoor
open Go.Ai
noncomputable def fdT : List Ent := [fd0, fd1, fd2, fd3, fd4, fd5, fd6, fd7, fd8, fd9, fd10, fd11, fd12, fd13, fd14, fd15]
set_option maxRecDepth 1000000
theorem fdT_holds : ∀ e ∈ fdT, e.holds EE :=
  List.forall_mem_cons.2 ⟨fd0_h,
  List.forall_mem_cons.2 ⟨fd1_h,
  List.forall_mem_cons.2 ⟨fd2_h,
  List.forall_mem_cons.2 ⟨fd3_h,
  List.forall_mem_cons.2 ⟨fd4_h,
  List.forall_mem_cons.2 ⟨fd5_h,
  List.forall_mem_cons.2 ⟨fd6_h,
  List.forall_mem_cons.2 ⟨fd7_h,
  List.forall_mem_cons.2 ⟨fd8_h,
  List.forall_mem_cons.2 ⟨fd9_h,
  List.forall_mem_cons.2 ⟨fd10_h,
  List.forall_mem_cons.2 ⟨fd11_h,
  List.forall_mem_cons.2 ⟨fd12_h,
  List.forall_mem_cons.2 ⟨fd13_h,
  List.forall_mem_cons.2 ⟨fd14_h,
  List.forall_mem_cons.2 ⟨fd15_h,
  (fun _ h => by cases h)⟩⟩⟩⟩⟩⟩⟩⟩⟩⟩⟩⟩⟩⟩⟩⟩
end Go.Proofs.YtlnbhokokhecdaaGreatDoor
