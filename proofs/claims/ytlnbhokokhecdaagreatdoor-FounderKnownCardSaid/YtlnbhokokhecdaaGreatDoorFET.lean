/- The table of known calls. No conditions. -/
import Derived.Test.YtlnbhokokhecdaaGreatDoorFE0
set_option linter.all false
namespace Go.Proofs.YtlnbhokokhecdaaGreatDoor
open Go.Ai
noncomputable def feT : List Ent := [fe0, fe1, fe2, fe3, fe4, fe5, fe6, fe7, fe8, fe9, fe10, fe11, fe12, fe13, fe14, fe15, fe16, fe17]
set_option maxRecDepth 1000000
theorem feT_holds : ∀ e ∈ feT, e.holds EE :=
  List.forall_mem_cons.2 ⟨fe0_h,
  List.forall_mem_cons.2 ⟨fe1_h,
  List.forall_mem_cons.2 ⟨fe2_h,
  List.forall_mem_cons.2 ⟨fe3_h,
  List.forall_mem_cons.2 ⟨fe4_h,
  List.forall_mem_cons.2 ⟨fe5_h,
  List.forall_mem_cons.2 ⟨fe6_h,
  List.forall_mem_cons.2 ⟨fe7_h,
  List.forall_mem_cons.2 ⟨fe8_h,
  List.forall_mem_cons.2 ⟨fe9_h,
  List.forall_mem_cons.2 ⟨fe10_h,
  List.forall_mem_cons.2 ⟨fe11_h,
  List.forall_mem_cons.2 ⟨fe12_h,
  List.forall_mem_cons.2 ⟨fe13_h,
  List.forall_mem_cons.2 ⟨fe14_h,
  List.forall_mem_cons.2 ⟨fe15_h,
  List.forall_mem_cons.2 ⟨fe16_h,
  List.forall_mem_cons.2 ⟨fe17_h,
  (fun _ h => by cases h)⟩⟩⟩⟩⟩⟩⟩⟩⟩⟩⟩⟩⟩⟩⟩⟩⟩⟩
end Go.Proofs.YtlnbhokokhecdaaGreatDoor
