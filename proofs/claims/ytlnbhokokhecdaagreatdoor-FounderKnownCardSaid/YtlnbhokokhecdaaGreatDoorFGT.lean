/- The table of known calls. No conditions. -/
import Derived.Test.YtlnbhokokhecdaaGreatDoorFG0
set_option linter.all false
namespace Go.Proofs.YtlnbhokokhecdaaGreatDoor
open Go.Ai
noncomputable def fgT : List Ent := [fg0, fg1, fg2]
set_option maxRecDepth 1000000
theorem fgT_holds : ∀ e ∈ fgT, e.holds EE :=
  List.forall_mem_cons.2 ⟨fg0_h,
  List.forall_mem_cons.2 ⟨fg1_h,
  List.forall_mem_cons.2 ⟨fg2_h,
  (fun _ h => by cases h)⟩⟩⟩
end Go.Proofs.YtlnbhokokhecdaaGreatDoor
