/- The tables together. No conditions. -/
import Derived.Test.YtlnbhokokhecdaaGreatDoorFCT
import Derived.Test.YtlnbhokokhecdaaGreatDoorFGT
import Derived.Test.YtlnbhokokhecdaaGreatDoorFET
set_option linter.all false
namespace Go.Proofs.YtlnbhokokhecdaaGreatDoor
open Go.Ai
noncomputable def fxT : List Ent := feT ++ (fgT ++ fcT)
theorem fxT_holds : ∀ e ∈ fxT, e.holds EE := fun e he => (List.mem_append.1 he).elim (feT_holds e) fun h => (List.mem_append.1 h).elim (fgT_holds e) (fcT_holds e)
end Go.Proofs.YtlnbhokokhecdaaGreatDoor
