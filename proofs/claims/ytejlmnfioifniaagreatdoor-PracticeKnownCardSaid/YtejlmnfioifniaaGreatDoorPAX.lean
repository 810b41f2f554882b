/- The tables together. No conditions. -/
import Derived.Test.YtejlmnfioifniaaGreatDoorPAT
set_option linter.all false
namespace Go.Proofs.YtejlmnfioifniaaGreatDoor
open Go.Ai
noncomputable def paxT : List Ent := paT ++ zcT
theorem paxT_holds : ∀ e ∈ paxT, e.holds EE := fun e he => (List.mem_append.1 he).elim (paT_holds e) (zcT_holds e)
end Go.Proofs.YtejlmnfioifniaaGreatDoor
