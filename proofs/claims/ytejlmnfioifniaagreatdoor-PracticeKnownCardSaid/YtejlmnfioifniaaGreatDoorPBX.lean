/- The tables together. No conditions. -/
import Derived.Test.YtejlmnfioifniaaGreatDoorPBT
import Derived.Test.YtejlmnfioifniaaGreatDoorPDT
set_option linter.all false
namespace Go.Proofs.YtejlmnfioifniaaGreatDoor
open Go.Ai
noncomputable def pbxT : List Ent := pdT ++ (pbT ++ paxT)
theorem pbxT_holds : ∀ e ∈ pbxT, e.holds EE := fun e he => (List.mem_append.1 he).elim (pdT_holds e) fun h => (List.mem_append.1 h).elim (pbT_holds e) (paxT_holds e)
end Go.Proofs.YtejlmnfioifniaaGreatDoor
