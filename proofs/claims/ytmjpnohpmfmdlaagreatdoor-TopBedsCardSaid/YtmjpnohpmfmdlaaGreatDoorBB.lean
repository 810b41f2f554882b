/- The examples' own call, over known ones. No conditions. -/
import Derived.Test.YtmjpnohpmfmdlaaGreatDoorBZ
import Derived.Test.YtmjpnohpmfmdlaaGreatDoorBA3
import Derived.Test.YtmjpnohpmfmdlaaGreatDoorBA4
import Derived.Test.YtmjpnohpmfmdlaaGreatDoorBA10
import Derived.Test.YtmjpnohpmfmdlaaGreatDoorBA11
set_option linter.all false
namespace Go.Proofs.YtmjpnohpmfmdlaaGreatDoor
open Go.Ai
set_option maxRecDepth 1000000
noncomputable def bb0 : Ent := ⟨32, [], 6, gC, [], .bool true⟩
theorem bb0_h : bb0.holds EE := ent_run envOk (T := [zc0, ba39, ba40, ba407, ba409]) (List.forall_mem_cons.2 ⟨zc0_h, List.forall_mem_cons.2 ⟨ba39_h, List.forall_mem_cons.2 ⟨ba40_h, List.forall_mem_cons.2 ⟨ba407_h, List.forall_mem_cons.2 ⟨ba409_h, fun _ h => by cases h⟩⟩⟩⟩⟩) 1000000000 bb0 (by kernel_rfl) (by kernel_rfl)
end Go.Proofs.YtmjpnohpmfmdlaaGreatDoor
