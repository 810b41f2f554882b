/- The table of known calls beneath the exported functions. No conditions. -/
import Derived.Test.YtgffhndedhbjlaaGreatDoorZMT
set_option linter.all false
namespace Go.Proofs.YtgffhndedhbjlaaGreatDoor
open Go.Ai
noncomputable def zaT : List Ent := [zc0, zc1, zm0, zm1, zm2, zm3, zm4, zm5, zm6, zm7, zm8, zm9, zm10, zm11, zm12, zm13, zm14, zm15, zm16, zm17, zm18, zm19, zm20, zm21]
theorem zaT_holds : ∀ e ∈ zaT, e.holds EE :=
  List.forall_mem_cons.2 ⟨zc0_h, List.forall_mem_cons.2 ⟨zc1_h, zmT_holds⟩⟩
end Go.Proofs.YtgffhndedhbjlaaGreatDoor
