/- The table of known calls. No conditions. -/
import Derived.Test.YtgffhndedhbjlaaGreatDoorZM0
import Derived.Test.YtgffhndedhbjlaaGreatDoorZM1
import Derived.Test.YtgffhndedhbjlaaGreatDoorZM2
import Derived.Test.YtgffhndedhbjlaaGreatDoorZM3
set_option linter.all false
namespace Go.Proofs.YtgffhndedhbjlaaGreatDoor
open Go.Ai
noncomputable def zmT : List Ent := [zm0, zm1, zm2, zm3, zm4, zm5, zm6, zm7, zm8, zm9, zm10, zm11, zm12, zm13, zm14, zm15, zm16, zm17, zm18, zm19, zm20, zm21]
set_option maxRecDepth 1000000
theorem zmT_holds : ∀ e ∈ zmT, e.holds EE :=
  List.forall_mem_cons.2 ⟨zm0_h,
  List.forall_mem_cons.2 ⟨zm1_h,
  List.forall_mem_cons.2 ⟨zm2_h,
  List.forall_mem_cons.2 ⟨zm3_h,
  List.forall_mem_cons.2 ⟨zm4_h,
  List.forall_mem_cons.2 ⟨zm5_h,
  List.forall_mem_cons.2 ⟨zm6_h,
  List.forall_mem_cons.2 ⟨zm7_h,
  List.forall_mem_cons.2 ⟨zm8_h,
  List.forall_mem_cons.2 ⟨zm9_h,
  List.forall_mem_cons.2 ⟨zm10_h,
  List.forall_mem_cons.2 ⟨zm11_h,
  List.forall_mem_cons.2 ⟨zm12_h,
  List.forall_mem_cons.2 ⟨zm13_h,
  List.forall_mem_cons.2 ⟨zm14_h,
  List.forall_mem_cons.2 ⟨zm15_h,
  List.forall_mem_cons.2 ⟨zm16_h,
  List.forall_mem_cons.2 ⟨zm17_h,
  List.forall_mem_cons.2 ⟨zm18_h,
  List.forall_mem_cons.2 ⟨zm19_h,
  List.forall_mem_cons.2 ⟨zm20_h,
  List.forall_mem_cons.2 ⟨zm21_h,
  (fun _ h => by cases h)⟩⟩⟩⟩⟩⟩⟩⟩⟩⟩⟩⟩⟩⟩⟩⟩⟩⟩⟩⟩⟩⟩
end Go.Proofs.YtgffhndedhbjlaaGreatDoor
