/- The table of known calls. No conditions. -/
import Derived.Test.YtkkjbmecomoglaaDoorVM0
set_option linter.all false
namespace Go.Proofs.YtkkjbmecomoglaaDoor
open Go.Ai
noncomputable def vmT : List Ent := [vm0, vm1, vm2]
theorem vmT_holds : ∀ e ∈ vmT, e.holds EE := by
  intro e he
  simp only [vmT, List.mem_cons, List.not_mem_nil, or_false] at he
  rcases he with rfl | rfl | rfl
  · exact vm0_h
  · exact vm1_h
  · exact vm2_h
end Go.Proofs.YtkkjbmecomoglaaDoor
