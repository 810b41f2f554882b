/- The table of known calls. No conditions. -/
import Derived.Test.YtkkjbmecomoglaaDoorVW0
import Derived.Test.YtkkjbmecomoglaaDoorVW1
import Derived.Test.YtkkjbmecomoglaaDoorVW2
set_option linter.all false
namespace Go.Proofs.YtkkjbmecomoglaaDoor
open Go.Ai
noncomputable def vwT : List Ent := [vw0, vw1, vw2, vw3]
theorem vwT_holds : ∀ e ∈ vwT, e.holds EE := by
  intro e he
  simp only [vwT, List.mem_cons, List.not_mem_nil, or_false] at he
  rcases he with rfl | rfl | rfl | rfl
  · exact vw0_h
  · exact vw1_h
  · exact vw2_h
  · exact vw3_h
end Go.Proofs.YtkkjbmecomoglaaDoor
