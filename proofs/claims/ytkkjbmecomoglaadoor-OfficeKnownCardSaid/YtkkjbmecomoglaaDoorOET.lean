/- The table of known calls. No conditions. -/
import Derived.Test.YtkkjbmecomoglaaDoorOE0
import Derived.Test.YtkkjbmecomoglaaDoorOE1
import Derived.Test.YtkkjbmecomoglaaDoorOE2
import Derived.Test.YtkkjbmecomoglaaDoorOE3
import Derived.Test.YtkkjbmecomoglaaDoorOE4
import Derived.Test.YtkkjbmecomoglaaDoorOE5
import Derived.Test.YtkkjbmecomoglaaDoorOE6
import Derived.Test.YtkkjbmecomoglaaDoorOE7
import Derived.Test.YtkkjbmecomoglaaDoorOE8
import Derived.Test.YtkkjbmecomoglaaDoorOE9
set_option linter.all false
namespace Go.Proofs.YtkkjbmecomoglaaDoor
open Go.Ai
noncomputable def oeT : List Ent := [oe0, oe1, oe2, oe3, oe4, oe5, oe6, oe7, oe8, oe9, oe10, oe11, oe12, oe13, oe14, oe15, oe16, oe17, oe18, oe19, oe20, oe21, oe22, oe23, oe24, oe25, oe26, oe27, oe28, oe29, oe30, oe31, oe32, oe33, oe34, oe35, oe36, oe37, oe38, oe39, oe40, oe41, oe42, oe43, oe44, oe45, oe46, oe47, oe48, oe49, oe50, oe51, oe52, oe53, oe54, oe55, oe56, oe57, oe58, oe59]
theorem oeT_holds : ∀ e ∈ oeT, e.holds EE := by
  intro e he
  simp only [oeT, List.mem_cons, List.not_mem_nil, or_false] at he
  rcases he with rfl | rfl | rfl | rfl | rfl | rfl | rfl | rfl | rfl | rfl | rfl | rfl | rfl | rfl | rfl | rfl | rfl | rfl | rfl | rfl | rfl | rfl | rfl | rfl | rfl | rfl | rfl | rfl | rfl | rfl | rfl | rfl | rfl | rfl | rfl | rfl | rfl | rfl | rfl | rfl | rfl | rfl | rfl | rfl | rfl | rfl | rfl | rfl | rfl | rfl | rfl | rfl | rfl | rfl | rfl | rfl | rfl | rfl | rfl | rfl
  · exact oe0_h
  · exact oe1_h
  · exact oe2_h
  · exact oe3_h
  · exact oe4_h
  · exact oe5_h
  · exact oe6_h
  · exact oe7_h
  · exact oe8_h
  · exact oe9_h
  · exact oe10_h
  · exact oe11_h
  · exact oe12_h
  · exact oe13_h
  · exact oe14_h
  · exact oe15_h
  · exact oe16_h
  · exact oe17_h
  · exact oe18_h
  · exact oe19_h
  · exact oe20_h
  · exact oe21_h
  · exact oe22_h
  · exact oe23_h
  · exact oe24_h
  · exact oe25_h
  · exact oe26_h
  · exact oe27_h
  · exact oe28_h
  · exact oe29_h
  · exact oe30_h
  · exact oe31_h
  · exact oe32_h
  · exact oe33_h
  · exact oe34_h
  · exact oe35_h
  · exact oe36_h
  · exact oe37_h
  · exact oe38_h
  · exact oe39_h
  · exact oe40_h
  · exact oe41_h
  · exact oe42_h
  · exact oe43_h
  · exact oe44_h
  · exact oe45_h
  · exact oe46_h
  · exact oe47_h
  · exact oe48_h
  · exact oe49_h
  · exact oe50_h
  · exact oe51_h
  · exact oe52_h
  · exact oe53_h
  · exact oe54_h
  · exact oe55_h
  · exact oe56_h
  · exact oe57_h
  · exact oe58_h
  · exact oe59_h
end Go.Proofs.YtkkjbmecomoglaaDoor
