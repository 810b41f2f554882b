/- The table of known calls. No conditions. -/
import Derived.Test.YtkkjbmecomoglaaDoorVE0
import Derived.Test.YtkkjbmecomoglaaDoorVE1
import Derived.Test.YtkkjbmecomoglaaDoorVE2
import Derived.Test.YtkkjbmecomoglaaDoorVE3
import Derived.Test.YtkkjbmecomoglaaDoorVE4
import Derived.Test.YtkkjbmecomoglaaDoorVE5
import Derived.Test.YtkkjbmecomoglaaDoorVE6
import Derived.Test.YtkkjbmecomoglaaDoorVE7
import Derived.Test.YtkkjbmecomoglaaDoorVE8
import Derived.Test.YtkkjbmecomoglaaDoorVE9
import Derived.Test.YtkkjbmecomoglaaDoorVE10
import Derived.Test.YtkkjbmecomoglaaDoorVE11
set_option linter.all false
namespace Go.Proofs.YtkkjbmecomoglaaDoor
open Go.Ai
noncomputable def veT : List Ent := [ve0, ve1, ve2, ve3, ve4, ve5, ve6, ve7, ve8, ve9, ve10, ve11, ve12, ve13, ve14, ve15, ve16, ve17, ve18, ve19, ve20, ve21, ve22, ve23, ve24, ve25, ve26, ve27, ve28, ve29, ve30, ve31, ve32, ve33, ve34, ve35, ve36, ve37, ve38, ve39, ve40, ve41, ve42, ve43, ve44, ve45, ve46, ve47, ve48, ve49, ve50, ve51, ve52, ve53, ve54, ve55, ve56, ve57, ve58, ve59, ve60, ve61, ve62, ve63, ve64, ve65, ve66, ve67]
theorem veT_holds : ∀ e ∈ veT, e.holds EE := by
  intro e he
  simp only [veT, List.mem_cons, List.not_mem_nil, or_false] at he
  rcases he with rfl | rfl | rfl | rfl | rfl | rfl | rfl | rfl | rfl | rfl | rfl | rfl | rfl | rfl | rfl | rfl | rfl | rfl | rfl | rfl | rfl | rfl | rfl | rfl | rfl | rfl | rfl | rfl | rfl | rfl | rfl | rfl | rfl | rfl | rfl | rfl | rfl | rfl | rfl | rfl | rfl | rfl | rfl | rfl | rfl | rfl | rfl | rfl | rfl | rfl | rfl | rfl | rfl | rfl | rfl | rfl | rfl | rfl | rfl | rfl | rfl | rfl | rfl | rfl | rfl | rfl | rfl | rfl
  · exact ve0_h
  · exact ve1_h
  · exact ve2_h
  · exact ve3_h
  · exact ve4_h
  · exact ve5_h
  · exact ve6_h
  · exact ve7_h
  · exact ve8_h
  · exact ve9_h
  · exact ve10_h
  · exact ve11_h
  · exact ve12_h
  · exact ve13_h
  · exact ve14_h
  · exact ve15_h
  · exact ve16_h
  · exact ve17_h
  · exact ve18_h
  · exact ve19_h
  · exact ve20_h
  · exact ve21_h
  · exact ve22_h
  · exact ve23_h
  · exact ve24_h
  · exact ve25_h
  · exact ve26_h
  · exact ve27_h
  · exact ve28_h
  · exact ve29_h
  · exact ve30_h
  · exact ve31_h
  · exact ve32_h
  · exact ve33_h
  · exact ve34_h
  · exact ve35_h
  · exact ve36_h
  · exact ve37_h
  · exact ve38_h
  · exact ve39_h
  · exact ve40_h
  · exact ve41_h
  · exact ve42_h
  · exact ve43_h
  · exact ve44_h
  · exact ve45_h
  · exact ve46_h
  · exact ve47_h
  · exact ve48_h
  · exact ve49_h
  · exact ve50_h
  · exact ve51_h
  · exact ve52_h
  · exact ve53_h
  · exact ve54_h
  · exact ve55_h
  · exact ve56_h
  · exact ve57_h
  · exact ve58_h
  · exact ve59_h
  · exact ve60_h
  · exact ve61_h
  · exact ve62_h
  · exact ve63_h
  · exact ve64_h
  · exact ve65_h
  · exact ve66_h
  · exact ve67_h
end Go.Proofs.YtkkjbmecomoglaaDoor
