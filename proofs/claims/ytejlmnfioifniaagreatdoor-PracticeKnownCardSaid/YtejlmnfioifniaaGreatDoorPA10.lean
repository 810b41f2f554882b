/- Known calls, part 10: what single calls hand back, at small heaps, by the kernel's own run of the evaluator. No conditions. -/
import Derived.Test.YtejlmnfioifniaaGreatDoorPZC
set_option linter.all false
namespace Go.Proofs.YtejlmnfioifniaaGreatDoor
open Go.Ai
set_option maxRecDepth 1000000
-- decani/strain.Safe, 13997 steps
noncomputable def pa10 : Ent :=
  ⟨68, [.agg ⟨[.slice (some ⟨5, 0, none⟩) 3 3, iP 3, iP 3, iP 4, iP 5, iP 4, iP 4, .slice (some ⟨6, 0, none⟩) 4 4, .slice none 0 0, .slice none 0 0]⟩, .slice none 0 0], 7,
   gC ++ [(5, .cells true 0 [iP 10, iP 10, iP 10, iP 11, iP 12, iP 12]),
    (6, .cells true 0 [iP 1, iP 0, iP 1, iP 0, iP 1, iP 1, iP 1, iP 0, iP 0, iP 0, iP 1, iP 0])],
   [],
   .tuple ⟨[.bool true, iP 0]⟩⟩
theorem pa10_ok : pa10.okS EE.G = true := by kernel_rfl
theorem pa10_run : evT EE zcT 1000000000 (.call pa10.f pa10.args) pa10.heap (keptK pa10) = some (.bool true) := by kernel_rfl
theorem pa10_h : pa10.holds EE := ent_run envOk zcT_holds _ _ pa10_ok pa10_run
-- decani/strain.Safe, 13482 steps
noncomputable def pa11 : Ent :=
  ⟨68, [.agg ⟨[.slice (some ⟨5, 0, none⟩) 3 3, iP 3, iP 3, iP 4, iP 5, iP 4, iP 4, .slice (some ⟨6, 0, none⟩) 4 18446744073709551616, .slice none 0 0, .slice none 0 0]⟩, .slice (some ⟨7, 0, none⟩) 2 18446744073709551616], 8,
   gC ++ [(5, .cells true 0 [iP 2, iP 2, iP 10, iP 11, iP 12, iP 12]),
    (6, .cells true 4 [iP 1, iP 0, iP 1, iP 1, iP 1, iP 1, iP 1, iP 0, iP 0, iP 0, iP 1, iP 0]),
    (7, .cells true 3 [iP 1, iP 0, iP 1, iP 1])],
   [],
   .tuple ⟨[.bool false, iP 0]⟩⟩
theorem pa11_ok : pa11.okS EE.G = true := by kernel_rfl
theorem pa11_run : evT EE zcT 1000000000 (.call pa11.f pa11.args) pa11.heap (keptK pa11) = some (.bool true) := by kernel_rfl
theorem pa11_h : pa11.holds EE := ent_run envOk zcT_holds _ _ pa11_ok pa11_run
-- decani/cold.Ill, 8913 steps
noncomputable def pa31 : Ent :=
  ⟨62, [.agg ⟨[iP 4, iP 5, iP 3, iP 0, iP 1, iP 2, iP 1, iP 1, .slice none 0 0, iP 2, .slice (some ⟨5, 0, none⟩) 1 1]⟩, iP 0, iP 0], 6,
   gC ++ [(5, .cells true 0 [iP 0, iP 1, .bool true])],
   [],
   .tuple ⟨[iP 2, iP 0]⟩⟩
theorem pa31_ok : pa31.okS EE.G = true := by kernel_rfl
theorem pa31_run : evT EE zcT 1000000000 (.call pa31.f pa31.args) pa31.heap (keptK pa31) = some (.bool true) := by kernel_rfl
theorem pa31_h : pa31.holds EE := ent_run envOk zcT_holds _ _ pa31_ok pa31_run
-- decani/cold.Ill, 8585 steps
noncomputable def pa42 : Ent :=
  ⟨62, [.agg ⟨[iP 4, iP 5, iP 3, iP 0, iP 1, iP 2, iP 1, iP 1, .slice none 0 0, iP 2, .slice none 0 0]⟩, iP 3, iP 2], 5,
   gC,
   [],
   .tuple ⟨[iP 1, iP 0]⟩⟩
theorem pa42_ok : pa42.okS EE.G = true := by kernel_rfl
theorem pa42_run : evT EE zcT 1000000000 (.call pa42.f pa42.args) pa42.heap (keptK pa42) = some (.bool true) := by kernel_rfl
theorem pa42_h : pa42.holds EE := ent_run envOk zcT_holds _ _ pa42_ok pa42_run
-- decani/strain.Right, 4448 steps
noncomputable def pa53 : Ent :=
  ⟨41, [.agg ⟨[.slice (some ⟨5, 0, none⟩) 3 3, iP 3, iP 3, iP 4, iP 5, iP 4, iP 4, .slice (some ⟨6, 0, none⟩) 4 4, .slice none 0 0, .slice (some ⟨7, 0, none⟩) 1 1]⟩], 8,
   gC ++ [(5, .cells true 0 [iP 10, iP 10, iP 10, iP 11, iP 12, iP 12]),
    (6, .cells true 0 [iP 1, iP 0, iP 1, iP 0, iP 1, iP 1, iP 1, iP 0, iP 0, iP 0, iP 1, iP 0]),
    (7, .cells true 0 [iP 0, iP 0, iP 30, iP 0])],
   [],
   .tuple ⟨[.bool false, iP 0]⟩⟩
theorem pa53_ok : pa53.okS EE.G = true := by kernel_rfl
theorem pa53_run : evT EE zcT 1000000000 (.call pa53.f pa53.args) pa53.heap (keptK pa53) = some (.bool true) := by kernel_rfl
theorem pa53_h : pa53.holds EE := ent_run envOk zcT_holds _ _ pa53_ok pa53_run
-- decani/practice.Check, 2939 steps
noncomputable def pa56 : Ent :=
  ⟨16, [.agg ⟨[iP 4, iP 5, iP 3, iP 0, iP 1, iP 2, iP 1, iP 1, .slice none 0 0, iP 2, .slice (some ⟨5, 0, none⟩) 1 1, .slice (some ⟨6, 0, none⟩) 3 3, iP 3, iP 3, iP 4, iP 5, iP 4, iP 4, .slice (some ⟨7, 0, none⟩) 4 4, .slice none 0 0, .slice none 0 0, .slice (some ⟨8, 0, none⟩) 3 3, .slice (some ⟨9, 0, none⟩) 2 2]⟩], 10,
   gC ++ [(5, .cells true 0 [iP 0, iP 1, .bool true]),
    (6, .cells true 0 [iP 10, iP 10, iP 10, iP 11, iP 12, iP 12]),
    (7, .cells true 0 [iP 1, iP 0, iP 1, iP 0, iP 1, iP 1, iP 1, iP 0, iP 0, iP 0, iP 1, iP 0]),
    (8, .cells true 0 [iP 0, iP 2, iP 3]),
    (9, .cells true 0 [iP 0, iP 1, iP 1, iP 1, iP 3, iP 1])],
   [],
   iP 0⟩
theorem pa56_ok : pa56.okS EE.G = true := by kernel_rfl
theorem pa56_run : evT EE zcT 1000000000 (.call pa56.f pa56.args) pa56.heap (keptK pa56) = some (.bool true) := by kernel_rfl
theorem pa56_h : pa56.holds EE := ent_run envOk zcT_holds _ _ pa56_ok pa56_run
-- decani/practice.Check, 2385 steps
noncomputable def pa67 : Ent :=
  ⟨16, [.agg ⟨[iP 4, iP 5, iP 3, iP 0, iP 1, iP 2, iP 1, iP 1, .slice none 0 0, iP 2, .slice none 0 0, .slice (some ⟨5, 0, none⟩) 3 3, iP 3, iP 3, iP 4, iP 5, iP 4, iP 4, .slice (some ⟨6, 0, none⟩) 4 4, .slice none 0 0, .slice none 0 0, .slice (some ⟨7, 0, none⟩) 3 3, .slice (some ⟨8, 0, none⟩) 2 2]⟩], 9,
   gC ++ [(5, .cells true 0 [iP 10, iP 10, iP 10, iP 11, iP 12, iP 12]),
    (6, .cells true 0 [iP 1, iP 0, iP 1, iP 0, iP 1, iP 1, iP 1, iP 0, iP 0, iP 0, iP 1, iP 0]),
    (7, .cells true 0 [iP 0, iP 2, iP 4]),
    (8, .cells true 0 [iP 0, iP 1, iP 1, iP 1, iP 3, iP 1])],
   [],
   iP 100⟩
theorem pa67_ok : pa67.okS EE.G = true := by kernel_rfl
theorem pa67_run : evT EE zcT 1000000000 (.call pa67.f pa67.args) pa67.heap (keptK pa67) = some (.bool true) := by kernel_rfl
theorem pa67_h : pa67.holds EE := ent_run envOk zcT_holds _ _ pa67_ok pa67_run
end Go.Proofs.YtejlmnfioifniaaGreatDoor
