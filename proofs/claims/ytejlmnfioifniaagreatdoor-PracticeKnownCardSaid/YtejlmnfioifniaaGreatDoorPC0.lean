/- Known calls, part 0: what single calls hand back, at small heaps, by the kernel's own run of the evaluator. No conditions. -/
import Derived.Test.YtejlmnfioifniaaGreatDoorPBX
set_option linter.all false
namespace Go.Proofs.YtejlmnfioifniaaGreatDoor
open Go.Ai
set_option maxRecDepth 1000000
-- decani/practice.Keeps, 127229 steps
noncomputable def pc0 : Ent :=
  ⟨12, [.agg ⟨[iP 4, iP 5, iP 3, iP 0, iP 1, iP 2, iP 1, iP 1, .slice none 0 0, iP 2, .slice none 0 0, .slice (some ⟨5, 0, none⟩) 3 3, iP 3, iP 3, iP 4, iP 5, iP 4, iP 4, .slice (some ⟨6, 0, none⟩) 4 4, .slice none 0 0, .slice none 0 0, .slice (some ⟨7, 0, none⟩) 3 3, .slice (some ⟨8, 0, none⟩) 2 2]⟩, .slice (some ⟨9, 0, none⟩) 2 2], 10,
   gC ++ [(5, .cells true 0 [iP 10, iP 10, iP 10, iP 11, iP 12, iP 12]),
    (6, .cells true 0 [iP 1, iP 0, iP 1, iP 0, iP 1, iP 1, iP 1, iP 0, iP 0, iP 0, iP 1, iP 0]),
    (7, .cells true 0 [iP 0, iP 2, iP 3]),
    (8, .cells true 0 [iP 0, iP 1, iP 1, iP 1, iP 3, iP 1]),
    (9, .cells true 0 [iP 1, iP 2])],
   [],
   .tuple ⟨[iP 0, iP 101]⟩⟩
theorem pc0_ok : pc0.okS EE.G = true := by kernel_rfl
theorem pc0_run : evT EE pbxT 1000000000 (.call pc0.f pc0.args) pc0.heap (keptK pc0) = some (.bool true) := by kernel_rfl
theorem pc0_h : pc0.holds EE := ent_run envOk pbxT_holds _ _ pc0_ok pc0_run
-- decani/practice.Never, 184430 steps
noncomputable def pc6 : Ent :=
  ⟨15, [.agg ⟨[iP 4, iP 5, iP 3, iP 0, iP 1, iP 2, iP 1, iP 1, .slice none 0 0, iP 2, .slice none 0 0, .slice (some ⟨5, 0, none⟩) 3 3, iP 3, iP 3, iP 4, iP 5, iP 4, iP 4, .slice (some ⟨6, 0, none⟩) 4 4, .slice none 0 0, .slice none 0 0, .slice (some ⟨7, 0, none⟩) 3 3, .slice (some ⟨8, 0, none⟩) 2 2]⟩], 9,
   gC ++ [(5, .cells true 0 [iP 2, iP 2, iP 10, iP 11, iP 12, iP 12]),
    (6, .cells true 0 [iP 1, iP 0, iP 1, iP 0, iP 1, iP 1, iP 1, iP 0, iP 0, iP 0, iP 1, iP 0]),
    (7, .cells true 0 [iP 0, iP 2, iP 3]),
    (8, .cells true 0 [iP 0, iP 1, iP 1, iP 1, iP 3, iP 1])],
   [.cells true 2 [iP 0, iP 1]],
   .tuple ⟨[.slice (some ⟨9, 0, none⟩) 2 18446744073709551616, iP 0]⟩⟩
theorem pc6_ok : pc6.okS EE.G = true := by kernel_rfl
theorem pc6_run : evT EE pbxT 1000000000 (.call pc6.f pc6.args) pc6.heap (keptK pc6) = some (.bool true) := by kernel_rfl
theorem pc6_h : pc6.holds EE := ent_run envOk pbxT_holds _ _ pc6_ok pc6_run
-- decani/practice.May, 115920 steps
noncomputable def pc12 : Ent :=
  ⟨11, [.agg ⟨[iP 4, iP 5, iP 3, iP 0, iP 1, iP 2, iP 1, iP 1, .slice none 0 0, iP 2, .slice none 0 0, .slice (some ⟨5, 0, none⟩) 3 3, iP 3, iP 3, iP 4, iP 5, iP 4, iP 4, .slice (some ⟨6, 0, none⟩) 4 4, .slice none 0 0, .slice none 0 0, .slice (some ⟨7, 0, none⟩) 3 3, .slice (some ⟨8, 0, none⟩) 2 2]⟩, .slice (some ⟨9, 0, none⟩) 2 2], 10,
   gC ++ [(5, .cells true 0 [iP 10, iP 10, iP 10, iP 11, iP 12, iP 12]),
    (6, .cells true 0 [iP 1, iP 0, iP 1, iP 0, iP 1, iP 1, iP 1, iP 0, iP 0, iP 0, iP 1, iP 0]),
    (7, .cells true 0 [iP 0, iP 2, iP 3]),
    (8, .cells true 0 [iP 0, iP 1, iP 1, iP 1, iP 3, iP 1]),
    (9, .cells true 0 [iP 1, iP 1])],
   [],
   .tuple ⟨[.bool false, iP 0]⟩⟩
theorem pc12_ok : pc12.okS EE.G = true := by kernel_rfl
theorem pc12_run : evT EE pbxT 1000000000 (.call pc12.f pc12.args) pc12.heap (keptK pc12) = some (.bool true) := by kernel_rfl
theorem pc12_h : pc12.holds EE := ent_run envOk pbxT_holds _ _ pc12_ok pc12_run
-- decani/practice.Keeps, 132281 steps
noncomputable def pc18 : Ent :=
  ⟨12, [.agg ⟨[iP 4, iP 5, iP 3, iP 0, iP 1, iP 2, iP 1, iP 1, .slice none 0 0, iP 2, .slice none 0 0, .slice (some ⟨5, 0, none⟩) 3 3, iP 3, iP 3, iP 4, iP 5, iP 4, iP 4, .slice (some ⟨6, 0, none⟩) 4 4, .slice none 0 0, .slice none 0 0, .slice (some ⟨7, 0, none⟩) 3 3, .slice (some ⟨8, 0, none⟩) 2 2]⟩, .slice (some ⟨9, 0, none⟩) 2 2], 10,
   gC ++ [(5, .cells true 0 [iP 10, iP 10, iP 10, iP 11, iP 12, iP 12]),
    (6, .cells true 0 [iP 1, iP 0, iP 1, iP 0, iP 1, iP 1, iP 1, iP 0, iP 0, iP 0, iP 1, iP 0]),
    (7, .cells true 0 [iP 0, iP 2, iP 3]),
    (8, .cells true 0 [iP 0, iP 1, iP 1, iP 1, iP 3, iP 1]),
    (9, .cells true 0 [iP 0, iP 9])],
   [],
   .tuple ⟨[iP 1, iP 0]⟩⟩
theorem pc18_ok : pc18.okS EE.G = true := by kernel_rfl
theorem pc18_run : evT EE pbxT 1000000000 (.call pc18.f pc18.args) pc18.heap (keptK pc18) = some (.bool true) := by kernel_rfl
theorem pc18_h : pc18.holds EE := ent_run envOk pbxT_holds _ _ pc18_ok pc18_run
-- decani/practice.Alone, 148661 steps
noncomputable def pc24 : Ent :=
  ⟨13, [.agg ⟨[iP 4, iP 5, iP 3, iP 0, iP 1, iP 2, iP 1, iP 1, .slice none 0 0, iP 2, .slice none 0 0, .slice (some ⟨5, 0, none⟩) 3 3, iP 3, iP 3, iP 4, iP 5, iP 4, iP 4, .slice (some ⟨6, 0, none⟩) 4 4, .slice none 0 0, .slice none 0 0, .slice (some ⟨7, 0, none⟩) 3 3, .slice (some ⟨8, 0, none⟩) 2 2]⟩, iP 0], 9,
   gC ++ [(5, .cells true 0 [iP 10, iP 10, iP 10, iP 11, iP 12, iP 12]),
    (6, .cells true 0 [iP 1, iP 0, iP 1, iP 0, iP 1, iP 1, iP 1, iP 0, iP 0, iP 0, iP 1, iP 0]),
    (7, .cells true 0 [iP 0, iP 2, iP 3]),
    (8, .cells true 0 [iP 0, iP 1, iP 1, iP 1, iP 3, iP 1])],
   [.cells true 2 [iP 0, iP 1]],
   .tuple ⟨[.slice (some ⟨9, 0, none⟩) 2 18446744073709551616, iP 0]⟩⟩
theorem pc24_ok : pc24.okS EE.G = true := by kernel_rfl
theorem pc24_run : evT EE pbxT 1000000000 (.call pc24.f pc24.args) pc24.heap (keptK pc24) = some (.bool true) := by kernel_rfl
theorem pc24_h : pc24.holds EE := ent_run envOk pbxT_holds _ _ pc24_ok pc24_run
-- decani/practice.Kept, 115358 steps
noncomputable def pc30 : Ent :=
  ⟨10, [.agg ⟨[iP 4, iP 5, iP 3, iP 0, iP 1, iP 2, iP 1, iP 1, .slice none 0 0, iP 2, .slice none 0 0, .slice (some ⟨5, 0, none⟩) 3 3, iP 3, iP 3, iP 4, iP 5, iP 4, iP 4, .slice (some ⟨6, 0, none⟩) 4 4, .slice none 0 0, .slice none 0 0, .slice (some ⟨7, 0, none⟩) 3 3, .slice (some ⟨8, 0, none⟩) 2 2]⟩, iP 1], 9,
   gC ++ [(5, .cells true 0 [iP 10, iP 10, iP 10, iP 11, iP 12, iP 12]),
    (6, .cells true 0 [iP 1, iP 0, iP 1, iP 0, iP 1, iP 1, iP 1, iP 0, iP 0, iP 0, iP 1, iP 0]),
    (7, .cells true 0 [iP 0, iP 2, iP 3]),
    (8, .cells true 0 [iP 0, iP 1, iP 1, iP 1, iP 3, iP 1])],
   [.cells true 2 [iP 0, iP 1]],
   .tuple ⟨[.slice (some ⟨9, 0, none⟩) 2 18446744073709551616, iP 0]⟩⟩
theorem pc30_ok : pc30.okS EE.G = true := by kernel_rfl
theorem pc30_run : evT EE pbxT 1000000000 (.call pc30.f pc30.args) pc30.heap (keptK pc30) = some (.bool true) := by kernel_rfl
theorem pc30_h : pc30.holds EE := ent_run envOk pbxT_holds _ _ pc30_ok pc30_run
-- decani/practice.Right, 7545 steps
noncomputable def pc36 : Ent :=
  ⟨9, [.agg ⟨[iP 4, iP 5, iP 3, iP 0, iP 1, iP 2, iP 1, iP 1, .slice none 0 0, iP 2, .slice none 0 0, .slice (some ⟨5, 0, none⟩) 3 3, iP 3, iP 3, iP 4, iP 5, iP 4, iP 4, .slice (some ⟨6, 0, none⟩) 4 4, .slice none 0 0, .slice none 0 0, .slice (some ⟨7, 0, none⟩) 3 3, .slice (some ⟨8, 0, none⟩) 2 2]⟩], 9,
   gC ++ [(5, .cells true 0 [iP 10, iP 10, iP 10, iP 11, iP 12, iP 12]),
    (6, .cells true 0 [iP 1, iP 0, iP 1, iP 0, iP 1, iP 1, iP 1, iP 0, iP 0, iP 0, iP 1, iP 0]),
    (7, .cells true 0 [iP 0, iP 2, iP 3]),
    (8, .cells true 0 [iP 0, iP 1, iP 1, iP 1, iP 3, iP 1])],
   [],
   .tuple ⟨[.bool true, iP 0]⟩⟩
theorem pc36_ok : pc36.okS EE.G = true := by kernel_rfl
theorem pc36_run : evT EE pbxT 1000000000 (.call pc36.f pc36.args) pc36.heap (keptK pc36) = some (.bool true) := by kernel_rfl
theorem pc36_h : pc36.holds EE := ent_run envOk pbxT_holds _ _ pc36_ok pc36_run
-- decani/practice.Never, 2811 steps
noncomputable def pc50 : Ent :=
  ⟨15, [.agg ⟨[iP 4, iP 5, iP 3, iP 0, iP 1, iP 2, iP 1, iP 1, .slice none 0 0, iP 2, .slice none 0 0, .slice (some ⟨5, 0, none⟩) 3 3, iP 3, iP 3, iP 4, iP 5, iP 4, iP 4, .slice (some ⟨6, 0, none⟩) 4 4, .slice none 0 0, .slice none 0 0, .slice (some ⟨7, 0, none⟩) 3 3, .slice (some ⟨8, 0, none⟩) 2 2]⟩], 9,
   gC ++ [(5, .cells true 0 [iP 10, iP 10, iP 10, iP 11, iP 12, iP 12]),
    (6, .cells true 0 [iP 1, iP 0, iP 1, iP 0, iP 1, iP 1, iP 1, iP 0, iP 0, iP 0, iP 1, iP 0]),
    (7, .cells true 0 [iP 0, iP 2, iP 3]),
    (8, .cells true 0 [iP 0, iP 1, iP 1, iN 0, iP 3, iP 1])],
   [],
   .tuple ⟨[.slice none 0 0, iP 100]⟩⟩
theorem pc50_ok : pc50.okS EE.G = true := by kernel_rfl
theorem pc50_run : evT EE pbxT 1000000000 (.call pc50.f pc50.args) pc50.heap (keptK pc50) = some (.bool true) := by kernel_rfl
theorem pc50_h : pc50.holds EE := ent_run envOk pbxT_holds _ _ pc50_ok pc50_run
-- decani/practice.Keeps, 2724 steps
noncomputable def pc56 : Ent :=
  ⟨12, [.agg ⟨[iP 4, iP 5, iP 3, iP 0, iP 1, iP 2, iP 1, iP 1, .slice none 0 0, iP 2, .slice none 0 0, .slice (some ⟨5, 0, none⟩) 3 3, iP 3, iP 3, iP 4, iP 5, iP 4, iP 4, .slice (some ⟨6, 0, none⟩) 4 4, .slice none 0 0, .slice none 0 0, .slice (some ⟨7, 0, none⟩) 3 3, .slice (some ⟨8, 0, none⟩) 2 2]⟩, .slice none 0 0], 9,
   gC ++ [(5, .cells true 0 [iP 10, iP 10, iP 10, iP 11, iP 12, iP 12]),
    (6, .cells true 0 [iP 1, iP 0, iP 1, iP 0, iP 1, iP 1, iP 1, iP 0, iP 0, iP 0, iP 1, iP 0]),
    (7, .cells true 0 [iP 0, iP 2, iP 3]),
    (8, .cells true 0 [iP 0, iP 1, iP 4, iP 1, iP 3, iP 1])],
   [],
   .tuple ⟨[iP 0, iP 100]⟩⟩
theorem pc56_ok : pc56.okS EE.G = true := by kernel_rfl
theorem pc56_run : evT EE pbxT 1000000000 (.call pc56.f pc56.args) pc56.heap (keptK pc56) = some (.bool true) := by kernel_rfl
theorem pc56_h : pc56.holds EE := ent_run envOk pbxT_holds _ _ pc56_ok pc56_run
-- decani/practice.Alone, 2616 steps
noncomputable def pc61 : Ent :=
  ⟨13, [.agg ⟨[iP 4, iP 5, iP 3, iP 0, iP 1, iP 2, iP 1, iP 1, .slice none 0 0, iP 2, .slice none 0 0, .slice (some ⟨5, 0, none⟩) 3 3, iP 3, iP 3, iP 4, iP 5, iP 4, iP 4, .slice (some ⟨6, 0, none⟩) 4 4, .slice none 0 0, .slice none 0 0, .slice (some ⟨7, 0, none⟩) 3 3, .slice (some ⟨8, 0, none⟩) 4 4]⟩, iN 0], 9,
   gC ++ [(5, .cells true 0 [iP 10, iP 10, iP 10, iP 11, iP 12, iP 12]),
    (6, .cells true 0 [iP 1, iP 0, iP 1, iP 0, iP 1, iP 1, iP 1, iP 0, iP 0, iP 0, iP 1, iP 0]),
    (7, .cells true 0 [iP 0, iP 2, iP 3]),
    (8, .cells true 0 [iP 0, iP 0, iP 0, iP 0, iP 0, iP 0, iP 0, iP 0, iP 0, iP 0, iP 0, iP 0])],
   [],
   .tuple ⟨[.slice none 0 0, iP 100]⟩⟩
theorem pc61_ok : pc61.okS EE.G = true := by kernel_rfl
theorem pc61_run : evT EE pbxT 1000000000 (.call pc61.f pc61.args) pc61.heap (keptK pc61) = some (.bool true) := by kernel_rfl
theorem pc61_h : pc61.holds EE := ent_run envOk pbxT_holds _ _ pc61_ok pc61_run
-- decani/practice.Right, 2545 steps
noncomputable def pc66 : Ent :=
  ⟨9, [.agg ⟨[iP 4, iP 5, iP 3, iP 0, iP 1, iP 2, iP 1, iP 1, .slice none 0 0, iP 2, .slice none 0 0, .slice (some ⟨5, 0, none⟩) 3 3, iP 3, iP 3, iP 4, iP 5, iP 4, iP 4, .slice (some ⟨6, 0, none⟩) 4 4, .slice none 0 0, .slice none 0 0, .slice (some ⟨7, 0, none⟩) 3 3, .slice (some ⟨8, 0, none⟩) 4 4]⟩], 9,
   gC ++ [(5, .cells true 0 [iP 10, iP 10, iP 10, iP 11, iP 12, iP 12]),
    (6, .cells true 0 [iP 1, iP 0, iP 1, iP 0, iP 1, iP 1, iP 1, iP 0, iP 0, iP 0, iP 1, iP 0]),
    (7, .cells true 0 [iP 0, iP 2, iP 3]),
    (8, .cells true 0 [iP 0, iP 0, iP 0, iP 0, iP 0, iP 0, iP 0, iP 0, iP 0, iP 0, iP 0, iP 0])],
   [],
   .tuple ⟨[.bool false, iP 100]⟩⟩
theorem pc66_ok : pc66.okS EE.G = true := by kernel_rfl
theorem pc66_run : evT EE pbxT 1000000000 (.call pc66.f pc66.args) pc66.heap (keptK pc66) = some (.bool true) := by kernel_rfl
theorem pc66_h : pc66.holds EE := ent_run envOk pbxT_holds _ _ pc66_ok pc66_run
-- decani/practice.Right, 2412 steps
noncomputable def pc73 : Ent :=
  ⟨9, [.agg ⟨[iP 4, iP 5, iP 3, iP 0, iP 1, iP 2, iP 1, iP 1, .slice none 0 0, iP 2, .slice none 0 0, .slice (some ⟨5, 0, none⟩) 3 3, iP 3, iP 3, iP 4, iP 5, iP 4, iP 4, .slice (some ⟨6, 0, none⟩) 4 4, .slice none 0 0, .slice none 0 0, .slice (some ⟨7, 0, none⟩) 3 3, .slice (some ⟨8, 0, none⟩) 2 2]⟩], 9,
   gC ++ [(5, .cells true 0 [iP 10, iP 10, iP 10, iP 11, iP 12, iP 12]),
    (6, .cells true 0 [iP 1, iP 0, iP 1, iP 0, iP 1, iP 1, iP 1, iP 0, iP 0, iP 0, iP 1, iP 0]),
    (7, .cells true 0 [iP 0, iP 2, iP 4]),
    (8, .cells true 0 [iP 0, iP 1, iP 1, iP 1, iP 3, iP 1])],
   [],
   .tuple ⟨[.bool false, iP 100]⟩⟩
theorem pc73_ok : pc73.okS EE.G = true := by kernel_rfl
theorem pc73_run : evT EE pbxT 1000000000 (.call pc73.f pc73.args) pc73.heap (keptK pc73) = some (.bool true) := by kernel_rfl
theorem pc73_h : pc73.holds EE := ent_run envOk pbxT_holds _ _ pc73_ok pc73_run
-- decani/practice.Never, 2359 steps
noncomputable def pc79 : Ent :=
  ⟨15, [.agg ⟨[iP 4, iP 5, iP 3, iP 0, iP 1, iP 2, iP 1, iP 1, .slice none 0 0, iP 2, .slice none 0 0, .slice (some ⟨5, 0, none⟩) 3 3, iP 3, iP 3, iP 4, iP 5, iP 4, iP 4, .slice (some ⟨6, 0, none⟩) 4 4, .slice none 0 0, .slice none 0 0, .slice (some ⟨7, 0, none⟩) 3 3, .slice (some ⟨8, 0, none⟩) 2 2]⟩], 9,
   gC ++ [(5, .cells true 0 [iP 10, iP 10, iP 10, iP 11, iP 12, iP 12]),
    (6, .cells true 0 [iP 1, iP 0, iP 1, iP 0, iP 1, iP 1, iP 1, iP 0, iP 0, iP 0, iP 1, iP 0]),
    (7, .cells true 0 [iP 0, iP 0, iP 3]),
    (8, .cells true 0 [iP 0, iP 1, iP 1, iP 1, iP 3, iP 1])],
   [],
   .tuple ⟨[.slice none 0 0, iP 100]⟩⟩
theorem pc79_ok : pc79.okS EE.G = true := by kernel_rfl
theorem pc79_run : evT EE pbxT 1000000000 (.call pc79.f pc79.args) pc79.heap (keptK pc79) = some (.bool true) := by kernel_rfl
theorem pc79_h : pc79.holds EE := ent_run envOk pbxT_holds _ _ pc79_ok pc79_run
-- decani/practice.Never, 2108 steps
noncomputable def pc88 : Ent :=
  ⟨15, [.agg ⟨[iP 4, iP 5, iP 3, iP 0, iP 1, iP 2, iP 1, iP 1, .slice none 0 0, iP 2, .slice none 0 0, .slice (some ⟨5, 0, none⟩) 3 3, iP 3, iP 3, iP 4, iP 5, iP 4, iP 4, .slice (some ⟨6, 0, none⟩) 4 4, .slice none 0 0, .slice none 0 0, .slice (some ⟨7, 0, none⟩) 2 2, .slice (some ⟨8, 0, none⟩) 2 2]⟩], 9,
   gC ++ [(5, .cells true 0 [iP 10, iP 10, iP 10, iP 11, iP 12, iP 12]),
    (6, .cells true 0 [iP 1, iP 0, iP 1, iP 0, iP 1, iP 1, iP 1, iP 0, iP 0, iP 0, iP 1, iP 0]),
    (7, .cells true 0 [iP 0, iP 2]),
    (8, .cells true 0 [iP 0, iP 1, iP 1, iP 1, iP 3, iP 1])],
   [],
   .tuple ⟨[.slice none 0 0, iP 100]⟩⟩
theorem pc88_ok : pc88.okS EE.G = true := by kernel_rfl
theorem pc88_run : evT EE pbxT 1000000000 (.call pc88.f pc88.args) pc88.heap (keptK pc88) = some (.bool true) := by kernel_rfl
theorem pc88_h : pc88.holds EE := ent_run envOk pbxT_holds _ _ pc88_ok pc88_run
-- decani/practice.Right, 2051 steps
noncomputable def pc94 : Ent :=
  ⟨9, [.agg ⟨[iP 4, iP 3, iP 3, iP 0, iP 1, iP 2, iP 1, iP 1, .slice none 0 0, iP 2, .slice none 0 0, .slice (some ⟨5, 0, none⟩) 3 3, iP 3, iP 3, iP 4, iP 5, iP 4, iP 4, .slice (some ⟨6, 0, none⟩) 4 4, .slice none 0 0, .slice none 0 0, .slice (some ⟨7, 0, none⟩) 3 3, .slice (some ⟨8, 0, none⟩) 2 2]⟩], 9,
   gC ++ [(5, .cells true 0 [iP 10, iP 10, iP 10, iP 11, iP 12, iP 12]),
    (6, .cells true 0 [iP 1, iP 0, iP 1, iP 0, iP 1, iP 1, iP 1, iP 0, iP 0, iP 0, iP 1, iP 0]),
    (7, .cells true 0 [iP 0, iP 2, iP 3]),
    (8, .cells true 0 [iP 0, iP 1, iP 1, iP 1, iP 3, iP 1])],
   [],
   .tuple ⟨[.bool false, iP 100]⟩⟩
theorem pc94_ok : pc94.okS EE.G = true := by kernel_rfl
theorem pc94_run : evT EE pbxT 1000000000 (.call pc94.f pc94.args) pc94.heap (keptK pc94) = some (.bool true) := by kernel_rfl
theorem pc94_h : pc94.holds EE := ent_run envOk pbxT_holds _ _ pc94_ok pc94_run
-- decani/practice.May, 1183 steps
noncomputable def pc97 : Ent :=
  ⟨11, [.agg ⟨[iP 4, iP 5, iP 3, iP 0, iP 1, iP 2, iP 1, iP 1, .slice none 0 0, iP 2, .slice none 0 0, .slice (some ⟨5, 0, none⟩) 3 3, iP 7, iP 7, iP 4, iP 5, iP 4, iP 4, .slice (some ⟨6, 0, none⟩) 4 4, .slice none 0 0, .slice none 0 0, .slice (some ⟨7, 0, none⟩) 3 3, .slice (some ⟨8, 0, none⟩) 2 2]⟩, .slice none 0 0], 9,
   gC ++ [(5, .cells true 0 [iP 10, iP 10, iP 10, iP 11, iP 12, iP 12]),
    (6, .cells true 0 [iP 1, iP 0, iP 1, iP 0, iP 1, iP 1, iP 1, iP 0, iP 0, iP 0, iP 1, iP 0]),
    (7, .cells true 0 [iP 0, iP 2, iP 3]),
    (8, .cells true 0 [iP 0, iP 1, iP 1, iP 1, iP 3, iP 1])],
   [],
   .tuple ⟨[.bool false, iP 100]⟩⟩
theorem pc97_ok : pc97.okS EE.G = true := by kernel_rfl
theorem pc97_run : evT EE pbxT 1000000000 (.call pc97.f pc97.args) pc97.heap (keptK pc97) = some (.bool true) := by kernel_rfl
theorem pc97_h : pc97.holds EE := ent_run envOk pbxT_holds _ _ pc97_ok pc97_run
-- decani/practice.Alone, 320 steps
noncomputable def pc103 : Ent :=
  ⟨13, [.agg ⟨[iP 4, iP 5, iP 3, iP 0, iP 1, iP 2, iP 1, iP 1, .slice none 0 0, iP 4, .slice none 0 0, .slice (some ⟨5, 0, none⟩) 3 3, iP 3, iP 3, iP 4, iP 5, iP 4, iP 4, .slice (some ⟨6, 0, none⟩) 4 4, .slice none 0 0, .slice none 0 0, .slice (some ⟨7, 0, none⟩) 3 3, .slice (some ⟨8, 0, none⟩) 2 2]⟩, iN 0], 9,
   gC ++ [(5, .cells true 0 [iP 10, iP 10, iP 10, iP 11, iP 12, iP 12]),
    (6, .cells true 0 [iP 1, iP 0, iP 1, iP 0, iP 1, iP 1, iP 1, iP 0, iP 0, iP 0, iP 1, iP 0]),
    (7, .cells true 0 [iP 0, iP 2, iP 3]),
    (8, .cells true 0 [iP 0, iP 1, iP 1, iP 1, iP 3, iP 1])],
   [],
   .tuple ⟨[.slice none 0 0, iP 100]⟩⟩
theorem pc103_ok : pc103.okS EE.G = true := by kernel_rfl
theorem pc103_run : evT EE pbxT 1000000000 (.call pc103.f pc103.args) pc103.heap (keptK pc103) = some (.bool true) := by kernel_rfl
theorem pc103_h : pc103.holds EE := ent_run envOk pbxT_holds _ _ pc103_ok pc103_run
-- decani/practice.May, 167 steps
noncomputable def pc111 : Ent :=
  ⟨11, [.agg ⟨[iP 0, iP 0, iP 0, iP 0, iP 0, iP 0, iP 0, iP 0, .slice none 0 0, iP 0, .slice none 0 0, .slice none 0 0, iP 0, iP 0, iP 0, iP 0, iP 0, iP 0, .slice none 0 0, .slice none 0 0, .slice none 0 0, .slice none 0 0, .slice none 0 0]⟩, .slice none 0 0], 5,
   gC,
   [],
   .tuple ⟨[.bool false, iP 100]⟩⟩
theorem pc111_ok : pc111.okS EE.G = true := by kernel_rfl
theorem pc111_run : evT EE pbxT 1000000000 (.call pc111.f pc111.args) pc111.heap (keptK pc111) = some (.bool true) := by kernel_rfl
theorem pc111_h : pc111.holds EE := ent_run envOk pbxT_holds _ _ pc111_ok pc111_run
-- decani/practice.Keeps, 167 steps
noncomputable def pc112 : Ent :=
  ⟨12, [.agg ⟨[iP 0, iP 0, iP 0, iP 0, iP 0, iP 0, iP 0, iP 0, .slice none 0 0, iP 0, .slice none 0 0, .slice none 0 0, iP 0, iP 0, iP 0, iP 0, iP 0, iP 0, .slice none 0 0, .slice none 0 0, .slice none 0 0, .slice none 0 0, .slice none 0 0]⟩, .slice none 0 0], 5,
   gC,
   [],
   .tuple ⟨[iP 0, iP 100]⟩⟩
theorem pc112_ok : pc112.okS EE.G = true := by kernel_rfl
theorem pc112_run : evT EE pbxT 1000000000 (.call pc112.f pc112.args) pc112.heap (keptK pc112) = some (.bool true) := by kernel_rfl
theorem pc112_h : pc112.holds EE := ent_run envOk pbxT_holds _ _ pc112_ok pc112_run
end Go.Proofs.YtejlmnfioifniaaGreatDoor
